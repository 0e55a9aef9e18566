import Derived.Test.YthoelefkjpjhfaaGreatDoorK9
import Derived.Test.YthoelefkjpjhfaaGreatDoorM1
set_option linter.all false
open Bool renaming false → V
open Go.Proofs.YthoelefkjpjhfaaGreatDoor renaming vI → J
open Go.Value renaming int → Y
open Go.IntKind renaming u64 → O
open Go.Ending renaming returned → X
namespace Go.Proofs.YthoelefkjpjhfaaGreatDoor
open Go.RowKit
variable{f p mx one aI sg nan a b:Int}{w:World}
def aEq{P:Prop}(h:P:=by
 exact⟨(by dsimp only;omega),(by dsimp only;omega),hm,(λc=>by cases c),λ_=>rfl,by dsimp only;omega,by dsimp only;omega⟩):P:=h
def VG(p mn mx md:Int)(k:Nat)(x y:dM)(hx:VO x)(hy:VO y)(hxM:aG x.M)(hyM:aG y.M)(h2:max x.c y.c<3)(w:World):
  Bz p mn mx md k x.s x.e x.c (((x.M/18446744073709551616:Nat):Int)) (((x.M%18446744073709551616:Nat):Int)) V 0 y.s y.e y.c (((y.M/18446744073709551616:Nat):Int)) (((y.M%18446744073709551616:Nat):Int)) V 0 w ((bZ x y).s) ((bZ x y).e) ((bZ x y).c) ((((bZ x y).M /18446744073709551616:Nat):Int)) ((((bZ x y).M %18446744073709551616:Nat):Int)) V 0:=by
 have HT:Hid (∀w,QR 177 #[jI x.s x.e,jI y.s y.e] w (jI (mulS x.s y.s) (x.e+y.e))):=λw=>times_any x.s x.e y.s y.e hx.jM hy.jM (by have:=hx.e0;omega) (by have:=hx.e1;omega) (by have:=hy.e0;omega) (by have:=hy.e1;omega) w;have X_:KR 178 #[Y O ((x.M%18446744073709551616:Nat):Int),Y O ((y.M%18446744073709551616:Nat):Int)] (aN ((x.M*y.M/18446744073709551616:Nat):Int) ((x.M*y.M%18446744073709551616:Nat):Int)):=λw=>by
  rw[Nat.mod_eq_of_lt hxM,Nat.mod_eq_of_lt hyM];exact aRF x.M y.M hxM hyM w
 have c0:=hx.c0;have d0:=hy.c0;obtain⟨cx,sx,ex,Mx⟩:=x;obtain⟨cy,sy,ey,My⟩:=y;dsimp only at*
 rcases(om:cx=0\/cx=1\/cx=2)with rfl|rfl|rfl<;>rcases(om:cy=0\/cy=1\/cy=2)with rfl|rfl|rfl
 .rw[show bZ ⟨0,sx,ex,Mx⟩ ⟨0,sy,ey,My⟩=⟨0,mulS sx sy,ex+ey,0⟩ from by unfold bZ;dsimp only;rw[if_neg de,if_neg de,if_pos (by decide)]];refine(Zh p mn mx md k _ _ _ _ _ _ _ _ _ _ _ _ HT w).mono ?_;rintro r w' ⟨rfl,hg⟩;exact⟨by simp,hg⟩
 .rw[show bZ ⟨0,sx,ex,Mx⟩ ⟨1,sy,ey,My⟩=⟨0,mulS sx sy,ex+ey,0⟩ from by unfold bZ;dsimp only;rw[if_neg de,if_neg de,if_pos (by decide)]];refine(Zg p mn mx md k _ _ _ _ _ _ _ _ _ _ _ _ HT w).mono ?_;rintro r w' ⟨rfl,hg⟩;exact⟨by simp,hg⟩
 .rw[show bZ ⟨0,sx,ex,Mx⟩ ⟨2,sy,ey,My⟩=⟨4,mulS sx sy,ex+ey,0⟩ from by unfold bZ;dsimp only;rw[if_neg de,if_pos (by decide)]];refine(Zf p mn mx md k _ _ _ _ _ _ _ _ _ _ _ _ HT w).mono ?_;rintro r w' ⟨rfl,hg⟩;exact⟨by simp,hg⟩
 .rw[show bZ ⟨1,sx,ex,Mx⟩ ⟨0,sy,ey,My⟩=⟨0,mulS sx sy,ex+ey,0⟩ from by unfold bZ;dsimp only;rw[if_neg de,if_neg de,if_pos (by decide)]];refine(Ze p mn mx md k _ _ _ _ _ _ _ _ _ _ _ _ HT w).mono ?_;rintro r w' ⟨rfl,hg⟩;exact⟨by simp,hg⟩
 .rw[show bZ ⟨1,sx,ex,Mx⟩ ⟨1,sy,ey,My⟩=⟨1,mulS sx sy,ex+ey,Mx*My⟩ from by unfold bZ;dsimp only;rw[if_neg de,if_neg de,if_neg de,if_neg (by decide)]];exact Zd p mn mx md k _ _ _ _ _ _ _ _ _ _ _ _ HT _ _ X_ w
 .rw[show bZ ⟨1,sx,ex,Mx⟩ ⟨2,sy,ey,My⟩=⟨2,mulS sx sy,ex+ey,0⟩ from by unfold bZ;dsimp only;rw[if_neg de,if_neg de,if_neg de,if_pos (by decide)]];refine(Zc p mn mx md k _ _ _ _ _ _ _ _ _ _ _ _ HT w).mono ?_;rintro r w' ⟨rfl,hg⟩;exact⟨by simp,hg⟩
 .rw[show bZ ⟨2,sx,ex,Mx⟩ ⟨0,sy,ey,My⟩=⟨4,mulS sx sy,ex+ey,0⟩ from by unfold bZ;dsimp only;rw[if_neg de,if_pos (by decide)]];refine(Zb p mn mx md k _ _ _ _ _ _ _ _ _ _ _ _ HT w).mono ?_;rintro r w' ⟨rfl,hg⟩;exact⟨by simp,hg⟩
 .rw[show bZ ⟨2,sx,ex,Mx⟩ ⟨1,sy,ey,My⟩=⟨2,mulS sx sy,ex+ey,0⟩ from by unfold bZ;dsimp only;rw[if_neg de,if_neg de,if_neg de,if_pos (by decide)]];refine(Za p mn mx md k _ _ _ _ _ _ _ _ _ _ _ _ HT w).mono ?_;rintro r w' ⟨rfl,hg⟩;exact⟨by simp,hg⟩
 .rw[show bZ ⟨2,sx,ex,Mx⟩ ⟨2,sy,ey,My⟩=⟨2,mulS sx sy,ex+ey,0⟩ from by unfold bZ;dsimp only;rw[if_neg de,if_neg de,if_neg de,if_pos (by decide)]];refine(Y_ p mn mx md k _ _ _ _ _ _ _ _ _ _ _ _ HT w).mono ?_;rintro r w' ⟨rfl,hg⟩;exact⟨by simp,hg⟩
def pW(x y:dM)(h:3<=max x.c y.c):bZ x y=⟨max x.c y.c,0,0,0⟩:=by unfold bZ;rw[if_pos h]
def vV{x y:dM}(hx:VO x)(hy:VO y)(hxn:nb x.M<=53)(hyn:nb y.M<=53)(x0:-2000<=x.e)(x1:x.e<=2000)(y0:-2000<=y.e)(y1:y.e<=2000):VO (bZ x y):=by
 have hm:mulS x.s y.s=0\/mulS x.s y.s=1:=by unfold mulS;split<;>simp
 have cx4:=hx.c4;have cy4:=hy.c4;have cx0:=hx.c0;have cy0:=hy.c0;unfold bZ;split
 .rename_i h;exact⟨by dsimp only;omega,by dsimp only;omega,.inl rfl,λc=>by dsimp only at c;omega,λ_=>rfl,(by dsimp only;omega),(by dsimp only;omega)⟩
 .rename_i h
  split
  .exact aEq
  .split
   .exact aEq
   .split
    .exact aEq
    .rename_i h1 h2 h3
     have ex:=(hx.fin om).1;have ey:=(hy.fin om).1;refine⟨(by dsimp only;omega),(by dsimp only;omega),hm,λ_=>⟨Nat.mul_pos ex ey,?_⟩,λc=>absurd rfl c,by dsimp only;omega,by dsimp only;omega⟩;refine sW ?_;have a1:=yX x.M;have a2:=yX y.M;have a3:=fZ hxn;have a4:=fZ hyn;have:x.M*y.M<2^53*2^53:=Nat.mul_lt_mul'' om om;rw[<-Nat.pow_add]at this;exact this
def rO(p mn mx md:Int)(k:Nat)(x y:dM)(hx:VO x)(hy:VO y)(hxM:aG x.M)(hyM:aG y.M)(w:World):
  QR 173 #[dN p mn mx md k,.func (.func 84) #[] #[],aU x.s x.e x.c (((x.M/18446744073709551616:Nat):Int)) (((x.M%18446744073709551616:Nat):Int)) V 0,aU y.s y.e y.c (((y.M/18446744073709551616:Nat):Int)) (((y.M%18446744073709551616:Nat):Int)) V 0] w (aU ((bZ x y).s) ((bZ x y).e) ((bZ x y).c) ((((bZ x y).M /18446744073709551616:Nat):Int)) ((((bZ x y).M %18446744073709551616:Nat):Int)) V 0):=by
 by_cases h:3<=max x.c y.c
 .refine(jG p mn mx md k _ _ _ _ _ _ _ _ _ _ _ _ 84 _ rfl h w).mono ?_;rintro r w' ⟨rfl,hg⟩;rw[pW x y h];exact⟨by simp,hg⟩
 .refine(JO p mn mx md k _ _ _ _ _ _ _ _ _ _ _ _ _ rfl om (λos oe oc oh ol ot=>os=(bZ x y).s /\oe=(bZ x y).e /\oc=(bZ x y).c /\oh=(((bZ x y).M /18446744073709551616:Nat):Int)/\ol=(((bZ x y).M %18446744073709551616:Nat):Int)/\ot=V) (λw=>?_) w).mono ?_
  .refine(VG p mn mx md k x y hx hy hxM hyM om w).mono ?_;rintro r w' ⟨rfl,hg⟩;exact⟨_,_,_,_,_,_,⟨rfl,rfl,rfl,rfl,rfl,rfl⟩,rfl,hg⟩
  .rintro r w' ⟨os,oe,oc,oh,ol,ot,⟨rfl,rfl,rfl,rfl,rfl,rfl⟩,rfl,hg⟩;exact⟨rfl,hg⟩
def Qi(h:bD f p mx one aI sg nan)(aj:Int)(m0:0<=aj)(m1:aj<=4)(x y:dM)(hx:VO x)(hy:VO y)(cx:x.c<=1)(cy:y.c<=1)(x0:-4000<=x.e)(x1:x.e<=4000)(y0:-4000<=y.e)(y1:y.e<=4000)(bx kx qx gy ky qy:Nat)(HX:aH 4 w (aC bx kx qx) x.M)(HY:aH 4 w (aC gy ky qy) y.M):
  CT 143 #[J f,J aj,.agg #[J x.s,aC bx kx qx,J x.e,.bool V],.agg #[J y.s,aC gy ky qy,J y.e,.bool V]] w λe w'=>∃z fl,bY p (1-mx) mx one aI sg nan aj (jy aj x y) z fl/\e=X (aP z fl)/\Gb w w':=by
 have c0:=hx.c0;have d0:=hy.c0;have zx:=TV HX;have zy:=TV HY;have WQ:∀s:Int,(s=0\/s=1)->yG f s (sw s sg 0) 0:=λs hs w=>jJ h s hs w;have aDx:∀o:dM,o=Pg aj->bY p (1-mx) mx one aI sg nan aj o (sw (if aj=4 then 1 else 0) sg 0) 0:=λo ho=>by rw[ho];exact .inl ⟨rfl,rfl,rfl⟩
 have aGF:∀(ex ey sT:Int) (MT:Nat),-4000<=ex->ex<=4000->-4000<=ey->ey<=4000->aL4 x.s y.s (x.M*2^(ex-min ex ey).toNat) (y.M*2^(ey-min ex ey).toNat) sT MT->Hid (∀w',Gb w w'->CT 226 #[.agg #[J x.s,aC bx kx qx,J ex,.bool V],.agg #[J y.s,aC gy ky qy,J ey,.bool V]] w' λe aT=>∃b k c,aH 1000 aT (aC b k c) MT/\e=X (.agg #[J sT,aC b k c,J (min ex ey),.bool V])/\Gb w' aT):=λex ey sT MT a1 a2 a3 a4 hT w' hg=>Wy x.s y.s ex ey bx kx qx gy ky qy x.M y.M (HX.gb hg) (HY.gb hg) a1 a2 a3 a4 sT MT hT;rcases(om:x.c=0\/x.c=1)with xc|xc<;>rcases(om:y.c=0\/y.c=1)with yc|yc
 ·--two zeros
  have xM:=hx.nil om;have yM:=hy.nil om;rw[decide_eq_true xM]at zx;rw[decide_eq_true yM]at zy;have WS:jy aj x y=if x.s=y.s then x else Pg aj:=by
   unfold jy;rw[if_neg (om:¬3<=max x.c y.c),if_neg (om:¬y.c<x.c),if_neg (om:¬x.c<y.c),if_neg (om:¬x.c=1),if_neg (om:¬x.c=2)]
  by_cases hs:x.s=y.s
  .have hT:=aGF y.e y.e x.s 0 y0 y1 y0 y1 (.inl ⟨hs,rfl,by rw[xM,yM];simp⟩);refine(aC9 f aj x.s y.s x.e y.e x.s _ bx kx qx gy ky qy 0 zx zy hT rfl (by simp[hs]) _ (WQ x.s hx.jM)).mono ?_;rintro r w' ⟨rfl,hg⟩;refine⟨_,_,?_,rfl,hg⟩;rw[WS,if_pos hs];exact .inl ⟨xc,rfl,rfl⟩
  .have hT:=aGF y.e y.e x.s 0 y0 y1 y0 y1 (.inr (.inl ⟨hs,by rw[xM,yM];simp,rfl,by rw[xM,yM];simp⟩));rw[WS,if_neg hs];by_cases hm:aj=4
   .refine(aDb f aj x.s y.s x.e y.e x.s _ bx kx qx gy ky qy 0 zx zy hT rfl (by simp[hs]) (by simp[hm]) _ (WQ 1 (.inr rfl))).mono ?_;rintro r w' ⟨rfl,hg⟩;have:=aDx _ rfl;rw[if_pos hm]at this;exact⟨_,_,this,rfl,hg⟩
   .refine(aDa f aj x.s y.s x.e y.e x.s _ bx kx qx gy ky qy 0 zx zy hT rfl (by simp[hs]) (by simp[hm]) _ (WQ 0 (.inl rfl))).mono ?_;rintro r w' ⟨rfl,hg⟩;have:=aDx _ rfl;rw[if_neg hm]at this;exact⟨_,_,this,rfl,hg⟩
 ·--a zero and a number
  have xM:=hx.nil om;have yM:=(hy.fin yc).1;rw[decide_eq_true xM]at zx;rw[decide_eq_false (by omega)]at zy;have WS:jy aj x y=y:=by
   unfold jy;rw[if_neg (om:¬3<=max x.c y.c),if_neg (om:¬y.c<x.c),if_pos (om:x.c<y.c)]
  have hT:=aGF y.e y.e y.s y.M y0 y1 y0 y1 (by
   have e1:(y.e-min y.e y.e).toNat =0:=om;rw[e1,xM];simp only[Nat.pow_zero,Nat.mul_one];by_cases hs:x.s=y.s
   .exact .inl ⟨hs,hs.symm,om⟩
   .exact .inr (.inr ⟨hs,om,rfl,om⟩))
  rw[(om:min y.e y.e=y.e)]at hT;refine(aDc f aj x.s y.s x.e y.e y.s y.e bx kx qx gy ky qy y.M zx zy hT yM (λz fl=>bY p (1-mx) mx one aI sg nan aj y z fl) (λv w hB=>mW h aj m0 m1 y yc hy.jM yM om om 1000 om v w hB)).mono ?_;rw[WS];exact λe w' h=>h
 ·--a number and a zero
  have xM:=(hx.fin xc).1;have yM:=hy.nil om;rw[decide_eq_false (by omega)]at zx;rw[decide_eq_true yM]at zy;have WS:jy aj x y=x:=by
   unfold jy;rw[if_neg (om:¬3<=max x.c y.c),if_pos (om:y.c<x.c)]
  have hT:=aGF x.e x.e x.s x.M x0 x1 x0 x1 (by
   have e1:(x.e-min x.e x.e).toNat =0:=om;rw[e1,yM];simp only[Nat.pow_zero,Nat.mul_one];by_cases hs:x.s=y.s
   .exact .inl ⟨hs,rfl,om⟩
   .exact .inr (.inl ⟨hs,om,rfl,om⟩))
  rw[(om:min x.e x.e=x.e)]at hT;refine(aDd f aj x.s y.s x.e y.e x.s x.e bx kx qx gy ky qy x.M zx zy hT xM (λz fl=>bY p (1-mx) mx one aI sg nan aj x z fl) (λv w hB=>mW h aj m0 m1 x xc hx.jM xM om om 1000 om v w hB)).mono ?_;rw[WS];exact λe w' h=>h
 ·--two numbers
  have xM:=(hx.fin xc).1;have yM:=(hy.fin yc).1;rw[decide_eq_false (by omega)]at zx;rw[decide_eq_false (by omega)]at zy;have WS:jy aj x y=xC aj x y:=by
   unfold jy;rw[if_neg (om:¬3<=max x.c y.c),if_neg (om:¬y.c<x.c),if_neg (om:¬x.c<y.c),if_pos xc]
  have aDy:-5000<=min x.e y.e/\min x.e y.e<=5000:=om;rw[WS];have hb:mM x y=(x.M*2^(x.e-min x.e y.e).toNat,y.M*2^(y.e-min x.e y.e).toNat):=rfl;obtain⟨A,hA⟩:=dK (x.M*2^(x.e-min x.e y.e).toNat);obtain⟨B,hB⟩:=dK (y.M*2^(y.e-min x.e y.e).toNat);have hA0:0<A:=by rw[<-hA];exact Nat.mul_pos xM (Nat.pow_pos de)
  have zY:0<B:=by rw[<-hB];exact Nat.mul_pos yM (Nat.pow_pos de)
  have WR:=aGF x.e y.e;rw[hA,hB]at hb WR;unfold xC;rw[hb];dsimp only
  by_cases hs:x.s=y.s
  .rw[if_pos hs];exact Fz f aj x.s y.s x.e y.e x.s _ bx kx qx gy ky qy (A+B) zx zy (WR _ _ x0 x1 y0 y1 (.inl ⟨hs,rfl,rfl⟩)) om _ (λv w hB=>mW h aj m0 m1 ⟨1,x.s,min x.e y.e,A+B⟩ rfl hx.jM (by dsimp only;omega) aDy.1 aDy.2 1000 om v w hB)
  .rw[if_neg hs];by_cases xg:A=B
   .rw[if_pos xg];have hT:=WR x.s 0 x0 x1 y0 y1 (.inr (.inl ⟨hs,om,rfl,om⟩));by_cases hm:aj=4
    .refine(aDf f aj x.s y.s x.e y.e x.s _ bx kx qx gy ky qy 0 zx zy hT rfl (by simp[hs]) (by simp[hm]) _ (WQ 1 (.inr rfl))).mono ?_;rintro r w' ⟨rfl,hg⟩;have:=aDx _ rfl;rw[if_pos hm]at this;exact⟨_,_,this,rfl,hg⟩
    .refine(aDe f aj x.s y.s x.e y.e x.s _ bx kx qx gy ky qy 0 zx zy hT rfl (by simp[hs]) (by simp[hm]) _ (WQ 0 (.inl rfl))).mono ?_;rintro r w' ⟨rfl,hg⟩;have:=aDx _ rfl;rw[if_neg hm]at this;exact⟨_,_,this,rfl,hg⟩
   .rw[if_neg xg];by_cases fF:B<A
    .rw[if_pos fF];exact Fz f aj x.s y.s x.e y.e x.s _ bx kx qx gy ky qy (A-B) zx zy (WR _ _ x0 x1 y0 y1 (.inr (.inl ⟨hs,om,rfl,rfl⟩))) om _ (λv w hB=>mW h aj m0 m1 ⟨1,x.s,min x.e y.e,A-B⟩ rfl hx.jM (by dsimp only;omega) aDy.1 aDy.2 1000 om v w hB)
    .rw[if_neg fF];exact Fz f aj x.s y.s x.e y.e y.s _ bx kx qx gy ky qy (B-A) zx zy (WR _ _ x0 x1 y0 y1 (.inr (.inr ⟨hs,om,rfl,rfl⟩))) om _ (λv w hB=>mW h aj m0 m1 ⟨1,y.s,min x.e y.e,B-A⟩ rfl hy.jM (by dsimp only;omega) aDy.1 aDy.2 1000 om v w hB)
def YA(aj:Int)(x y:dM)(hx:VO x)(hy:VO y):0<=(jy aj x y).c /\(jy aj x y).c <=4:=by
 have:=hx.c0;have:=hx.c4;have:=hy.c0;have:=hy.c4;have ht:=aAS aj x y hx.jM hy.jM;unfold jy;split
 .dsimp only;omega
 .split
  .omega
  .split
   .omega
   .split
    .omega
    .split
     .omega
     .split
      .exact⟨de,de⟩
      .unfold Pg;dsimp only;omega
def aEs{P:Prop}(h:P:=by
 rintro e w' ⟨rfl,hg⟩;exact⟨_,_,oC _ true jl om om,rfl,hg⟩):P:=h
def aEm{P:Prop}(h:P:=by
 rintro e w' ⟨rfl,hg⟩;exact⟨_,_,.inr (.inr ⟨hf,rfl,rfl⟩),rfl,hg⟩):P:=h
def aEo{P:Prop}(h:P:=by
 rintro e w' ⟨rfl,hg⟩;exact⟨_,_,.inr (.inl ⟨p,mx,one,aI,sg,nan,hF,om,rfl,rfl⟩),rfl,hg⟩):P:=h
def aEp{P:Prop}(h:P:=by
 rintro e w' ⟨Z,fl,hp,rfl,hg⟩;exact⟨_,_,.inl ⟨p,mx,one,aI,sg,nan,x,y,hF,hm,hx,hy,hp⟩,rfl,hg⟩):P:=h
def aAM{P:Prop}(h:P:=by
 rintro e w' ⟨rfl,hg⟩;exact⟨_,_,oC _ _ (by rw[decide_eq_decide];omega) om om,rfl,hg⟩):P:=h
def aEv{P:Prop}(h:P:=by
 rcases(om:2*sg<=a\/2*sg<=b)with c|c
 .have:=jd h hx c;subst this;dsimp only at*;omega
 .have:=jd h hy c;subst this;dsimp only at*;omega):P:=h
def Le(h:bD f p mx one aI sg nan)(aj a b:Int)(hm:0<=aj/\aj<=4)(a0:0<=a)(a1:aG a)(b0:0<=b)(b1:aG b){x y:dM}(hx:dF p mx one aI sg nan a x)(hy:dF p mx one aI sg nan b y)(w:World):
  CT 62 #[J f,J aj,Y O a,Y O b] w λe w'=>∃Z fl,bY p (1-mx) mx one aI sg nan aj (jy aj x y) Z fl/\e=X (aP Z fl)/\Gb w w':=by
 obtain⟨v1,v2,v3,v4,v5,v6⟩:=bK h hx;obtain⟨u1,u2,u3,u4,u5,u6⟩:=bK h hy;have xc0:=v1.c0;have xc4:=v1.c4;have yc0:=u1.c0;have yc4:=u1.c4;by_cases rM:a<2*sg/\b<2*sg
 .obtain⟨fa,NP⟩:=rM;have HF:dG f aj a b true:=λw=>jK h aj a b hm.1 hm.2 a0 fa b0 NP w;have eH:=iH h a a0 fa hx;have fP:=iH h b b0 NP hy;have HQ:∀(z:dM) (t:Bool),t=decide (3<=z.c)->bQ z.c z.s z.e (((z.M:Nat):Int)) t:=λz t ht w=>iF _ _ _ _ t ht w;have su:∀t:Bool,oU f t nan (if t then 1 else 0):=λt w=>lZ h t _ rfl w;by_cases c1:3<=x.c
  .rw[n_ aj x y (by omega)];by_cases c2:x.c=4
   .refine(aCG f aj a b _ _ _ _ _ _ _ _ HF eH fP (HQ x true (by simp[c1])) (by simp[c2]) nan _ (su true) w).mono ?_;exact aEs
   .refine(aCF f aj a b _ _ _ _ _ _ _ _ HF eH fP (HQ x true (by simp[c1])) (by simp[c2]) (decide (y.c=4)) (bq _ _) nan _ (su _) w).mono ?_;exact aAM
  .by_cases c2:3<=y.c
   .rw[n_ aj x y (by omega)];refine(aCE f aj a b _ _ _ _ _ _ _ _ HF eH fP (HQ x V jl) (HQ y true (by simp[c2])) jl (decide (y.c=4)) (bq _ _) nan _ (su _) w).mono ?_;exact aAM
   .have oO:=HQ x V jl;have sH:=HQ y V jl;by_cases c3:x.c=2
    .by_cases c4:y.c=2
     .by_cases c5:x.s=y.s
      .refine(aCI f aj a b _ _ _ _ _ _ _ _ HF eH fP oO sH c3 c4 c5 (sw x.s sg aI) 0 (λw=>dQ h x.s v1.jM w) w).mono ?_;rintro e w' ⟨rfl,hg⟩;refine⟨_,_,?_,rfl,hg⟩;unfold jy;rw[if_neg (om:¬3<=max x.c y.c),if_neg (om:¬y.c<x.c),if_neg (om:¬x.c<y.c),if_neg (om:¬x.c=1),if_pos c5];exact .inr (.inr (.inl ⟨c3,rfl,rfl⟩))
      .refine(aCK f aj a b _ _ _ _ _ _ _ _ HF eH fP oO sH c3 c4 (by simp[c5]) nan 1 (λw=>cO h w) w).mono ?_;rintro e w' ⟨rfl,hg⟩;refine⟨_,_,?_,rfl,hg⟩;unfold jy;rw[if_neg (om:¬3<=max x.c y.c),if_neg (om:¬y.c<x.c),if_neg (om:¬x.c<y.c),if_neg (om:¬x.c=1),if_neg c5,if_pos c3];exact iW rfl
     .refine(aCJ f aj a b _ _ _ _ _ _ _ _ HF eH fP oO sH c3 (by simp[c4]) (sw x.s sg aI) 0 (λw=>dQ h x.s v1.jM w) w).mono ?_;rintro e w' ⟨rfl,hg⟩;refine⟨_,_,?_,rfl,hg⟩;unfold jy;rw[if_neg (om:¬3<=max x.c y.c),if_pos (om:y.c<x.c)];exact .inr (.inr (.inl ⟨c3,rfl,rfl⟩))
    .by_cases c4:y.c=2
     .refine(aCH f aj a b _ _ _ _ _ _ _ _ HF eH fP oO sH (by simp[c3]) c4 (sw y.s sg aI) 0 (λw=>dQ h y.s u1.jM w) w).mono ?_;rintro e w' ⟨rfl,hg⟩;refine⟨_,_,?_,rfl,hg⟩;unfold jy;rw[if_neg (om:¬3<=max x.c y.c),if_neg (om:¬y.c<x.c),if_pos (om:x.c<y.c)];exact .inr (.inr (.inl ⟨c4,rfl,rfl⟩))
     .exact aFs f aj a b _ _ _ _ _ _ _ _ x.M y.M HF eH fP oO sH (by simp[c3]) (by simp[c4]) (λw=>lY _ _ _ x.M om w) (λw=>lY _ _ _ y.M om w) (λZ fl=>bY p (1-mx) mx one aI sg nan aj (jy aj x y) Z fl) (λba ka qa bb kb qb w HX HY=>Qi h aj hm.1 hm.2 x y v1 u1 om om om om om om ba ka qa bb kb qb HX HY) w
 .refine(LH f aj a b (λw=>eG f aj a b a0 a1 b0 b1 (qP h a1 b1 om) w) nan 1 (λw=>cO h w) w).mono ?_;rintro e w' ⟨rfl,hg⟩;refine⟨_,_,?_,rfl,hg⟩;have:max x.c y.c=4:=by
   exact aEv
  rw[n_ aj x y (by omega)];exact iW this
def U_(f aj a b:Int)(a0:0<=a)(a1:aG a)(b0:0<=b)(b1:aG b)(w:World):
  CT 62 #[J f,J aj,Y O a,Y O b] w λe w'=>∃Z fl,qZ jy f aj a b Z fl/\e=X (aP Z fl)/\Gb w w':=by
 by_cases hf:f=0\/f=1
 .obtain⟨p,mx,one,aI,sg,nan,hF⟩:=eX f hf;by_cases hm:0<=aj/\aj<=4
  .obtain⟨x,hx⟩:=eu hF a a0 a1;obtain⟨y,hy⟩:=eu hF b b0 b1;refine(Le hF aj a b hm a0 a1 b0 b1 hx hy w).mono ?_;exact aEp
  .refine(LH f aj a b (λw=>eG f aj a b a0 a1 b0 b1 (.inl om) w) nan 1 (λw=>cO hF w) w).mono ?_;exact aEo
 .refine(LH f aj a b (λw=>eG f aj a b a0 a1 b0 b1 (.inr (.inl hf)) w) _ 1 (λw=>lN f hf w) w).mono ?_;exact aEm
def add_same(f aj a b:Int)(a0:0<=a)(a1:aG a)(b0:0<=b)(b1:aG b):
  ∃Z fl:Int,qZ jy f aj a b Z fl/\(∀w,EF f aj a b w Z fl)/\
   (∀w,Fm w->QR 26 #[J f,J aj,Y O a,Y O b] w (aP Z fl)):=
 TT jy 62 26 (λaj x y hx hy _ _ _ _ _ _=>YA aj x y hx hy) f aj a b a0 a1 b0 b1 (U_ f aj a b a0 a1 b0 b1) (WO f aj a b a0 a1 b0 b1)
def aEt{P:Prop}(h:P:=by
 rintro e aT ⟨rfl,dL⟩;exact⟨_,_,.inr (.inl ⟨p,mx,one,aI,sg,nan,hF,om,rfl,rfl⟩),rfl,dL⟩):P:=h
def aKT{P:Prop}(h:P:=by
 rintro e aT ⟨Z,fl,hp,rfl,dL⟩;rw[zU]at hp;exact⟨_,_,.inl ⟨p,mx,one,aI,sg,nan,x,y,hF,hm,hx,hy,hp⟩,rfl,dL⟩):P:=h
def uX(aj:Int)(x y:dM):dM:=bZ x y
def I8(f aj a b:Int)(a0:0<=a)(a1:aG a)(b0:0<=b)(b1:aG b)(w:World)(hw:Fm w):
  CT 28 #[J f,J aj,Y O a,Y O b] w λe w'=>∃Z fl,qZ uX f aj a b Z fl/\e=X (aP Z fl)/\Gr w w':=by
 refine ZP f aj a b (qZ uX f aj a b) (λw' hg=>?_);have y8:=hw.gr hg;by_cases hf:f=0\/f=1
 .obtain⟨p,mx,one,aI,sg,nan,hF⟩:=eX f hf;obtain⟨mn,fb,sp,hM,zU,PD⟩:=hF.m;by_cases hm:0<=aj/\aj<=4
  .obtain⟨k,hk⟩:=kW aj hm.1 hm.2;obtain⟨x,hx,HA⟩:=jf hF hM a a0 a1;obtain⟨y,hy,HB⟩:=jf hF hM b b0 b1;obtain⟨v1,v2,v3,v4,v5,v6⟩:=bK hF hx;obtain⟨u1,u2,u3,u4,u5,u6⟩:=bK hF hy;refine(TS p mn mx aj f k 84 a b _ _ _ _ _ _ _ _ _ _ _ _ (λaT dL=>dV hF hM aj k (λw=>gW aj k hk w) (y8.gr dL)) HA HB (pG (uX aj x y)) (λw=>(rO p mn mx aj k x y v1 u1 om om w).mono (λe w' ⟨he,hg⟩=>⟨_,_,_,_,_,_,(vV v1 u1 v6 u6 v4 v5 u4 u5).same,he,hg⟩)) (bY p mn mx one aI sg nan aj (uX aj x y)) (λos oe oc oh ol ot w hq=>oz hM aj k hk _ os oe oc oh ol ot hq w)).mono ?_;exact aKT
  .refine(j_ p mn mx aj nan f aj a b (λaT dL=>gJ hF hM aj (λw=>jR aj om w) (y8.gr dL)) (λw=>dh hM w) 84).mono ?_;exact aEt
 .refine(j_ _ _ _ _ _ f aj a b (λaT dL=>dP f aj hf (y8.gr dL)) (λw=>dh m64 w) 84).mono ?_;rintro e aT ⟨rfl,dL⟩;exact⟨_,_,.inr (.inr ⟨hf,rfl,rfl⟩),rfl,dL⟩
def YE(h:bD f p mx one aI sg nan)(aj a b:Int)(hm:0<=aj/\aj<=4)(a0:0<=a)(a1:aG a)(b0:0<=b)(b1:aG b){x y:dM}(hx:dF p mx one aI sg nan a x)(hy:dF p mx one aI sg nan b y)(w:World):
  CT 64 #[J f,J aj,Y O a,Y O b] w λe w'=>∃Z fl,bY p (1-mx) mx one aI sg nan aj (uX aj x y) Z fl/\e=X (aP Z fl)/\Gb w w':=by
 obtain⟨v1,v2,v3,v4,v5,v6⟩:=bK h hx;obtain⟨u1,u2,u3,u4,u5,u6⟩:=bK h hy;have xc0:=v1.c0;have xc4:=v1.c4;have yc0:=u1.c0;have yc4:=u1.c4;have I9:mulS x.s y.s=0\/mulS x.s y.s=1:=by unfold mulS;split<;>simp
 unfold uX;by_cases rM:a<2*sg/\b<2*sg
 .obtain⟨fa,NP⟩:=rM;have HF:dG f aj a b true:=λw=>jK h aj a b hm.1 hm.2 a0 fa b0 NP w;have eH:=iH h a a0 fa hx;have fP:=iH h b b0 NP hy;have HQ:∀(z:dM) (t:Bool),t=decide (3<=z.c)->bQ z.c z.s z.e (((z.M:Nat):Int)) t:=λz t ht w=>iF _ _ _ _ t ht w;have su:∀t:Bool,oU f t nan (if t then 1 else 0):=λt w=>lZ h t _ rfl w;by_cases c1:3<=x.c
  .rw[pW x y (by omega)];by_cases c2:x.c=4
   .refine(aCl f aj a b _ _ _ _ _ _ _ _ HF eH fP (HQ x true (by simp[c1])) (by simp[c2]) nan _ (su true) w).mono ?_;exact aEs
   .refine(aCk f aj a b _ _ _ _ _ _ _ _ HF eH fP (HQ x true (by simp[c1])) (by simp[c2]) (decide (y.c=4)) (bq _ _) nan _ (su _) w).mono ?_;exact aAM
  .by_cases c2:3<=y.c
   .rw[pW x y (by omega)];refine(aCj f aj a b _ _ _ _ _ _ _ _ HF eH fP (HQ x V jl) (HQ y true (by simp[c2])) jl (decide (y.c=4)) (bq _ _) nan _ (su _) w).mono ?_;exact aAM
   .have oO:=HQ x V jl;have sH:=HQ y V jl;have HPr:∀t:Bool,t=decide (x.c=2/\y.c=0\/x.c=0/\y.c=2)->um x.c x.s x.e (((x.M:Nat):Int)) y.c y.s y.e (((y.M:Nat):Int)) t:=λt ht w=>yj _ _ _ _ _ _ _ _ t ht w;have HM:Hid (∀w,CT 147 #[d_ x.c x.s x.e (((x.M:Nat):Int)),d_ y.c y.s y.e (((y.M:Nat):Int))] w λe w'=>∃b k cc,aH 4 w' (aC b k cc) (x.M*y.M)/\e=X (.agg #[J (mulS x.s y.s),aC b k cc,J (x.e+y.e),.bool V])/\Gb w w'):=λw=>A_ _ _ _ _ _ _ x.M y.M om om v1.jM u1.jM om om om om w;unfold bZ;rw[if_neg (om:¬3<=max x.c y.c)];by_cases c3:x.c=2/\y.c=0\/x.c=0/\y.c=2
    .rw[if_pos (om:min x.c y.c=0/\max x.c y.c=2)];refine(aIw f aj a b _ _ _ _ _ _ _ _ HF eH fP oO sH (HPr true (by simp[c3])) nan 1 (λw=>cO h w) w).mono ?_;rintro e w' ⟨rfl,hg⟩;exact⟨_,_,iW rfl,rfl,hg⟩
    .have hP:=HPr V (decide_eq_false c3).symm;rw[if_neg (om:¬(min x.c y.c=0/\max x.c y.c=2))];by_cases c4:x.c=2
     .rw[if_neg (om:¬min x.c y.c=0),if_pos (om:max x.c y.c=2)];refine(aCn f aj a b _ _ _ _ _ _ _ _ _ _ _ HF eH fP oO sH hP HM c4 (sw (mulS x.s y.s) sg aI) 0 (λw=>dQ h _ I9 w) w).mono ?_;rintro e w' ⟨rfl,hg⟩;exact⟨_,_,.inr (.inr (.inl ⟨rfl,rfl,rfl⟩)),rfl,hg⟩
     .by_cases c5:y.c=2
      .rw[if_neg (om:¬min x.c y.c=0),if_pos (om:max x.c y.c=2)];refine(aCm f aj a b _ _ _ _ _ _ _ _ _ _ _ HF eH fP oO sH hP HM (by simp[c4]) c5 (sw (mulS x.s y.s) sg aI) 0 (λw=>dQ h _ I9 w) w).mono ?_;rintro e w' ⟨rfl,hg⟩;exact⟨_,_,.inr (.inr (.inl ⟨rfl,rfl,rfl⟩)),rfl,hg⟩
      .by_cases c6:min x.c y.c=0
       .rw[if_pos c6];have hz:x.M*y.M=0:=by
         rcases(om:x.c=0\/y.c=0)with c|c
         .rw[v3 om,Nat.zero_mul]
         .rw[u3 om,Nat.mul_zero]
        refine(aCi f aj a b _ _ _ _ _ _ _ _ _ _ _ HF eH fP oO sH hP HM (by simp[c4]) (by simp[c5]) hz (sw (mulS x.s y.s) sg 0) 0 (λw=>jJ h _ I9 w) w).mono ?_;rintro e w' ⟨rfl,hg⟩;exact⟨_,_,.inl ⟨rfl,rfl,rfl⟩,rfl,hg⟩
       .rw[if_neg c6,if_neg (om:¬max x.c y.c=2)];have ex:=(v1.fin om).1;have ey:=(u1.fin om).1;have jm:0<x.M*y.M:=Nat.mul_pos ex ey;exact aFo f aj a b _ _ _ _ _ _ _ _ _ _ _ HF eH fP oO sH hP HM (by simp[c4]) (by simp[c5]) jm _ (λv w hB=>mW h aj hm.1 hm.2 ⟨1,mulS x.s y.s,x.e+y.e,x.M*y.M⟩ rfl I9 jm (by dsimp only;omega) (by dsimp only;omega) 4 om v w hB) w
 .refine(Lu f aj a b (λw=>eG f aj a b a0 a1 b0 b1 (qP h a1 b1 om) w) nan 1 (λw=>cO h w) w).mono ?_;rintro e w' ⟨rfl,hg⟩;refine⟨_,_,?_,rfl,hg⟩;have:max x.c y.c=4:=by
   exact aEv
  rw[pW x y (by omega)];exact iW this
def Gx(f aj a b:Int)(a0:0<=a)(a1:aG a)(b0:0<=b)(b1:aG b)(w:World):
  CT 64 #[J f,J aj,Y O a,Y O b] w λe w'=>∃Z fl,qZ uX f aj a b Z fl/\e=X (aP Z fl)/\Gb w w':=by
 by_cases hf:f=0\/f=1
 .obtain⟨p,mx,one,aI,sg,nan,hF⟩:=eX f hf;by_cases hm:0<=aj/\aj<=4
  .obtain⟨x,hx⟩:=eu hF a a0 a1;obtain⟨y,hy⟩:=eu hF b b0 b1;refine(YE hF aj a b hm a0 a1 b0 b1 hx hy w).mono ?_;exact aEp
  .refine(Lu f aj a b (λw=>eG f aj a b a0 a1 b0 b1 (.inl om) w) nan 1 (λw=>cO hF w) w).mono ?_;exact aEo
 .refine(Lu f aj a b (λw=>eG f aj a b a0 a1 b0 b1 (.inr (.inl hf)) w) _ 1 (λw=>lN f hf w) w).mono ?_;exact aEm
def aIS(aj:Int)(x y:dM)(hx:VO x)(hy:VO y)(h1:nb x.M<=53)(h2:nb y.M<=53)(h3:-2000<=x.e)(h4:x.e<=2000)(h5:-2000<=y.e)(h6:y.e<=2000):0<=(uX aj x y).c /\(uX aj x y).c <=4:=⟨(vV hx hy h1 h2 h3 h4 h5 h6).c0,(vV hx hy h1 h2 h3 h4 h5 h6).c4⟩
def yY(f aj a b:Int)(a0:0<=a)(a1:aG a)(b0:0<=b)(b1:aG b):
  ∃Z fl:Int,qZ uX f aj a b Z fl/\(∀w,ED f aj a b w Z fl)/\
   (∀w,Fm w->QR 28 #[J f,J aj,Y O a,Y O b] w (aP Z fl)):=
 TT uX 64 28 aIS f aj a b a0 a1 b0 b1 (Gx f aj a b a0 a1 b0 b1) (I8 f aj a b a0 a1 b0 b1)
def aKU{P:Prop}(h:P:=by
 rintro r w' ⟨rfl,hg⟩;exact⟨_,_,_,_,_,_,_,kZ.flat p _ _ _ 2 _ rfl om om om (λ_=>⟨rfl,I9⟩),rfl,hg⟩):P:=h
def aEr{P:Prop}(h:P:=by
 rintro r w' ⟨rfl,hg⟩;exact⟨_,_,_,_,_,_,_,kZ.flat p _ _ _ 0 _ rfl om om om (λ_=>⟨rfl,I9⟩),rfl,hg⟩):P:=h
def RX(hF:bD f p mx one aI sg nan)(mn md:Int)(k:Nat){x y:dM}(hx:dF p mx one aI sg nan a x)(hy:dF p mx one aI sg nan b y)(h3:max x.c y.c<3)(w:World):
  CT 86 #[dN p mn mx md k,aU x.s x.e x.c (((x.M/18446744073709551616:Nat):Int)) (((x.M%18446744073709551616:Nat):Int)) V 0,aU y.s y.e y.c (((y.M/18446744073709551616:Nat):Int)) (((y.M%18446744073709551616:Nat):Int)) V 0] w λe w'=>∃os oe oc oh ol ot of,kZ p (divO p md x y) os oe oc oh ol ot of/\e=X (aU os oe oc oh ol ot of)/\Gr w w':=by
 obtain⟨v1,v2,v3,v4,v5,v6⟩:=bK hF hx;obtain⟨u1,u2,u3,u4,u5,u6⟩:=bK hF hy;have hpb:24<=p/\p<=53:=by have:=hF.bounds;omega
 have HT:Hid (∀w,QR 179 #[jI x.s x.e,jI y.s y.e] w (jI (mulS x.s y.s) (x.e-y.e))):=λw=>UY x.s x.e y.s y.e v1.jM u1.jM om om om om w;have I9:=SG x.s y.s;have fx:x.c=1->_:=qH hF hx;have fy:y.c=1->_:=qH hF hy;have c0:=v1.c0;have d0:=u1.c0;obtain⟨cx,sx,ex,Mx⟩:=x;obtain⟨cy,sy,ey,My⟩:=y;dsimp only at*
 rcases(om:cx=0\/cx=1\/cx=2)with rfl|rfl|rfl<;>rcases(om:cy=0\/cy=1\/cy=2)with rfl|rfl|rfl
 .rw[show divO p md ⟨0,sx,ex,Mx⟩ ⟨0,sy,ey,My⟩=⟨4,0,0,0⟩ from by unfold divO;dsimp only;rw[if_neg de,if_pos (by decide)]];refine(VE p mn mx md k _ _ _ _ _ _ _ _ _ _ _ _ HT w).mono ?_;rintro r w' ⟨rfl,hg⟩;exact⟨_,_,_,_,_,_,_,kZ.nan p 4 om om,rfl,hg⟩
 .rw[show divO p md ⟨0,sx,ex,Mx⟩ ⟨1,sy,ey,My⟩=⟨0,mulS sx sy,0,0⟩ from by unfold divO;dsimp only;rw[if_neg de,if_neg de,if_neg de,if_neg de,if_neg (by decide)]];refine(VD p mn mx md k _ _ _ _ _ _ _ _ _ _ _ _ HT w).mono ?_;exact aEr
 .rw[show divO p md ⟨0,sx,ex,Mx⟩ ⟨2,sy,ey,My⟩=⟨0,mulS sx sy,0,0⟩ from by unfold divO;dsimp only;rw[if_neg de,if_neg de,if_neg de,if_neg de,if_neg (by decide)]];refine(VB p mn mx md k _ _ _ _ _ _ _ _ _ _ _ _ HT w).mono ?_;exact aEr
 .rw[show divO p md ⟨1,sx,ex,Mx⟩ ⟨0,sy,ey,My⟩=⟨5,mulS sx sy,0,0⟩ from by unfold divO;dsimp only;rw[if_neg de,if_neg de,if_neg de,if_pos (by decide)]];refine(VA p mn mx md k _ _ _ _ _ _ _ _ _ _ _ _ HT w).mono ?_;rintro r w' ⟨rfl,hg⟩;exact⟨_,_,_,_,_,_,_,.inr (.inl ⟨rfl,rfl,rfl,I9,rfl⟩),rfl,hg⟩
 .rw[show divO p md ⟨1,sx,ex,Mx⟩ ⟨1,sy,ey,My⟩=⟨1,mulS sx sy,ex-ey-(p+4)-1,Y8 p.toNat Mx My⟩ from by unfold divO;dsimp only;rw[if_neg de,if_neg de,if_neg de,if_neg de,if_pos (by decide)]];obtain⟨Pn,hP,X9,Tz,hA,hA2⟩:=fx rfl;obtain⟨Pn',hP',_,_,hB,hB2⟩:=fy rfl;obtain rfl:Pn=Pn':=om;have zY:0<My:=Nat.lt_of_lt_of_le (Nat.pow_pos de) hB;obtain⟨r1,r2,r3,r4,r5,r6⟩:=Fa hP X9 hA hB2 zY (ex-ey);have hAB:Mx<2*My:=by
   have:2^Pn=2*2^(Pn-1):=by rw[<-Nat.pow_succ',(om:(Pn-1).succ =Pn)]
   omega
  obtain⟨d1,d2⟩:=L8 Mx My (Pn+2) hAB om;have hC:Mx*2^(Pn+2)/My<18446744073709551616:=by
   have h1:Mx*2^(Pn+2)<My*2^(Pn+3):=by
    have:2^(Pn+3)=2*2^(Pn+2):=by rw[<-Nat.pow_succ']
    rw[this,<-Nat.mul_assoc,Nat.mul_comm My 2];exact Nat.mul_lt_mul_of_pos_right hAB (Nat.pow_pos de)
   have h2:Mx*2^(Pn+2)/My<2^(Pn+3):=by rw[Nat.div_lt_iff_lt_mul zY,Nat.mul_comm (2^(Pn+3))];exact h1
   have h3:2^(Pn+3)<=2^56:=Nat.pow_le_pow_right de om;have h4:2^56<18446744073709551616:=de;omega
  rw[Nat.mod_eq_of_lt hC]at d2;rw[(om:p.toNat=Pn)];refine(Vz p mn mx md k sx ex _ _ sy ey _ _ _ _ _ _ HT Mx My (by rw[Nat.mod_eq_of_lt (by omega)]) (by rw[Nat.mod_eq_of_lt (by omega)]) om om (mulS sx sy) (ex-ey-(p+2)) 1 0 _ _ (λw v hd=>aBw p mn mx md k (mulS sx sy) (ex-ey) om om om om om hd (Pn+3) om) w).mono ?_;rintro r w' ⟨rfl,hg⟩;refine⟨_,_,_,_,_,_,_,.inl ⟨Mx*2^(Pn+2)/My,?_,?_,rfl,rfl,(om:(0:Int)<=1),(om:(1:Int)<=4),λ_=>⟨rfl,I9⟩,λ_=>⟨r1,om,λ_=>r2,om,om,λmn mx one aI aj z fl=>?_⟩⟩,rfl,hg⟩
  .rw[Nat.div_eq_of_lt hC];rfl
  .rw[Nat.mod_eq_of_lt hC,show Pn+3=Pn+2+1 from rfl,d2]
  .rw[show Pn+3-1=Pn+2 from rfl,d1];exact r5 _ _ _ _ _ _ _ _
 .rw[show divO p md ⟨1,sx,ex,Mx⟩ ⟨2,sy,ey,My⟩=⟨0,mulS sx sy,0,0⟩ from by unfold divO;dsimp only;rw[if_neg de,if_neg de,if_neg de,if_neg de,if_neg (by decide)]];refine(Vy p mn mx md k _ _ _ _ _ _ _ _ _ _ _ _ HT w).mono ?_;exact aEr
 .rw[show divO p md ⟨2,sx,ex,Mx⟩ ⟨0,sy,ey,My⟩=⟨2,mulS sx sy,0,0⟩ from by unfold divO;dsimp only;rw[if_neg de,if_neg de,if_pos (by decide)]];refine(Vx p mn mx md k _ _ _ _ _ _ _ _ _ _ _ _ HT w).mono ?_;exact aKU
 .rw[show divO p md ⟨2,sx,ex,Mx⟩ ⟨1,sy,ey,My⟩=⟨2,mulS sx sy,0,0⟩ from by unfold divO;dsimp only;rw[if_neg de,if_neg de,if_pos (by decide)]];refine(Vw p mn mx md k _ _ _ _ _ _ _ _ _ _ _ _ HT w).mono ?_;exact aKU
 .rw[show divO p md ⟨2,sx,ex,Mx⟩ ⟨2,sy,ey,My⟩=⟨4,0,0,0⟩ from by unfold divO;dsimp only;rw[if_neg de,if_pos (by decide)]];refine(Vu p mn mx md k _ _ _ _ _ _ _ _ _ _ _ _ HT w).mono ?_;rintro r w' ⟨rfl,hg⟩;exact⟨_,_,_,_,_,_,_,kZ.nan p 4 om om,rfl,hg⟩
def WM(f aj a b:Int)(a0:0<=a)(a1:aG a)(b0:0<=b)(b1:aG b)(w:World)(hw:Fm w):
  CT 30 #[J f,J aj,Y O a,Y O b] w λe w'=>∃Z fl,nJ divO f aj a b Z fl/\e=X (aP Z fl)/\Gr w w':=by
 refine ZQ f aj a b (nJ divO f aj a b) (λw' hg=>?_);have y8:=hw.gr hg;by_cases hf:f=0\/f=1
 .obtain⟨p,mx,one,aI,sg,nan,hF⟩:=eX f hf;obtain⟨mn,fb,sp,hM,zU,PD⟩:=hF.m;by_cases hm:0<=aj/\aj<=4
  .obtain⟨k,hk⟩:=kW aj hm.1 hm.2;obtain⟨x,hx,HA⟩:=jf hF hM a a0 a1;obtain⟨y,hy,HB⟩:=jf hF hM b b0 b1;obtain⟨v1,v2,v3,v4,v5,v6⟩:=bK hF hx;obtain⟨u1,u2,u3,u4,u5,u6⟩:=bK hF hy;refine(wL p mn mx aj f k 86 a b _ _ _ _ _ _ _ _ _ _ _ _ (λaT dL=>dV hF hM aj k (λw=>gW aj k hk w) (y8.gr dL)) HA HB (kZ p (divO p aj x y)) (λw=>?_) (oK p mn mx one aI sg nan aj (divO p aj x y)) (λos oe oc oh ol ot of w hq=>Fb hM aj k hk _ os oe oc oh ol ot of hq w)).mono ?_
   .by_cases h3:3<=max x.c y.c
    .refine(jG p mn mx aj k _ _ _ _ _ _ _ _ _ _ _ _ 86 _ rfl h3 w).mono ?_;rintro e w' ⟨rfl,hg⟩;rw[Ec p aj x y h3];exact⟨_,_,_,_,_,_,_,kZ.nan p _ h3 (by have:=v1.c4;have:=u1.c4;omega),rfl,hg⟩
    .exact FW p mn mx aj k _ _ _ _ _ _ _ _ _ _ _ _ _ rfl om _ (λw=>RX hF mn aj k hx hy om w) w
   .exact aKT
  .refine(j_ p mn mx aj nan f aj a b (λaT dL=>gJ hF hM aj (λw=>jR aj om w) (y8.gr dL)) (λw=>dh hM w) 86).mono ?_;exact aEt
 .refine(j_ _ _ _ _ _ f aj a b (λaT dL=>dP f aj hf (y8.gr dL)) (λw=>dh m64 w) 86).mono ?_;rintro e aT ⟨rfl,dL⟩;exact⟨_,_,.inr (.inr ⟨hf,rfl,rfl⟩),rfl,dL⟩
def aEu{P:Prop}(h:P:=by
 rintro e w' ⟨rfl,hg⟩;exact⟨_,_,.inl (oC _ _ (by rw[decide_eq_decide];omega) om om),rfl,hg⟩):P:=h
def aEn{P:Prop}(h:P:=by
 rintro e w' ⟨rfl,hg⟩;exact⟨_,_,.inl (.inl ⟨rfl,rfl,rfl⟩),rfl,hg⟩):P:=h
def YG(h:bD f p mx one aI sg nan)(aj a b:Int)(hm:0<=aj/\aj<=4)(a0:0<=a)(a1:aG a)(b0:0<=b)(b1:aG b){x y:dM}(hx:dF p mx one aI sg nan a x)(hy:dF p mx one aI sg nan b y)(w:World):
  CT 66 #[J f,J aj,Y O a,Y O b] w λe w'=>∃Z fl,oK p (1-mx) mx one aI sg nan aj (divO p aj x y) Z fl/\e=X (aP Z fl)/\Gb w w':=by
 obtain⟨v1,v2,v3,v4,v5,v6⟩:=bK h hx;obtain⟨u1,u2,u3,u4,u5,u6⟩:=bK h hy;have xc0:=v1.c0;have xc4:=v1.c4;have yc0:=u1.c0;have yc4:=u1.c4;have hb:=h.bounds;have I9:=SG x.s y.s;obtain⟨AU,JI⟩:=Wi x.s y.s v1.jM u1.jM;have sa0:0<=x.s:=by have:=v1.jM;omega
 have sa1:x.s<=1:=by have:=v1.jM;omega
 have sb0:0<=y.s:=by have:=u1.jM;omega
 have sb1:y.s<=1:=by have:=u1.jM;omega
 have fx:x.c=1->_:=qH h hx;have fy:y.c=1->_:=qH h hy;by_cases rM:a<2*sg/\b<2*sg
 .obtain⟨fa,NP⟩:=rM;have HF:dG f aj a b true:=λw=>jK h aj a b hm.1 hm.2 a0 fa b0 NP w;have eH:=iH h a a0 fa hx;have fP:=iH h b b0 NP hy;have HQ:∀(z:dM) (t:Bool),t=decide (3<=z.c)->bQ z.c z.s z.e (((z.M:Nat):Int)) t:=λz t ht w=>iF _ _ _ _ t ht w;have su:∀t:Bool,oU f t nan (if t then 1 else 0):=λt w=>lZ h t _ rfl w;by_cases c1:3<=x.c
  .rw[Ec p aj x y (by omega)];by_cases c2:x.c=4
   .refine(aCz f aj a b _ _ _ _ _ _ _ _ HF eH fP (HQ x true (by simp[c1])) (by simp[c2]) nan _ (su true) w).mono ?_;rintro e w' ⟨rfl,hg⟩;exact⟨_,_,.inl (oC _ true jl om om),rfl,hg⟩
   .refine(aCy f aj a b _ _ _ _ _ _ _ _ HF eH fP (HQ x true (by simp[c1])) (by simp[c2]) (decide (y.c=4)) (bq _ _) nan _ (su _) w).mono ?_;exact aEu
  .by_cases c2:3<=y.c
   .rw[Ec p aj x y (by omega)];refine(aCx f aj a b _ _ _ _ _ _ _ _ HF eH fP (HQ x V jl) (HQ y true (by simp[c2])) jl (decide (y.c=4)) (bq _ _) nan _ (su _) w).mono ?_;exact aEu
   .have oO:=HQ x V jl;have sH:=HQ y V jl;unfold divO;rw[if_neg (om:¬3<=max x.c y.c)];rcases(om:x.c=0\/x.c=1\/x.c=2)with cx|cx|cx<;>rcases(om:y.c=0\/y.c=1\/y.c=2)with cy|cy|cy
    .rw[if_pos (om:x.c=y.c/\x.c≠1)];refine(aIF f aj a b _ _ _ _ _ _ _ _ HF eH fP oO sH cx cy nan 1 (λw=>cO h w) w).mono ?_;rintro e w' ⟨rfl,hg⟩;exact⟨_,_,.inl (iW rfl),rfl,hg⟩
    .rw[if_neg (om:¬(x.c=y.c/\x.c≠1)),if_neg (om:¬x.c=2),if_neg (om:¬(x.c=1/\y.c=0)),if_neg (om:¬(x.c=1/\y.c=1))];refine(aIE f aj a b _ _ _ _ _ _ _ _ HF eH fP oO sH cx cy _ sa0 sa1 sb0 sb1 AU JI (sw (mulS x.s y.s) sg 0) 0 (λw=>jJ h _ I9 w) w).mono ?_;exact aEn
    .rw[if_neg (om:¬(x.c=y.c/\x.c≠1)),if_neg (om:¬x.c=2),if_neg (om:¬(x.c=1/\y.c=0)),if_neg (om:¬(x.c=1/\y.c=1))];refine(aID f aj a b _ _ _ _ _ _ _ _ HF eH fP oO sH cx cy _ sa0 sa1 sb0 sb1 AU JI (sw (mulS x.s y.s) sg 0) 0 (λw=>jJ h _ I9 w) w).mono ?_;exact aEn
    .rw[if_neg (om:¬(x.c=y.c/\x.c≠1)),if_neg (om:¬x.c=2),if_pos ⟨cx,cy⟩];refine(aIC f aj a b _ _ _ _ _ _ _ _ HF eH fP oO sH cx cy _ sa0 sa1 sb0 sb1 AU JI aI (sw (mulS x.s y.s) sg aI) (λw=>l9 h w) (λw=>vZ h _ _ _ ?_ om om w) w).mono ?_
     .rcases I9 with c|c
      .exact .inl ⟨c,by rw[c];simp[sw]⟩
      .exact .inr ⟨c,by rw[c];simp[sw]⟩
     .rintro e w' ⟨rfl,hg⟩;exact⟨_,_,.inr ⟨rfl,rfl,rfl⟩,rfl,hg⟩
    .rw[if_neg (om:¬(x.c=y.c/\x.c≠1)),if_neg (om:¬x.c=2),if_neg (om:¬(x.c=1/\y.c=0)),if_pos ⟨cx,cy⟩];obtain⟨Pn,hP,X9,Tz,hA,hA2⟩:=fx cx;obtain⟨Pn',hP',_,_,hB,hB2⟩:=fy cy;obtain rfl:Pn=Pn':=om;have zY:0<y.M:=Nat.lt_of_lt_of_le (Nat.pow_pos de) hB;obtain⟨r1,r2,r3,r4,r5,r6⟩:=Fa hP X9 hA hB2 zY (x.e-y.e);rw[(om:p.toNat=Pn)];have e4:x.e-y.e-(((Pn+4:Nat)):Int)=x.e-y.e-(p+4):=om;refine aAY f aj a b _ _ _ _ _ _ _ _ HF eH fP oO sH cx cy _ sa0 sa1 sb0 sb1 AU JI (x.e-y.e-(p+4)) (decide (x.M*2^(Pn+4)%y.M≠0)) (x.M*2^(Pn+4)/y.M) (λw=>?_) _ (λv w hB=>E5 h aj hm.1 hm.2 ⟨1,mulS x.s y.s,x.e-y.e-(p+4)-1,Y8 Pn x.M y.M⟩ rfl I9 _ r3 (x.e-y.e-(p+4)) om om _ r4 (λmn mx one aI aj z fl=>r6 _ _ _ _ _ _ _ _) 8 om v w hB) w;have hq:=yZ h 1 x.s x.e 1 y.s y.e x.M y.M om om zY sa0 sa1 sb0 sb1 _ AU JI om om om om (Pn+4) om w;rw[e4]at hq;exact hq
    .rw[if_neg (om:¬(x.c=y.c/\x.c≠1)),if_neg (om:¬x.c=2),if_neg (om:¬(x.c=1/\y.c=0)),if_neg (om:¬(x.c=1/\y.c=1))];refine(aIB f aj a b _ _ _ _ _ _ _ _ HF eH fP oO sH cx cy _ sa0 sa1 sb0 sb1 AU JI (sw (mulS x.s y.s) sg 0) 0 (λw=>jJ h _ I9 w) w).mono ?_;exact aEn
    .rw[if_neg (om:¬(x.c=y.c/\x.c≠1)),if_pos cx];refine(aIA f aj a b _ _ _ _ _ _ _ _ HF eH fP oO sH cx cy _ sa0 sa1 sb0 sb1 AU JI (sw (mulS x.s y.s) sg aI) 0 (λw=>dQ h _ I9 w) w).mono ?_;rintro e w' ⟨rfl,hg⟩;exact⟨_,_,.inl (.inr (.inr (.inl ⟨rfl,rfl,rfl⟩))),rfl,hg⟩
    .rw[if_neg (om:¬(x.c=y.c/\x.c≠1)),if_pos cx];refine(aIz f aj a b _ _ _ _ _ _ _ _ HF eH fP oO sH cx cy _ sa0 sa1 sb0 sb1 AU JI (sw (mulS x.s y.s) sg aI) 0 (λw=>dQ h _ I9 w) w).mono ?_;rintro e w' ⟨rfl,hg⟩;exact⟨_,_,.inl (.inr (.inr (.inl ⟨rfl,rfl,rfl⟩))),rfl,hg⟩
    .rw[if_pos (om:x.c=y.c/\x.c≠1)];refine(aIy f aj a b _ _ _ _ _ _ _ _ HF eH fP oO sH cx cy nan 1 (λw=>cO h w) w).mono ?_;rintro e w' ⟨rfl,hg⟩;exact⟨_,_,.inl (iW rfl),rfl,hg⟩
 .refine(LD f aj a b (λw=>eG f aj a b a0 a1 b0 b1 (qP h a1 b1 om) w) nan 1 (λw=>cO h w) w).mono ?_;rintro e w' ⟨rfl,hg⟩;refine⟨_,_,?_,rfl,hg⟩;have:max x.c y.c=4:=by
   exact aEv
  rw[Ec p aj x y (by omega)];exact .inl (iW this)
def U9(f aj a b:Int)(a0:0<=a)(a1:aG a)(b0:0<=b)(b1:aG b)(w:World):
  CT 66 #[J f,J aj,Y O a,Y O b] w λe w'=>∃Z fl,nJ divO f aj a b Z fl/\e=X (aP Z fl)/\Gb w w':=by
 by_cases hf:f=0\/f=1
 .obtain⟨p,mx,one,aI,sg,nan,hF⟩:=eX f hf;by_cases hm:0<=aj/\aj<=4
  .obtain⟨x,hx⟩:=eu hF a a0 a1;obtain⟨y,hy⟩:=eu hF b b0 b1;refine(YG hF aj a b hm a0 a1 b0 b1 hx hy w).mono ?_;exact aEp
  .refine(LD f aj a b (λw=>eG f aj a b a0 a1 b0 b1 (.inl om) w) nan 1 (λw=>cO hF w) w).mono ?_;exact aEo
 .refine(LD f aj a b (λw=>eG f aj a b a0 a1 b0 b1 (.inr (.inl hf)) w) _ 1 (λw=>lN f hf w) w).mono ?_;exact aEm
def Ea(f aj a b:Int)(a0:0<=a)(a1:aG a)(b0:0<=b)(b1:aG b):
  ∃Z fl:Int,nJ divO f aj a b Z fl/\(∀w,wP f aj a b w Z fl)/\
   (∀w,Fm w->QR 30 #[J f,J aj,Y O a,Y O b] w (aP Z fl)):=
 Oa divO 66 30 _ aNE f aj a b a0 a1 b0 b1 (U9 f aj a b a0 a1 b0 b1) (WM f aj a b a0 a1 b0 b1)
