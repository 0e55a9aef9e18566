import Derived.Test.YthoelefkjpjhfaaGreatDoorK9
import Derived.Test.YthoelefkjpjhfaaGreatDoorM1
set_option linter.all false
open Bool renaming false → V
open Go.Proofs.YthoelefkjpjhfaaGreatDoor renaming vI → J
open Go.Value renaming int → Y
open Go.IntKind renaming u64 → O
open Go.Ending renaming returned → X
namespace Go.Proofs.YthoelefkjpjhfaaGreatDoor
open Go.RowKit
variable {f p mx one aN sg nan a b:Int}{w:ak}
def aFR{P:Prop}(h:P:=by
 exact⟨(by dsimp only;omega),(by dsimp only;omega),hm,(λc=>by cases c),λ_=>rfl,by dsimp only;omega,by dsimp only;omega⟩):P:=h
def XG(p mn mx md:Int)(k:Nat)(x y:d_)(hx:VO x)(hy:VO y)(hxM:aI x.M)(hyM:aI y.M)(h2:max x.c y.c<3)(w:ak):
  DL p mn mx md k x.s x.e x.c (((x.M/18446744073709551616:Nat):Int)) (((x.M%18446744073709551616:Nat):Int)) V 0 y.s y.e y.c (((y.M/18446744073709551616:Nat):Int)) (((y.M%18446744073709551616:Nat):Int)) V 0 w ((dn x y).s) ((dn x y).e) ((dn x y).c) ((((dn x y).M /18446744073709551616:Nat):Int)) ((((dn x y).M %18446744073709551616:Nat):Int)) V 0:=by
 have HT:Hid (∀w,QR 177 #[kV x.s x.e,kV y.s y.e] w (kV (mulS x.s y.s) (x.e+y.e))):=λw=>times_any x.s x.e y.s y.e hx.lD hy.lD (by have:=hx.e0;omega) (by have:=hx.e1;omega) (by have:=hy.e0;omega) (by have:=hy.e1;omega) w;have ZM:KR 178 #[Y O ((x.M%18446744073709551616:Nat):Int),Y O ((y.M%18446744073709551616:Nat):Int)] (iK (x.M*y.M)):=λw=>by
  rw[lQ hxM,lQ hyM];exact aTk x.M y.M hxM hyM w
 have c0:=hx.c0;have d0:=hy.c0;obtain⟨cx,sx,ex,Mx⟩:=x;obtain⟨cy,sy,ey,My⟩:=y;dsimp only at*
 rcases(om:cx=0\/cx=1\/cx=2)with rfl|rfl|rfl<;>rcases(om:cy=0\/cy=1\/cy=2)with rfl|rfl|rfl
 .rw[show dn ⟨0,sx,ex,Mx⟩ ⟨0,sy,ey,My⟩=⟨0,mulS sx sy,ex+ey,0⟩ from by unfold dn;dsimp only;rw[if_neg de,if_neg de,if_pos (by decide)]];refine(aAW p mn mx md k _ _ _ _ _ _ _ _ _ _ _ _ HT w).mono ?_;rintro r w' ⟨rfl,hg⟩;exact⟨by simp,hg⟩
 .rw[show dn ⟨0,sx,ex,Mx⟩ ⟨1,sy,ey,My⟩=⟨0,mulS sx sy,ex+ey,0⟩ from by unfold dn;dsimp only;rw[if_neg de,if_neg de,if_pos (by decide)]];refine(aAV p mn mx md k _ _ _ _ _ _ _ _ _ _ _ _ HT w).mono ?_;rintro r w' ⟨rfl,hg⟩;exact⟨by simp,hg⟩
 .rw[show dn ⟨0,sx,ex,Mx⟩ ⟨2,sy,ey,My⟩=⟨4,mulS sx sy,ex+ey,0⟩ from by unfold dn;dsimp only;rw[if_neg de,if_pos (by decide)]];refine(aAU p mn mx md k _ _ _ _ _ _ _ _ _ _ _ _ HT w).mono ?_;rintro r w' ⟨rfl,hg⟩;exact⟨by simp,hg⟩
 .rw[show dn ⟨1,sx,ex,Mx⟩ ⟨0,sy,ey,My⟩=⟨0,mulS sx sy,ex+ey,0⟩ from by unfold dn;dsimp only;rw[if_neg de,if_neg de,if_pos (by decide)]];refine(aAT p mn mx md k _ _ _ _ _ _ _ _ _ _ _ _ HT w).mono ?_;rintro r w' ⟨rfl,hg⟩;exact⟨by simp,hg⟩
 .rw[show dn ⟨1,sx,ex,Mx⟩ ⟨1,sy,ey,My⟩=⟨1,mulS sx sy,ex+ey,Mx*My⟩ from by unfold dn;dsimp only;rw[if_neg de,if_neg de,if_neg de,if_neg (by decide)]];exact aAS p mn mx md k _ _ _ _ _ _ _ _ _ _ _ _ HT _ _ ZM w
 .rw[show dn ⟨1,sx,ex,Mx⟩ ⟨2,sy,ey,My⟩=⟨2,mulS sx sy,ex+ey,0⟩ from by unfold dn;dsimp only;rw[if_neg de,if_neg de,if_neg de,if_pos (by decide)]];refine(aAR p mn mx md k _ _ _ _ _ _ _ _ _ _ _ _ HT w).mono ?_;rintro r w' ⟨rfl,hg⟩;exact⟨by simp,hg⟩
 .rw[show dn ⟨2,sx,ex,Mx⟩ ⟨0,sy,ey,My⟩=⟨4,mulS sx sy,ex+ey,0⟩ from by unfold dn;dsimp only;rw[if_neg de,if_pos (by decide)]];refine(aAQ p mn mx md k _ _ _ _ _ _ _ _ _ _ _ _ HT w).mono ?_;rintro r w' ⟨rfl,hg⟩;exact⟨by simp,hg⟩
 .rw[show dn ⟨2,sx,ex,Mx⟩ ⟨1,sy,ey,My⟩=⟨2,mulS sx sy,ex+ey,0⟩ from by unfold dn;dsimp only;rw[if_neg de,if_neg de,if_neg de,if_pos (by decide)]];refine(aAP p mn mx md k _ _ _ _ _ _ _ _ _ _ _ _ HT w).mono ?_;rintro r w' ⟨rfl,hg⟩;exact⟨by simp,hg⟩
 .rw[show dn ⟨2,sx,ex,Mx⟩ ⟨2,sy,ey,My⟩=⟨2,mulS sx sy,ex+ey,0⟩ from by unfold dn;dsimp only;rw[if_neg de,if_neg de,if_neg de,if_pos (by decide)]];refine(aAO p mn mx md k _ _ _ _ _ _ _ _ _ _ _ _ HT w).mono ?_;rintro r w' ⟨rfl,hg⟩;exact⟨by simp,hg⟩
def rW(x y:d_)(h:3<=max x.c y.c):dn x y=⟨max x.c y.c,0,0,0⟩:=by unfold dn;rw[aQ h]
def yH{x y:d_}(hx:VO x)(hy:VO y)(hxn:nb x.M<=53)(hyn:nb y.M<=53)(x0:-2000<=x.e)(x1:x.e<=2000)(y0:-2000<=y.e)(y1:y.e<=2000):VO (dn x y):=by
 have hm:mulS x.s y.s=0\/mulS x.s y.s=1:=by unfold mulS;split<;>simp
 have cx4:=hx.c4;have cy4:=hy.c4;have cx0:=hx.c0;have cy0:=hy.c0;unfold dn;split
 .rename_i h;exact⟨by dsimp only;omega,by dsimp only;omega,.inl rfl,λc=>by dsimp only at c;omega,λ_=>rfl,(by dsimp only;omega),(by dsimp only;omega)⟩
 .rename_i h
  split
  .exact aFR
  .split
   .exact aFR
   .split
    .exact aFR
    .rename_i h1 h2 h3
     have ex:=(hx.fin om).1;have ey:=(hy.fin om).1;refine⟨(by dsimp only;omega),(by dsimp only;omega),hm,λ_=>⟨Nat.mul_pos ex ey,?_⟩,λc=>absurd rfl c,by dsimp only;omega,by dsimp only;omega⟩;refine vS ?_;have a1:=Bc x.M;have a2:=Bc y.M;have a3:=gZ hxn;have a4:=gZ hyn;have:x.M*y.M<2^53*2^53:=Nat.mul_lt_mul'' om om;rw[<-jY]at this;exact this
def uI(p mn mx md:Int)(k:Nat)(x y:d_)(hx:VO x)(hy:VO y)(hxM:aI x.M)(hyM:aI y.M)(w:ak):
  QR 173 #[eu p mn mx md k,.func (.func 84) #[] #[],iP x.s x.e x.c x.M V 0,iP y.s y.e y.c y.M V 0] w (iP ((dn x y).s) ((dn x y).e) ((dn x y).c) ((dn x y).M) V 0):=by
 by_cases h:3<=max x.c y.c
 .refine(kS p mn mx md k _ _ _ _ _ _ _ _ _ _ _ _ 84 _ rfl h w).mono ?_;rintro r w' ⟨rfl,hg⟩;rw[rW x y h];exact⟨by simp,hg⟩
 .refine(L9 p mn mx md k _ _ _ _ _ _ _ _ _ _ _ _ _ rfl om (λos oe oc oh ol ot=>os=(dn x y).s /\oe=(dn x y).e /\oc=(dn x y).c /\oh=(((dn x y).M /18446744073709551616:Nat):Int)/\ol=(((dn x y).M %18446744073709551616:Nat):Int)/\ot=V) (λw=>?_) w).mono ?_
  .refine(XG p mn mx md k x y hx hy hxM hyM om w).mono ?_;rintro r w' ⟨rfl,hg⟩;exact⟨_,_,_,_,_,_,⟨rfl,rfl,rfl,rfl,rfl,rfl⟩,rfl,hg⟩
  .rintro r w' ⟨os,oe,oc,oh,ol,ot,⟨rfl,rfl,rfl,rfl,rfl,rfl⟩,rfl,hg⟩;exact⟨rfl,hg⟩
def SI(h:bI f p mx one aN sg nan)(aj:Int)(m0:0<=aj)(m1:aj<=4)(x y:d_)(hx:VO x)(hy:VO y)(cx:x.c<=1)(cy:y.c<=1)(x0:-4000<=x.e)(x1:x.e<=4000)(y0:-4000<=y.e)(y1:y.e<=4000)(bx kx qx gy ky qy:Nat)(HX:aK 4 w (aF bx kx qx) x.M)(HY:aK 4 w (aF gy ky qy) y.M):
  CT 143 #[J f,J aj,.agg #[J x.s,aF bx kx qx,J x.e,.bool V],.agg #[J y.s,aF gy ky qy,J y.e,.bool V]] w λe w'=>∃z fl,cZ p (1-mx) mx one aN sg nan aj (kJ aj x y) z fl/\e=X (aU z fl)/\Gb w w':=by
 have c0:=hx.c0;have d0:=hy.c0;have zx:=VR HX;have zy:=VR HY;have Yw:∀s:Int,(s=0\/s=1)->Ar f s (sw s sg 0) 0:=λs hs w=>kY h s hs w;have aEX:∀o:d_,o=Q9 aj->cZ p (1-mx) mx one aN sg nan aj o (sw (if aj=4 then 1 else 0) sg 0) 0:=λo ho=>by rw[ho];exact .inl ⟨rfl,rfl,rfl⟩
 have aH3:∀(ex ey sT:Int) (MT:Nat),-4000<=ex->ex<=4000->-4000<=ey->ey<=4000->aNE x.s y.s (x.M*2^(ex-min ex ey).toNat) (y.M*2^(ey-min ex ey).toNat) sT MT->Hid (∀w',Gb w w'->CT 226 #[.agg #[J x.s,aF bx kx qx,J ex,.bool V],.agg #[J y.s,aF gy ky qy,J ey,.bool V]] w' λe bf=>∃b k c,aK 1000 bf (aF b k c) MT/\e=X (.agg #[J sT,aF b k c,J (min ex ey),.bool V])/\Gb w' bf):=λex ey sT MT a1 a2 a3 a4 hT w' hg=>Yi x.s y.s ex ey bx kx qx gy ky qy x.M y.M (HX.gb hg) (HY.gb hg) a1 a2 a3 a4 sT MT hT;rcases(om:x.c=0\/x.c=1)with xc|xc<;>rcases(om:y.c=0\/y.c=1)with yc|yc
 ·
  have xM:=hx.nil om;have yM:=hy.nil om;rw[h_ xM]at zx;rw[h_ yM]at zy;have Yz:kJ aj x y=if x.s=y.s then x else Q9 aj:=by
   unfold kJ;rw[aH (om:¬3<=max x.c y.c),aH (om:¬y.c<x.c),aH (om:¬x.c<y.c),aH (om:¬x.c=1),aH (om:¬x.c=2)]
  by_cases hs:x.s=y.s
  .have hT:=aH3 y.e y.e x.s 0 y0 y1 y0 y1 (.inl ⟨hs,rfl,by rw[xM,yM];simp⟩);refine(aEz f aj x.s y.s x.e y.e x.s _ bx kx qx gy ky qy 0 zx zy hT rfl (by simp[hs]) _ (Yw x.s hx.lD)).mono ?_;rintro r w' ⟨rfl,hg⟩;refine⟨_,_,?_,rfl,hg⟩;rw[Yz,aQ hs];exact .inl ⟨xc,rfl,rfl⟩
  .have hT:=aH3 y.e y.e x.s 0 y0 y1 y0 y1 (.inr (.inl ⟨hs,by rw[xM,yM];simp,rfl,by rw[xM,yM];simp⟩));rw[Yz,aH hs];by_cases hm:aj=4
   .refine(aEB f aj x.s y.s x.e y.e x.s _ bx kx qx gy ky qy 0 zx zy hT rfl (by simp[hs]) (by simp[hm]) _ (Yw 1 (.inr rfl))).mono ?_;rintro r w' ⟨rfl,hg⟩;have:=aEX _ rfl;rw[aQ hm]at this;exact⟨_,_,this,rfl,hg⟩
   .refine(aEA f aj x.s y.s x.e y.e x.s _ bx kx qx gy ky qy 0 zx zy hT rfl (by simp[hs]) (by simp[hm]) _ (Yw 0 (.inl rfl))).mono ?_;rintro r w' ⟨rfl,hg⟩;have:=aEX _ rfl;rw[aH hm]at this;exact⟨_,_,this,rfl,hg⟩
 ·
  have xM:=hx.nil om;have yM:=(hy.fin yc).1;rw[h_ xM]at zx;rw[gV (by omega)]at zy;have Yz:kJ aj x y=y:=by
   unfold kJ;rw[aH (om:¬3<=max x.c y.c),aH (om:¬y.c<x.c),aQ (om:x.c<y.c)]
  have hT:=aH3 y.e y.e y.s y.M y0 y1 y0 y1 (by
   have e1:(y.e-min y.e y.e).toNat =0:=om;rw[e1,xM];simp only[wP,kW];by_cases hs:x.s=y.s
   .exact .inl ⟨hs,hs.symm,om⟩
   .exact .inr (.inr ⟨hs,om,rfl,om⟩))
  rw[(om:min y.e y.e=y.e)]at hT;refine(aEC f aj x.s y.s x.e y.e y.s y.e bx kx qx gy ky qy y.M zx zy hT yM (λz fl=>cZ p (1-mx) mx one aN sg nan aj y z fl) (λv w hB=>oL h aj m0 m1 y yc hy.lD yM om om 1000 om v w hB)).mono ?_;rw[Yz];exact λe w' h=>h
 ·
  have xM:=(hx.fin xc).1;have yM:=hy.nil om;rw[gV (by omega)]at zx;rw[h_ yM]at zy;have Yz:kJ aj x y=x:=by
   unfold kJ;rw[aH (om:¬3<=max x.c y.c),aQ (om:y.c<x.c)]
  have hT:=aH3 x.e x.e x.s x.M x0 x1 x0 x1 (by
   have e1:(x.e-min x.e x.e).toNat =0:=om;rw[e1,yM];simp only[wP,kW];by_cases hs:x.s=y.s
   .exact .inl ⟨hs,rfl,om⟩
   .exact .inr (.inl ⟨hs,om,rfl,om⟩))
  rw[(om:min x.e x.e=x.e)]at hT;refine(aED f aj x.s y.s x.e y.e x.s x.e bx kx qx gy ky qy x.M zx zy hT xM (λz fl=>cZ p (1-mx) mx one aN sg nan aj x z fl) (λv w hB=>oL h aj m0 m1 x xc hx.lD xM om om 1000 om v w hB)).mono ?_;rw[Yz];exact λe w' h=>h
 ·
  have xM:=(hx.fin xc).1;have yM:=(hy.fin yc).1;rw[gV (by omega)]at zx;rw[gV (by omega)]at zy;have Yz:kJ aj x y=zI aj x y:=by
   unfold kJ;rw[aH (om:¬3<=max x.c y.c),aH (om:¬y.c<x.c),aH (om:¬x.c<y.c),aQ xc]
  have aEY:-5000<=min x.e y.e/\min x.e y.e<=5000:=om;rw[Yz];have hb:oG x y=(x.M*2^(x.e-min x.e y.e).toNat,y.M*2^(y.e-min x.e y.e).toNat):=rfl;obtain⟨A,hA⟩:=dP (x.M*2^(x.e-min x.e y.e).toNat);obtain⟨B,hB⟩:=dP (y.M*2^(y.e-min x.e y.e).toNat);have hA0:0<A:=by rw[<-hA];exact Nat.mul_pos xM (iQ de)
  have Cm:0<B:=by rw[<-hB];exact Nat.mul_pos yM (iQ de)
  have Yy:=aH3 x.e y.e;rw[hA,hB]at hb Yy;unfold zI;rw[hb];dsimp only
  by_cases hs:x.s=y.s
  .rw[aQ hs];exact Ih f aj x.s y.s x.e y.e x.s _ bx kx qx gy ky qy (A+B) zx zy (Yy _ _ x0 x1 y0 y1 (.inl ⟨hs,rfl,rfl⟩)) om _ (λv w hB=>oL h aj m0 m1 ⟨1,x.s,min x.e y.e,A+B⟩ rfl hx.lD (by dsimp only;omega) aEY.1 aEY.2 1000 om v w hB)
  .rw[aH hs];by_cases zB:A=B
   .rw[aQ zB];have hT:=Yy x.s 0 x0 x1 y0 y1 (.inr (.inl ⟨hs,om,rfl,om⟩));by_cases hm:aj=4
    .refine(aEF f aj x.s y.s x.e y.e x.s _ bx kx qx gy ky qy 0 zx zy hT rfl (by simp[hs]) (by simp[hm]) _ (Yw 1 (.inr rfl))).mono ?_;rintro r w' ⟨rfl,hg⟩;have:=aEX _ rfl;rw[aQ hm]at this;exact⟨_,_,this,rfl,hg⟩
    .refine(aEE f aj x.s y.s x.e y.e x.s _ bx kx qx gy ky qy 0 zx zy hT rfl (by simp[hs]) (by simp[hm]) _ (Yw 0 (.inl rfl))).mono ?_;rintro r w' ⟨rfl,hg⟩;have:=aEX _ rfl;rw[aH hm]at this;exact⟨_,_,this,rfl,hg⟩
   .rw[aH zB];by_cases fJ:B<A
    .rw[aQ fJ];exact Ih f aj x.s y.s x.e y.e x.s _ bx kx qx gy ky qy (A-B) zx zy (Yy _ _ x0 x1 y0 y1 (.inr (.inl ⟨hs,om,rfl,rfl⟩))) om _ (λv w hB=>oL h aj m0 m1 ⟨1,x.s,min x.e y.e,A-B⟩ rfl hx.lD (by dsimp only;omega) aEY.1 aEY.2 1000 om v w hB)
    .rw[aH fJ];exact Ih f aj x.s y.s x.e y.e y.s _ bx kx qx gy ky qy (B-A) zx zy (Yy _ _ x0 x1 y0 y1 (.inr (.inr ⟨hs,om,rfl,rfl⟩))) om _ (λv w hB=>oL h aj m0 m1 ⟨1,y.s,min x.e y.e,B-A⟩ rfl hy.lD (by dsimp only;omega) aEY.1 aEY.2 1000 om v w hB)
def aAj(aj:Int)(x y:d_)(hx:VO x)(hy:VO y):0<=(kJ aj x y).c /\(kJ aj x y).c <=4:=by
 have:=hx.c0;have:=hx.c4;have:=hy.c0;have:=hy.c4;have ht:=aCf aj x y hx.lD hy.lD;unfold kJ;split
 .dsimp only;omega
 .split
  .omega
  .split
   .omega
   .split
    .omega
    .split
     .omega
     .split
      .exact⟨de,de⟩
      .unfold Q9;dsimp only;omega
def aFT{P:Prop}(h:P:=by
 rintro e w' ⟨rfl,hg⟩;exact⟨_,_,qC _ true jA om om,rfl,hg⟩):P:=h
def aFN{P:Prop}(h:P:=by
 rintro e w' ⟨rfl,hg⟩;exact⟨_,_,.inr (.inr ⟨hf,rfl,rfl⟩),rfl,hg⟩):P:=h
def aFP{P:Prop}(h:P:=by
 rintro e w' ⟨rfl,hg⟩;exact⟨_,_,.inr (.inl ⟨p,mx,one,aN,sg,nan,hF,om,rfl,rfl⟩),rfl,hg⟩):P:=h
def aFQ{P:Prop}(h:P:=by
 rintro e w' ⟨Z,fl,hp,rfl,hg⟩;exact⟨_,_,.inl ⟨p,mx,one,aN,sg,nan,x,y,hF,hm,hx,hy,hp⟩,rfl,hg⟩):P:=h
def aB9{P:Prop}(h:P:=by
 rintro e w' ⟨rfl,hg⟩;exact⟨_,_,qC _ _ (by rw[decide_eq_decide];omega) om om,rfl,hg⟩):P:=h
def aFW{P:Prop}(h:P:=by
 rcases(om:2*sg<=a\/2*sg<=b)with c|c
 .have:=jM h hx c;subst this;dsimp only at*;omega
 .have:=jM h hy c;subst this;dsimp only at*;omega):P:=h
def NP(h:bI f p mx one aN sg nan)(aj a b:Int)(hm:0<=aj/\aj<=4)(a0:0<=a)(a1:aI a)(b0:0<=b)(b1:aI b){x y:d_}(hx:dO p mx one aN sg nan a x)(hy:dO p mx one aN sg nan b y)(w:ak):
  CT 62 #[J f,J aj,Y O a,Y O b] w λe w'=>∃Z fl,cZ p (1-mx) mx one aN sg nan aj (kJ aj x y) Z fl/\e=X (aU Z fl)/\Gb w w':=by
 obtain⟨v1,v2,v3,v4,v5,v6⟩:=bU h hx;obtain⟨u1,u2,u3,u4,u5,u6⟩:=bU h hy;have xc0:=v1.c0;have xc4:=v1.c4;have yc0:=u1.c0;have yc4:=u1.c4;by_cases uF:a<2*sg/\b<2*sg
 .obtain⟨fa,PI⟩:=uF;have HF:dU f aj a b true:=λw=>kZ h aj a b hm.1 hm.2 a0 fa b0 PI w;have fM:=ji h a a0 fa hx;have gK:=ji h b b0 PI hy;have HQ:∀(z:d_) (t:Bool),t=decide (3<=z.c)->bY z.c z.s z.e (((z.M:Nat):Int)) t:=λz t ht w=>jf _ _ _ _ t ht w;have uX:∀t:Bool,qR f t nan (if t then 1 else 0):=λt w=>nZ h t _ rfl w;by_cases c1:3<=x.c
  .rw[qo aj x y (by omega)];by_cases c2:x.c=4
   .refine(aD5 f aj a b _ _ _ _ _ _ _ _ HF fM gK (HQ x true (by simp[c1])) (by simp[c2]) nan _ (uX true) w).mono ?_;exact aFT
   .refine(aD4 f aj a b _ _ _ _ _ _ _ _ HF fM gK (HQ x true (by simp[c1])) (by simp[c2]) (decide (y.c=4)) (bq _ _) nan _ (uX _) w).mono ?_;exact aB9
  .by_cases c2:3<=y.c
   .rw[qo aj x y (by omega)];refine(aD3 f aj a b _ _ _ _ _ _ _ _ HF fM gK (HQ x V jA) (HQ y true (by simp[c2])) jA (decide (y.c=4)) (bq _ _) nan _ (uX _) w).mono ?_;exact aB9
   .have qP:=HQ x V jA;have vw:=HQ y V jA;by_cases c3:x.c=2
    .by_cases c4:y.c=2
     .by_cases c5:x.s=y.s
      .refine(aD7 f aj a b _ _ _ _ _ _ _ _ HF fM gK qP vw c3 c4 c5 (sw x.s sg aN) 0 (λw=>eH h x.s v1.lD w) w).mono ?_;rintro e w' ⟨rfl,hg⟩;refine⟨_,_,?_,rfl,hg⟩;unfold kJ;rw[aH (om:¬3<=max x.c y.c),aH (om:¬y.c<x.c),aH (om:¬x.c<y.c),aH (om:¬x.c=1),aQ c5];exact .inr (.inr (.inl ⟨c3,rfl,rfl⟩))
      .refine(aD9 f aj a b _ _ _ _ _ _ _ _ HF fM gK qP vw c3 c4 (by simp[c5]) nan 1 (λw=>dA h w) w).mono ?_;rintro e w' ⟨rfl,hg⟩;refine⟨_,_,?_,rfl,hg⟩;unfold kJ;rw[aH (om:¬3<=max x.c y.c),aH (om:¬y.c<x.c),aH (om:¬x.c<y.c),aH (om:¬x.c=1),aH c5,aQ c3];exact jI rfl
     .refine(aD8 f aj a b _ _ _ _ _ _ _ _ HF fM gK qP vw c3 (by simp[c4]) (sw x.s sg aN) 0 (λw=>eH h x.s v1.lD w) w).mono ?_;rintro e w' ⟨rfl,hg⟩;refine⟨_,_,?_,rfl,hg⟩;unfold kJ;rw[aH (om:¬3<=max x.c y.c),aQ (om:y.c<x.c)];exact .inr (.inr (.inl ⟨c3,rfl,rfl⟩))
    .by_cases c4:y.c=2
     .refine(aD6 f aj a b _ _ _ _ _ _ _ _ HF fM gK qP vw (by simp[c3]) c4 (sw y.s sg aN) 0 (λw=>eH h y.s u1.lD w) w).mono ?_;rintro e w' ⟨rfl,hg⟩;refine⟨_,_,?_,rfl,hg⟩;unfold kJ;rw[aH (om:¬3<=max x.c y.c),aH (om:¬y.c<x.c),aQ (om:x.c<y.c)];exact .inr (.inr (.inl ⟨c4,rfl,rfl⟩))
     .exact aGS f aj a b _ _ _ _ _ _ _ _ x.M y.M HF fM gK qP vw (by simp[c3]) (by simp[c4]) (λw=>nY _ _ _ x.M om w) (λw=>nY _ _ _ y.M om w) (λZ fl=>cZ p (1-mx) mx one aN sg nan aj (kJ aj x y) Z fl) (λba ka qa bb kb qb w HX HY=>SI h aj hm.1 hm.2 x y v1 u1 om om om om om om ba ka qa bb kb qb HX HY) w
 .refine(NZ f aj a b (λw=>fK f aj a b a0 a1 b0 b1 (tJ h a1 b1 om) w) nan 1 (λw=>dA h w) w).mono ?_;rintro e w' ⟨rfl,hg⟩;refine⟨_,_,?_,rfl,hg⟩;have:max x.c y.c=4:=by
   exact aFW
  rw[qo aj x y (by omega)];exact jI this
def Xd(f aj a b:Int)(a0:0<=a)(a1:aI a)(b0:0<=b)(b1:aI b)(w:ak):
  CT 62 #[J f,J aj,Y O a,Y O b] w λe w'=>∃Z fl,um kJ f aj a b Z fl/\e=X (aU Z fl)/\Gb w w':=by
 by_cases hf:f=0\/f=1
 .obtain⟨p,mx,one,aN,sg,nan,hF⟩:=fQ f hf;by_cases hm:0<=aj/\aj<=4
  .obtain⟨x,hx⟩:=fH hF a a0 a1;obtain⟨y,hy⟩:=fH hF b b0 b1;refine(NP hF aj a b hm a0 a1 b0 b1 hx hy w).mono ?_;exact aFQ
  .refine(NZ f aj a b (λw=>fK f aj a b a0 a1 b0 b1 (.inl om) w) nan 1 (λw=>dA hF w) w).mono ?_;exact aFP
 .refine(NZ f aj a b (λw=>fK f aj a b a0 a1 b0 b1 (.inr (.inl hf)) w) _ 1 (λw=>nK f hf w) w).mono ?_;exact aFN
def add_same(f aj a b:Int)(a0:0<=a)(a1:aI a)(b0:0<=b)(b1:aI b):
  ∃Z fl:Int,um kJ f aj a b Z fl/\(∀w,Gw f aj a b w Z fl)/\
   (∀w,Fm w->QR 26 #[J f,J aj,Y O a,Y O b] w (aU Z fl)):=
 VP kJ 62 26 (λaj x y hx hy _ _ _ _ _ _=>aAj aj x y hx hy) f aj a b a0 a1 b0 b1 (Xd f aj a b a0 a1 b0 b1) (Yu f aj a b a0 a1 b0 b1)
def aFU{P:Prop}(h:P:=by
 rintro e bf ⟨rfl,dY⟩;exact⟨_,_,.inr (.inl ⟨p,mx,one,aN,sg,nan,hF,om,rfl,rfl⟩),rfl,dY⟩):P:=h
def aMq{P:Prop}(h:P:=by
 rintro e bf ⟨Z,fl,hp,rfl,dY⟩;rw[Ce]at hp;exact⟨_,_,.inl ⟨p,mx,one,aN,sg,nan,x,y,hF,hm,hx,hy,hp⟩,rfl,dY⟩):P:=h
def xW(aj:Int)(x y:d_):d_:=dn x y
def KA(f aj a b:Int)(a0:0<=a)(a1:aI a)(b0:0<=b)(b1:aI b)(w:ak)(hw:Fm w):
  CT 28 #[J f,J aj,Y O a,Y O b] w λe w'=>∃Z fl,um xW f aj a b Z fl/\e=X (aU Z fl)/\Gr w w':=by
 refine aBs f aj a b (um xW f aj a b) (λw' hg=>?_);have Bo:=hw.gr hg;by_cases hf:f=0\/f=1
 .obtain⟨p,mx,one,aN,sg,nan,hF⟩:=fQ f hf;obtain⟨mn,fb,sp,hM,Ce,Ru⟩:=hF.m;by_cases hm:0<=aj/\aj<=4
  .obtain⟨k,hk⟩:=mP aj hm.1 hm.2;obtain⟨x,hx,HA⟩:=jP hF hM a a0 a1;obtain⟨y,hy,HB⟩:=jP hF hM b b0 b1;obtain⟨v1,v2,v3,v4,v5,v6⟩:=bU hF hx;obtain⟨u1,u2,u3,u4,u5,u6⟩:=bU hF hy;refine(VN p mn mx aj f k 84 a b _ _ _ _ _ _ _ _ _ _ _ _ (λbf dY=>eX hF hM aj k (λw=>iI aj k hk w) (Bo.gr dY)) HA HB (rF (xW aj x y)) (λw=>(uI p mn mx aj k x y v1 u1 om om w).mono (λe w' ⟨he,hg⟩=>⟨_,_,_,_,_,_,(yH v1 u1 v6 u6 v4 v5 u4 u5).same,he,hg⟩)) (cZ p mn mx one aN sg nan aj (xW aj x y)) (λos oe oc oh ol ot w hq=>qB hM aj k hk _ os oe oc oh ol ot hq w)).mono ?_;exact aMq
  .refine(lV p mn mx aj nan f aj a b (λbf dY=>iC hF hM aj (λw=>lG aj om w) (Bo.gr dY)) (λw=>dF hM w) 84).mono ?_;exact aFU
 .refine(lV _ _ _ _ _ f aj a b (λbf dY=>eG f aj hf (Bo.gr dY)) (λw=>dF m64 w) 84).mono ?_;rintro e bf ⟨rfl,dY⟩;exact⟨_,_,.inr (.inr ⟨hf,rfl,rfl⟩),rfl,dY⟩
def aAn(h:bI f p mx one aN sg nan)(aj a b:Int)(hm:0<=aj/\aj<=4)(a0:0<=a)(a1:aI a)(b0:0<=b)(b1:aI b){x y:d_}(hx:dO p mx one aN sg nan a x)(hy:dO p mx one aN sg nan b y)(w:ak):
  CT 64 #[J f,J aj,Y O a,Y O b] w λe w'=>∃Z fl,cZ p (1-mx) mx one aN sg nan aj (xW aj x y) Z fl/\e=X (aU Z fl)/\Gb w w':=by
 obtain⟨v1,v2,v3,v4,v5,v6⟩:=bU h hx;obtain⟨u1,u2,u3,u4,u5,u6⟩:=bU h hy;have xc0:=v1.c0;have xc4:=v1.c4;have yc0:=u1.c0;have yc4:=u1.c4;have KC:mulS x.s y.s=0\/mulS x.s y.s=1:=by unfold mulS;split<;>simp
 unfold xW;by_cases uF:a<2*sg/\b<2*sg
 .obtain⟨fa,PI⟩:=uF;have HF:dU f aj a b true:=λw=>kZ h aj a b hm.1 hm.2 a0 fa b0 PI w;have fM:=ji h a a0 fa hx;have gK:=ji h b b0 PI hy;have HQ:∀(z:d_) (t:Bool),t=decide (3<=z.c)->bY z.c z.s z.e (((z.M:Nat):Int)) t:=λz t ht w=>jf _ _ _ _ t ht w;have uX:∀t:Bool,qR f t nan (if t then 1 else 0):=λt w=>nZ h t _ rfl w;by_cases c1:3<=x.c
  .rw[rW x y (by omega)];by_cases c2:x.c=4
   .refine(aDK f aj a b _ _ _ _ _ _ _ _ HF fM gK (HQ x true (by simp[c1])) (by simp[c2]) nan _ (uX true) w).mono ?_;exact aFT
   .refine(aDJ f aj a b _ _ _ _ _ _ _ _ HF fM gK (HQ x true (by simp[c1])) (by simp[c2]) (decide (y.c=4)) (bq _ _) nan _ (uX _) w).mono ?_;exact aB9
  .by_cases c2:3<=y.c
   .rw[rW x y (by omega)];refine(aDI f aj a b _ _ _ _ _ _ _ _ HF fM gK (HQ x V jA) (HQ y true (by simp[c2])) jA (decide (y.c=4)) (bq _ _) nan _ (uX _) w).mono ?_;exact aB9
   .have qP:=HQ x V jA;have vw:=HQ y V jA;have HPr:∀t:Bool,t=decide (x.c=2/\y.c=0\/x.c=0/\y.c=2)->wS x.c x.s x.e (((x.M:Nat):Int)) y.c y.s y.e (((y.M:Nat):Int)) t:=λt ht w=>zZ _ _ _ _ _ _ _ _ t ht w;have HM:Hid (∀w,CT 147 #[fG x.c x.s x.e (((x.M:Nat):Int)),fG y.c y.s y.e (((y.M:Nat):Int))] w λe w'=>∃b k cc,aK 4 w' (aF b k cc) (x.M*y.M)/\e=X (.agg #[J (mulS x.s y.s),aF b k cc,J (x.e+y.e),.bool V])/\Gb w w'):=λw=>Dx _ _ _ _ _ _ x.M y.M om om v1.lD u1.lD om om om om w;unfold dn;rw[aH (om:¬3<=max x.c y.c)];by_cases c3:x.c=2/\y.c=0\/x.c=0/\y.c=2
    .rw[aQ (om:min x.c y.c=0/\max x.c y.c=2)];refine(aJV f aj a b _ _ _ _ _ _ _ _ HF fM gK qP vw (HPr true (by simp[c3])) nan 1 (λw=>dA h w) w).mono ?_;rintro e w' ⟨rfl,hg⟩;exact⟨_,_,jI rfl,rfl,hg⟩
    .have hP:=HPr V (gV c3).symm;rw[aH (om:¬(min x.c y.c=0/\max x.c y.c=2))];by_cases c4:x.c=2
     .rw[aH (om:¬min x.c y.c=0),aQ (om:max x.c y.c=2)];refine(aDM f aj a b _ _ _ _ _ _ _ _ _ _ _ HF fM gK qP vw hP HM c4 (sw (mulS x.s y.s) sg aN) 0 (λw=>eH h _ KC w) w).mono ?_;rintro e w' ⟨rfl,hg⟩;exact⟨_,_,.inr (.inr (.inl ⟨rfl,rfl,rfl⟩)),rfl,hg⟩
     .by_cases c5:y.c=2
      .rw[aH (om:¬min x.c y.c=0),aQ (om:max x.c y.c=2)];refine(aDL f aj a b _ _ _ _ _ _ _ _ _ _ _ HF fM gK qP vw hP HM (by simp[c4]) c5 (sw (mulS x.s y.s) sg aN) 0 (λw=>eH h _ KC w) w).mono ?_;rintro e w' ⟨rfl,hg⟩;exact⟨_,_,.inr (.inr (.inl ⟨rfl,rfl,rfl⟩)),rfl,hg⟩
      .by_cases c6:min x.c y.c=0
       .rw[aQ c6];have hz:x.M*y.M=0:=by
         rcases(om:x.c=0\/y.c=0)with c|c
         .rw[v3 om,Nat.zero_mul]
         .rw[u3 om,Nat.mul_zero]
        refine(aDH f aj a b _ _ _ _ _ _ _ _ _ _ _ HF fM gK qP vw hP HM (by simp[c4]) (by simp[c5]) hz (sw (mulS x.s y.s) sg 0) 0 (λw=>kY h _ KC w) w).mono ?_;rintro e w' ⟨rfl,hg⟩;exact⟨_,_,.inl ⟨rfl,rfl,rfl⟩,rfl,hg⟩
       .rw[aH c6,aH (om:¬max x.c y.c=2)];have ex:=(v1.fin om).1;have ey:=(u1.fin om).1;have jZ:0<x.M*y.M:=Nat.mul_pos ex ey;exact aGO f aj a b _ _ _ _ _ _ _ _ _ _ _ HF fM gK qP vw hP HM (by simp[c4]) (by simp[c5]) jZ _ (λv w hB=>oL h aj hm.1 hm.2 ⟨1,mulS x.s y.s,x.e+y.e,x.M*y.M⟩ rfl KC jZ (by dsimp only;omega) (by dsimp only;omega) 4 om v w hB) w
 .refine(NU f aj a b (λw=>fK f aj a b a0 a1 b0 b1 (tJ h a1 b1 om) w) nan 1 (λw=>dA h w) w).mono ?_;rintro e w' ⟨rfl,hg⟩;refine⟨_,_,?_,rfl,hg⟩;have:max x.c y.c=4:=by
   exact aFW
  rw[rW x y (by omega)];exact jI this
def Jb(f aj a b:Int)(a0:0<=a)(a1:aI a)(b0:0<=b)(b1:aI b)(w:ak):
  CT 64 #[J f,J aj,Y O a,Y O b] w λe w'=>∃Z fl,um xW f aj a b Z fl/\e=X (aU Z fl)/\Gb w w':=by
 by_cases hf:f=0\/f=1
 .obtain⟨p,mx,one,aN,sg,nan,hF⟩:=fQ f hf;by_cases hm:0<=aj/\aj<=4
  .obtain⟨x,hx⟩:=fH hF a a0 a1;obtain⟨y,hy⟩:=fH hF b b0 b1;refine(aAn hF aj a b hm a0 a1 b0 b1 hx hy w).mono ?_;exact aFQ
  .refine(NU f aj a b (λw=>fK f aj a b a0 a1 b0 b1 (.inl om) w) nan 1 (λw=>dA hF w) w).mono ?_;exact aFP
 .refine(NU f aj a b (λw=>fK f aj a b a0 a1 b0 b1 (.inr (.inl hf)) w) _ 1 (λw=>nK f hf w) w).mono ?_;exact aFN
def aKh(aj:Int)(x y:d_)(hx:VO x)(hy:VO y)(h1:nb x.M<=53)(h2:nb y.M<=53)(h3:-2000<=x.e)(h4:x.e<=2000)(h5:-2000<=y.e)(h6:y.e<=2000):0<=(xW aj x y).c /\(xW aj x y).c <=4:=⟨(yH hx hy h1 h2 h3 h4 h5 h6).c0,(yH hx hy h1 h2 h3 h4 h5 h6).c4⟩
def Bd(f aj a b:Int)(a0:0<=a)(a1:aI a)(b0:0<=b)(b1:aI b):
  ∃Z fl:Int,um xW f aj a b Z fl/\(∀w,Gv f aj a b w Z fl)/\
   (∀w,Fm w->QR 28 #[J f,J aj,Y O a,Y O b] w (aU Z fl)):=
 VP xW 64 28 aKh f aj a b a0 a1 b0 b1 (Jb f aj a b a0 a1 b0 b1) (KA f aj a b a0 a1 b0 b1)
def aMr{P:Prop}(h:P:=by
 rintro r w' ⟨rfl,hg⟩;exact⟨_,_,_,_,_,_,_,mV.flat p _ _ _ 2 _ rfl om om om (λ_=>⟨rfl,KC⟩),rfl,hg⟩):P:=h
def aFS{P:Prop}(h:P:=by
 rintro r w' ⟨rfl,hg⟩;exact⟨_,_,_,_,_,_,_,mV.flat p _ _ _ 0 _ rfl om om om (λ_=>⟨rfl,KC⟩),rfl,hg⟩):P:=h
def UJ(hF:bI f p mx one aN sg nan)(mn md:Int)(k:Nat){x y:d_}(hx:dO p mx one aN sg nan a x)(hy:dO p mx one aN sg nan b y)(h3:max x.c y.c<3)(w:ak):
  CT 86 #[eu p mn mx md k,iP x.s x.e x.c x.M V 0,iP y.s y.e y.c y.M V 0] w λe w'=>∃os oe oc oh ol ot of,mV p (divO p md x y) os oe oc oh ol ot of/\e=X (bP os oe oc oh ol ot of)/\Gr w w':=by
 obtain⟨v1,v2,v3,v4,v5,v6⟩:=bU hF hx;obtain⟨u1,u2,u3,u4,u5,u6⟩:=bU hF hy;have hpb:24<=p/\p<=53:=by have:=hF.bounds;omega
 have HT:Hid (∀w,QR 179 #[kV x.s x.e,kV y.s y.e] w (kV (mulS x.s y.s) (x.e-y.e))):=λw=>WW x.s x.e y.s y.e v1.lD u1.lD om om om om w;have KC:=U6 x.s y.s;have fx:x.c=1->_:=sS hF hx;have fy:y.c=1->_:=sS hF hy;have c0:=v1.c0;have d0:=u1.c0;obtain⟨cx,sx,ex,Mx⟩:=x;obtain⟨cy,sy,ey,My⟩:=y;dsimp only at*
 rcases(om:cx=0\/cx=1\/cx=2)with rfl|rfl|rfl<;>rcases(om:cy=0\/cy=1\/cy=2)with rfl|rfl|rfl
 .rw[show divO p md ⟨0,sx,ex,Mx⟩ ⟨0,sy,ey,My⟩=⟨4,0,0,0⟩ from by unfold divO;dsimp only;rw[if_neg de,if_pos (by decide)]];refine(XE p mn mx md k _ _ _ _ _ _ _ _ _ _ _ _ HT w).mono ?_;rintro r w' ⟨rfl,hg⟩;exact⟨_,_,_,_,_,_,_,mV.nan p 4 om om,rfl,hg⟩
 .rw[show divO p md ⟨0,sx,ex,Mx⟩ ⟨1,sy,ey,My⟩=⟨0,mulS sx sy,0,0⟩ from by unfold divO;dsimp only;rw[if_neg de,if_neg de,if_neg de,if_neg de,if_neg (by decide)]];refine(XD p mn mx md k _ _ _ _ _ _ _ _ _ _ _ _ HT w).mono ?_;exact aFS
 .rw[show divO p md ⟨0,sx,ex,Mx⟩ ⟨2,sy,ey,My⟩=⟨0,mulS sx sy,0,0⟩ from by unfold divO;dsimp only;rw[if_neg de,if_neg de,if_neg de,if_neg de,if_neg (by decide)]];refine(XC p mn mx md k _ _ _ _ _ _ _ _ _ _ _ _ HT w).mono ?_;exact aFS
 .rw[show divO p md ⟨1,sx,ex,Mx⟩ ⟨0,sy,ey,My⟩=⟨5,mulS sx sy,0,0⟩ from by unfold divO;dsimp only;rw[if_neg de,if_neg de,if_neg de,if_pos (by decide)]];refine(XB p mn mx md k _ _ _ _ _ _ _ _ _ _ _ _ HT w).mono ?_;rintro r w' ⟨rfl,hg⟩;exact⟨_,_,_,_,_,_,_,.inr (.inl ⟨rfl,rfl,rfl,KC,rfl⟩),rfl,hg⟩
 .rw[show divO p md ⟨1,sx,ex,Mx⟩ ⟨1,sy,ey,My⟩=⟨1,mulS sx sy,ex-ey-(p+4)-1,aAN p.toNat Mx My⟩ from by unfold divO;dsimp only;rw[if_neg de,if_neg de,if_neg de,if_neg de,if_pos (by decide)]];obtain⟨Pn,hP,ZL,Vw,hA,hA2⟩:=fx rfl;obtain⟨Pn',hP',_,_,hB,hB2⟩:=fy rfl;obtain rfl:Pn=Pn':=om;have Cm:0<My:=Ie (iQ de) hB;obtain⟨r1,r2,r3,r4,r5,r6⟩:=Hr hP ZL hA hB2 Cm (ex-ey);have hAB:Mx<2*My:=by
   have:2^Pn=2*2^(Pn-1):=by rw[<-Nat.pow_succ',(om:(Pn-1).succ =Pn)]
   omega
  obtain⟨d1,d2⟩:=Ol Mx My (Pn+2) hAB om;have hC:Mx*2^(Pn+2)/My<18446744073709551616:=by
   have h1:Mx*2^(Pn+2)<My*2^(Pn+3):=by
    have:2^(Pn+3)=2*2^(Pn+2):=by rw[<-Nat.pow_succ']
    rw[this,<-kX,dM My 2];exact Nat.mul_lt_mul_of_pos_right hAB (iQ de)
   have h2:Mx*2^(Pn+2)/My<2^(Pn+3):=by rw[aEo Cm,dM (2^(Pn+3))];exact h1
   have h3:2^(Pn+3)<=2^56:=pU de om;have h4:2^56<18446744073709551616:=de;omega
  rw[lQ hC]at d2;rw[(om:p.toNat=Pn)];refine(XA p mn mx md k sx ex _ _ sy ey _ _ _ _ _ _ HT Mx My (by rw[lQ (by omega)]) (by rw[lQ (by omega)]) om om (mulS sx sy) (ex-ey-(p+2)) 1 0 _ _ (λw v hd=>aCW p mn mx md k (mulS sx sy) (ex-ey) om om om om om hd (Pn+3) om) w).mono ?_;rintro r w' ⟨rfl,hg⟩;refine⟨_,_,_,_,_,_,_,.inl ⟨Mx*2^(Pn+2)/My,?_,?_,rfl,rfl,(om:(0:Int)<=1),(om:(1:Int)<=4),λ_=>⟨rfl,KC⟩,λ_=>⟨r1,om,λ_=>r2,om,om,λmn mx one aN aj z fl=>?_⟩⟩,rfl,hg⟩
  .rw[xU hC];rfl
  .rw[lQ hC,show Pn+3=Pn+2+1 from rfl,d2]
  .rw[show Pn+3-1=Pn+2 from rfl,d1];exact r5 _ _ _ _ _ _ _ _
 .rw[show divO p md ⟨1,sx,ex,Mx⟩ ⟨2,sy,ey,My⟩=⟨0,mulS sx sy,0,0⟩ from by unfold divO;dsimp only;rw[if_neg de,if_neg de,if_neg de,if_neg de,if_neg (by decide)]];refine(Xz p mn mx md k _ _ _ _ _ _ _ _ _ _ _ _ HT w).mono ?_;exact aFS
 .rw[show divO p md ⟨2,sx,ex,Mx⟩ ⟨0,sy,ey,My⟩=⟨2,mulS sx sy,0,0⟩ from by unfold divO;dsimp only;rw[if_neg de,if_neg de,if_pos (by decide)]];refine(Xy p mn mx md k _ _ _ _ _ _ _ _ _ _ _ _ HT w).mono ?_;exact aMr
 .rw[show divO p md ⟨2,sx,ex,Mx⟩ ⟨1,sy,ey,My⟩=⟨2,mulS sx sy,0,0⟩ from by unfold divO;dsimp only;rw[if_neg de,if_neg de,if_pos (by decide)]];refine(Xx p mn mx md k _ _ _ _ _ _ _ _ _ _ _ _ HT w).mono ?_;exact aMr
 .rw[show divO p md ⟨2,sx,ex,Mx⟩ ⟨2,sy,ey,My⟩=⟨4,0,0,0⟩ from by unfold divO;dsimp only;rw[if_neg de,if_pos (by decide)]];refine(Xw p mn mx md k _ _ _ _ _ _ _ _ _ _ _ _ HT w).mono ?_;rintro r w' ⟨rfl,hg⟩;exact⟨_,_,_,_,_,_,_,mV.nan p 4 om om,rfl,hg⟩
def Yt(f aj a b:Int)(a0:0<=a)(a1:aI a)(b0:0<=b)(b1:aI b)(w:ak)(hw:Fm w):
  CT 30 #[J f,J aj,Y O a,Y O b] w λe w'=>∃Z fl,pz divO f aj a b Z fl/\e=X (aU Z fl)/\Gr w w':=by
 refine aBt f aj a b (pz divO f aj a b) (λw' hg=>?_);have Bo:=hw.gr hg;by_cases hf:f=0\/f=1
 .obtain⟨p,mx,one,aN,sg,nan,hF⟩:=fQ f hf;obtain⟨mn,fb,sp,hM,Ce,Ru⟩:=hF.m;by_cases hm:0<=aj/\aj<=4
  .obtain⟨k,hk⟩:=mP aj hm.1 hm.2;obtain⟨x,hx,HA⟩:=jP hF hM a a0 a1;obtain⟨y,hy,HB⟩:=jP hF hM b b0 b1;obtain⟨v1,v2,v3,v4,v5,v6⟩:=bU hF hx;obtain⟨u1,u2,u3,u4,u5,u6⟩:=bU hF hy;refine(zi p mn mx aj f k 86 a b _ _ _ _ _ _ _ _ _ _ _ _ (λbf dY=>eX hF hM aj k (λw=>iI aj k hk w) (Bo.gr dY)) HA HB (mV p (divO p aj x y)) (λw=>?_) (qK p mn mx one aN sg nan aj (divO p aj x y)) (λos oe oc oh ol ot of w hq=>Ht hM aj k hk _ os oe oc oh ol ot of hq w)).mono ?_
   .by_cases h3:3<=max x.c y.c
    .refine(kS p mn mx aj k _ _ _ _ _ _ _ _ _ _ _ _ 86 _ rfl h3 w).mono ?_;rintro e w' ⟨rfl,hg⟩;rw[FW p aj x y h3];exact⟨_,_,_,_,_,_,_,mV.nan p _ h3 (by have:=v1.c4;have:=u1.c4;omega),rfl,hg⟩
    .exact IC p mn mx aj k _ _ _ _ _ _ _ _ _ _ _ _ _ rfl om _ (λw=>UJ hF mn aj k hx hy om w) w
   .exact aMq
  .refine(lV p mn mx aj nan f aj a b (λbf dY=>iC hF hM aj (λw=>lG aj om w) (Bo.gr dY)) (λw=>dF hM w) 86).mono ?_;exact aFU
 .refine(lV _ _ _ _ _ f aj a b (λbf dY=>eG f aj hf (Bo.gr dY)) (λw=>dF m64 w) 86).mono ?_;rintro e bf ⟨rfl,dY⟩;exact⟨_,_,.inr (.inr ⟨hf,rfl,rfl⟩),rfl,dY⟩
def aFV{P:Prop}(h:P:=by
 rintro e w' ⟨rfl,hg⟩;exact⟨_,_,.inl (qC _ _ (by rw[decide_eq_decide];omega) om om),rfl,hg⟩):P:=h
def aFO{P:Prop}(h:P:=by
 rintro e w' ⟨rfl,hg⟩;exact⟨_,_,.inl (.inl ⟨rfl,rfl,rfl⟩),rfl,hg⟩):P:=h
def aAp(h:bI f p mx one aN sg nan)(aj a b:Int)(hm:0<=aj/\aj<=4)(a0:0<=a)(a1:aI a)(b0:0<=b)(b1:aI b){x y:d_}(hx:dO p mx one aN sg nan a x)(hy:dO p mx one aN sg nan b y)(w:ak):
  CT 66 #[J f,J aj,Y O a,Y O b] w λe w'=>∃Z fl,qK p (1-mx) mx one aN sg nan aj (divO p aj x y) Z fl/\e=X (aU Z fl)/\Gb w w':=by
 obtain⟨v1,v2,v3,v4,v5,v6⟩:=bU h hx;obtain⟨u1,u2,u3,u4,u5,u6⟩:=bU h hy;have xc0:=v1.c0;have xc4:=v1.c4;have yc0:=u1.c0;have yc4:=u1.c4;have hb:=h.bounds;have KC:=U6 x.s y.s;obtain⟨Dp,LY⟩:=Yb x.s y.s v1.lD u1.lD;have sa0:0<=x.s:=by have:=v1.lD;omega
 have sa1:x.s<=1:=by have:=v1.lD;omega
 have sb0:0<=y.s:=by have:=u1.lD;omega
 have sb1:y.s<=1:=by have:=u1.lD;omega
 have fx:x.c=1->_:=sS h hx;have fy:y.c=1->_:=sS h hy;by_cases uF:a<2*sg/\b<2*sg
 .obtain⟨fa,PI⟩:=uF;have HF:dU f aj a b true:=λw=>kZ h aj a b hm.1 hm.2 a0 fa b0 PI w;have fM:=ji h a a0 fa hx;have gK:=ji h b b0 PI hy;have HQ:∀(z:d_) (t:Bool),t=decide (3<=z.c)->bY z.c z.s z.e (((z.M:Nat):Int)) t:=λz t ht w=>jf _ _ _ _ t ht w;have uX:∀t:Bool,qR f t nan (if t then 1 else 0):=λt w=>nZ h t _ rfl w;by_cases c1:3<=x.c
  .rw[FW p aj x y (by omega)];by_cases c2:x.c=4
   .refine(aDY f aj a b _ _ _ _ _ _ _ _ HF fM gK (HQ x true (by simp[c1])) (by simp[c2]) nan _ (uX true) w).mono ?_;rintro e w' ⟨rfl,hg⟩;exact⟨_,_,.inl (qC _ true jA om om),rfl,hg⟩
   .refine(aDX f aj a b _ _ _ _ _ _ _ _ HF fM gK (HQ x true (by simp[c1])) (by simp[c2]) (decide (y.c=4)) (bq _ _) nan _ (uX _) w).mono ?_;exact aFV
  .by_cases c2:3<=y.c
   .rw[FW p aj x y (by omega)];refine(aDW f aj a b _ _ _ _ _ _ _ _ HF fM gK (HQ x V jA) (HQ y true (by simp[c2])) jA (decide (y.c=4)) (bq _ _) nan _ (uX _) w).mono ?_;exact aFV
   .have qP:=HQ x V jA;have vw:=HQ y V jA;unfold divO;rw[aH (om:¬3<=max x.c y.c)];rcases(om:x.c=0\/x.c=1\/x.c=2)with cx|cx|cx<;>rcases(om:y.c=0\/y.c=1\/y.c=2)with cy|cy|cy
    .rw[aQ (om:x.c=y.c/\x.c≠1)];refine(aJ4 f aj a b _ _ _ _ _ _ _ _ HF fM gK qP vw cx cy nan 1 (λw=>dA h w) w).mono ?_;rintro e w' ⟨rfl,hg⟩;exact⟨_,_,.inl (jI rfl),rfl,hg⟩
    .rw[aH (om:¬(x.c=y.c/\x.c≠1)),aH (om:¬x.c=2),aH (om:¬(x.c=1/\y.c=0)),aH (om:¬(x.c=1/\y.c=1))];refine(aJ3 f aj a b _ _ _ _ _ _ _ _ HF fM gK qP vw cx cy _ sa0 sa1 sb0 sb1 Dp LY (sw (mulS x.s y.s) sg 0) 0 (λw=>kY h _ KC w) w).mono ?_;exact aFO
    .rw[aH (om:¬(x.c=y.c/\x.c≠1)),aH (om:¬x.c=2),aH (om:¬(x.c=1/\y.c=0)),aH (om:¬(x.c=1/\y.c=1))];refine(aJ2 f aj a b _ _ _ _ _ _ _ _ HF fM gK qP vw cx cy _ sa0 sa1 sb0 sb1 Dp LY (sw (mulS x.s y.s) sg 0) 0 (λw=>kY h _ KC w) w).mono ?_;exact aFO
    .rw[aH (om:¬(x.c=y.c/\x.c≠1)),aH (om:¬x.c=2),aQ ⟨cx,cy⟩];refine(aJ1 f aj a b _ _ _ _ _ _ _ _ HF fM gK qP vw cx cy _ sa0 sa1 sb0 sb1 Dp LY aN (sw (mulS x.s y.s) sg aN) (λw=>og h w) (λw=>yP h _ _ _ ?_ om om w) w).mono ?_
     .rcases KC with c|c
      .exact .inl ⟨c,by rw[c];simp[sw]⟩
      .exact .inr ⟨c,by rw[c];simp[sw]⟩
     .rintro e w' ⟨rfl,hg⟩;exact⟨_,_,.inr ⟨rfl,rfl,rfl⟩,rfl,hg⟩
    .rw[aH (om:¬(x.c=y.c/\x.c≠1)),aH (om:¬x.c=2),aH (om:¬(x.c=1/\y.c=0)),aQ ⟨cx,cy⟩];obtain⟨Pn,hP,ZL,Vw,hA,hA2⟩:=fx cx;obtain⟨Pn',hP',_,_,hB,hB2⟩:=fy cy;obtain rfl:Pn=Pn':=om;have Cm:0<y.M:=Ie (iQ de) hB;obtain⟨r1,r2,r3,r4,r5,r6⟩:=Hr hP ZL hA hB2 Cm (x.e-y.e);rw[(om:p.toNat=Pn)];have e4:x.e-y.e-(((Pn+4:Nat)):Int)=x.e-y.e-(p+4):=om;refine aCn f aj a b _ _ _ _ _ _ _ _ HF fM gK qP vw cx cy _ sa0 sa1 sb0 sb1 Dp LY (x.e-y.e-(p+4)) (decide (x.M*2^(Pn+4)%y.M≠0)) (x.M*2^(Pn+4)/y.M) (λw=>?_) _ (λv w hB=>Hl h aj hm.1 hm.2 ⟨1,mulS x.s y.s,x.e-y.e-(p+4)-1,aAN Pn x.M y.M⟩ rfl KC _ r3 (x.e-y.e-(p+4)) om om _ r4 (λmn mx one aN aj z fl=>r6 _ _ _ _ _ _ _ _) 8 om v w hB) w;have hq:=Bg h 1 x.s x.e 1 y.s y.e x.M y.M om om Cm sa0 sa1 sb0 sb1 _ Dp LY om om om om (Pn+4) om w;rw[e4]at hq;exact hq
    .rw[aH (om:¬(x.c=y.c/\x.c≠1)),aH (om:¬x.c=2),aH (om:¬(x.c=1/\y.c=0)),aH (om:¬(x.c=1/\y.c=1))];refine(aJ0 f aj a b _ _ _ _ _ _ _ _ HF fM gK qP vw cx cy _ sa0 sa1 sb0 sb1 Dp LY (sw (mulS x.s y.s) sg 0) 0 (λw=>kY h _ KC w) w).mono ?_;exact aFO
    .rw[aH (om:¬(x.c=y.c/\x.c≠1)),aQ cx];refine(aJZ f aj a b _ _ _ _ _ _ _ _ HF fM gK qP vw cx cy _ sa0 sa1 sb0 sb1 Dp LY (sw (mulS x.s y.s) sg aN) 0 (λw=>eH h _ KC w) w).mono ?_;rintro e w' ⟨rfl,hg⟩;exact⟨_,_,.inl (.inr (.inr (.inl ⟨rfl,rfl,rfl⟩))),rfl,hg⟩
    .rw[aH (om:¬(x.c=y.c/\x.c≠1)),aQ cx];refine(aJY f aj a b _ _ _ _ _ _ _ _ HF fM gK qP vw cx cy _ sa0 sa1 sb0 sb1 Dp LY (sw (mulS x.s y.s) sg aN) 0 (λw=>eH h _ KC w) w).mono ?_;rintro e w' ⟨rfl,hg⟩;exact⟨_,_,.inl (.inr (.inr (.inl ⟨rfl,rfl,rfl⟩))),rfl,hg⟩
    .rw[aQ (om:x.c=y.c/\x.c≠1)];refine(aJX f aj a b _ _ _ _ _ _ _ _ HF fM gK qP vw cx cy nan 1 (λw=>dA h w) w).mono ?_;rintro e w' ⟨rfl,hg⟩;exact⟨_,_,.inl (jI rfl),rfl,hg⟩
 .refine(NW f aj a b (λw=>fK f aj a b a0 a1 b0 b1 (tJ h a1 b1 om) w) nan 1 (λw=>dA h w) w).mono ?_;rintro e w' ⟨rfl,hg⟩;refine⟨_,_,?_,rfl,hg⟩;have:max x.c y.c=4:=by
   exact aFW
  rw[FW p aj x y (by omega)];exact .inl (jI this)
def Xc(f aj a b:Int)(a0:0<=a)(a1:aI a)(b0:0<=b)(b1:aI b)(w:ak):
  CT 66 #[J f,J aj,Y O a,Y O b] w λe w'=>∃Z fl,pz divO f aj a b Z fl/\e=X (aU Z fl)/\Gb w w':=by
 by_cases hf:f=0\/f=1
 .obtain⟨p,mx,one,aN,sg,nan,hF⟩:=fQ f hf;by_cases hm:0<=aj/\aj<=4
  .obtain⟨x,hx⟩:=fH hF a a0 a1;obtain⟨y,hy⟩:=fH hF b b0 b1;refine(aAp hF aj a b hm a0 a1 b0 b1 hx hy w).mono ?_;exact aFQ
  .refine(NW f aj a b (λw=>fK f aj a b a0 a1 b0 b1 (.inl om) w) nan 1 (λw=>dA hF w) w).mono ?_;exact aFP
 .refine(NW f aj a b (λw=>fK f aj a b a0 a1 b0 b1 (.inr (.inl hf)) w) _ 1 (λw=>nK f hf w) w).mono ?_;exact aFN
def FV(f aj a b:Int)(a0:0<=a)(a1:aI a)(b0:0<=b)(b1:aI b):
  ∃Z fl:Int,pz divO f aj a b Z fl/\(∀w,zn f aj a b w Z fl)/\
   (∀w,Fm w->QR 30 #[J f,J aj,Y O a,Y O b] w (aU Z fl)):=
 P8 divO 66 30 _ aPl f aj a b a0 a1 b0 b1 (Xc f aj a b a0 a1 b0 b1) (Yt f aj a b a0 a1 b0 b1)
