import Derived.Test.YtmiekgjgpmfekaaGreatDoorK9
import Derived.Test.YtmiekgjgpmfekaaGreatDoorM1
set_option linter.all false
open Bool renaming false → V
open Go.Proofs.YtmiekgjgpmfekaaGreatDoor renaming vI → J
open Go.Value renaming int → Y
open Go.IntKind renaming u64 → O
open Go.Ending renaming returned → X
namespace Go.Proofs.YtmiekgjgpmfekaaGreatDoor
open Go.RowKit
variable{f p mx one inf sg nan a b:Int}{w:World}
theorem Yb{P:Prop}(h:P:=by
 exact⟨(by dsimp only;omega),(by dsimp only;omega),hm,(fun c=>by cases c),fun _=>rfl,by dsimp only;omega,by dsimp only;omega⟩):P:=h
theorem Ny(p mn mx md:Int)(k:Nat)(x y:cu)(hx:VO x)(hy:VO y)(hxM:x.M<18446744073709551616)(hyM:y.M<18446744073709551616)(h2:max x.c y.c<3)(w:World):
  yF p mn mx md k x.s x.e x.c (((x.M/18446744073709551616:Nat):Int)) (((x.M%18446744073709551616:Nat):Int)) V 0 y.s y.e y.c (((y.M/18446744073709551616:Nat):Int)) (((y.M%18446744073709551616:Nat):Int)) V 0 w ((dO x y).s) ((dO x y).e) ((dO x y).c) ((((dO x y).M /18446744073709551616:Nat):Int)) ((((dO x y).M %18446744073709551616:Nat):Int)) V 0:=by
 have HT:Hid (∀w,QR 210 #[gW x.s x.e,gW y.s y.e] w (gW (mulS x.s y.s) (x.e+y.e))):=fun w=>times_any x.s x.e y.s y.e hx.jL hy.jL (by have:=hx.e0;omega) (by have:=hx.e1;omega) (by have:=hy.e0;omega) (by have:=hy.e1;omega) w;have hMm:KR 183 #[Y O ((x.M%18446744073709551616:Nat):Int),Y O ((y.M%18446744073709551616:Nat):Int)] (aG ((x.M*y.M/18446744073709551616:Nat):Int) ((x.M*y.M%18446744073709551616:Nat):Int)):=fun w=>by
  rw[Nat.mod_eq_of_lt hxM,Nat.mod_eq_of_lt hyM];exact aJz x.M y.M hxM hyM w
 have c0:=hx.c0;have d0:=hy.c0;obtain⟨cx,sx,ex,Mx⟩:=x;obtain⟨cy,sy,ey,My⟩:=y;dsimp only at*
 rcases(show cx=0\/cx=1\/cx=2 by omega)with rfl|rfl|rfl<;>rcases(show cy=0\/cy=1\/cy=2 by omega)with rfl|rfl|rfl
 ·rw[show dO ⟨0,sx,ex,Mx⟩ ⟨0,sy,ey,My⟩=⟨0,mulS sx sy,ex+ey,0⟩ from by unfold dO;dsimp only;rw[if_neg de,if_neg de,if_pos (by decide)]];refine(Q7 p mn mx md k _ _ _ _ _ _ _ _ _ _ _ _ HT w).mono ?_;rintro r w' ⟨rfl,hg⟩;exact⟨by simp,hg⟩
 ·rw[show dO ⟨0,sx,ex,Mx⟩ ⟨1,sy,ey,My⟩=⟨0,mulS sx sy,ex+ey,0⟩ from by unfold dO;dsimp only;rw[if_neg de,if_neg de,if_pos (by decide)]];refine(Q5 p mn mx md k _ _ _ _ _ _ _ _ _ _ _ _ HT w).mono ?_;rintro r w' ⟨rfl,hg⟩;exact⟨by simp,hg⟩
 ·rw[show dO ⟨0,sx,ex,Mx⟩ ⟨2,sy,ey,My⟩=⟨4,mulS sx sy,ex+ey,0⟩ from by unfold dO;dsimp only;rw[if_neg de,if_pos (by decide)]];refine(QZ p mn mx md k _ _ _ _ _ _ _ _ _ _ _ _ HT w).mono ?_;rintro r w' ⟨rfl,hg⟩;exact⟨by simp,hg⟩
 ·rw[show dO ⟨1,sx,ex,Mx⟩ ⟨0,sy,ey,My⟩=⟨0,mulS sx sy,ex+ey,0⟩ from by unfold dO;dsimp only;rw[if_neg de,if_neg de,if_pos (by decide)]];refine(QY p mn mx md k _ _ _ _ _ _ _ _ _ _ _ _ HT w).mono ?_;rintro r w' ⟨rfl,hg⟩;exact⟨by simp,hg⟩
 ·rw[show dO ⟨1,sx,ex,Mx⟩ ⟨1,sy,ey,My⟩=⟨1,mulS sx sy,ex+ey,Mx*My⟩ from by unfold dO;dsimp only;rw[if_neg de,if_neg de,if_neg de,if_neg (by decide)]];exact QX p mn mx md k _ _ _ _ _ _ _ _ _ _ _ _ HT _ _ hMm w
 ·rw[show dO ⟨1,sx,ex,Mx⟩ ⟨2,sy,ey,My⟩=⟨2,mulS sx sy,ex+ey,0⟩ from by unfold dO;dsimp only;rw[if_neg de,if_neg de,if_neg de,if_pos (by decide)]];refine(QV p mn mx md k _ _ _ _ _ _ _ _ _ _ _ _ HT w).mono ?_;rintro r w' ⟨rfl,hg⟩;exact⟨by simp,hg⟩
 ·rw[show dO ⟨2,sx,ex,Mx⟩ ⟨0,sy,ey,My⟩=⟨4,mulS sx sy,ex+ey,0⟩ from by unfold dO;dsimp only;rw[if_neg de,if_pos (by decide)]];refine(QU p mn mx md k _ _ _ _ _ _ _ _ _ _ _ _ HT w).mono ?_;rintro r w' ⟨rfl,hg⟩;exact⟨by simp,hg⟩
 ·rw[show dO ⟨2,sx,ex,Mx⟩ ⟨1,sy,ey,My⟩=⟨2,mulS sx sy,ex+ey,0⟩ from by unfold dO;dsimp only;rw[if_neg de,if_neg de,if_neg de,if_pos (by decide)]];refine(QT p mn mx md k _ _ _ _ _ _ _ _ _ _ _ _ HT w).mono ?_;rintro r w' ⟨rfl,hg⟩;exact⟨by simp,hg⟩
 ·rw[show dO ⟨2,sx,ex,Mx⟩ ⟨2,sy,ey,My⟩=⟨2,mulS sx sy,ex+ey,0⟩ from by unfold dO;dsimp only;rw[if_neg de,if_neg de,if_neg de,if_pos (by decide)]];refine(QS p mn mx md k _ _ _ _ _ _ _ _ _ _ _ _ HT w).mono ?_;rintro r w' ⟨rfl,hg⟩;exact⟨by simp,hg⟩
theorem wS(x y:cu)(h:3<=max x.c y.c):dO x y=⟨max x.c y.c,0,0,0⟩:=by unfold dO;rw[if_pos h]
theorem E5{x y:cu}(hx:VO x)(hy:VO y)(hxn:nb x.M<=53)(hyn:nb y.M<=53)(x0:-2000<=x.e)(x1:x.e<=2000)(y0:-2000<=y.e)(y1:y.e<=2000):VO (dO x y):=by
 have hm:mulS x.s y.s=0\/mulS x.s y.s=1:=by unfold mulS;split<;>simp
 have cx4:=hx.c4;have cy4:=hy.c4;have cx0:=hx.c0;have cy0:=hy.c0;unfold dO;split
 ·rename_i h;exact⟨by dsimp only;omega,by dsimp only;omega,.inl rfl,fun c=>by dsimp only at c;omega,fun _=>rfl,(by dsimp only;omega),(by dsimp only;omega)⟩
 ·rename_i h
  split
  ·exact Yb
  ·split
   ·exact Yb
   ·split
    ·exact Yb
    ·rename_i h1 h2 h3
     have ex:=(hx.fin om).1;have ey:=(hy.fin om).1;refine⟨(by dsimp only;omega),(by dsimp only;omega),hm,fun _=>⟨Nat.mul_pos ex ey,?_⟩,fun c=>absurd rfl c,by dsimp only;omega,by dsimp only;omega⟩;refine oN ?_;have a1:=vW x.M;have a2:=vW y.M;have a3:=bV hxn;have a4:=bV hyn;have:x.M*y.M<2^53*2^53:=Nat.mul_lt_mul'' om om;rw[<-Nat.pow_add]at this;exact this
theorem xR(p mn mx md:Int)(k:Nat)(x y:cu)(hx:VO x)(hy:VO y)(hxM:x.M<18446744073709551616)(hyM:y.M<18446744073709551616)(w:World):
  QR 90 #[dP p mn mx md k,.func (.func 181) #[] #[],aV x.s x.e x.c (((x.M/18446744073709551616:Nat):Int)) (((x.M%18446744073709551616:Nat):Int)) V 0,aV y.s y.e y.c (((y.M/18446744073709551616:Nat):Int)) (((y.M%18446744073709551616:Nat):Int)) V 0] w (aV ((dO x y).s) ((dO x y).e) ((dO x y).c) ((((dO x y).M /18446744073709551616:Nat):Int)) ((((dO x y).M %18446744073709551616:Nat):Int)) V 0):=by
 by_cases h:3<=max x.c y.c
 ·refine(iR p mn mx md k _ _ _ _ _ _ _ _ _ _ _ _ 181 _ rfl h w).mono ?_;rintro r w' ⟨rfl,hg⟩;rw[wS x y h];exact⟨by simp,hg⟩
 ·refine(DC p mn mx md k _ _ _ _ _ _ _ _ _ _ _ _ _ rfl om (fun os oe oc oh ol ot=>os=(dO x y).s /\oe=(dO x y).e /\oc=(dO x y).c /\oh=(((dO x y).M /18446744073709551616:Nat):Int)/\ol=(((dO x y).M %18446744073709551616:Nat):Int)/\ot=V) (fun w=>?_) w).mono ?_
  ·refine(Ny p mn mx md k x y hx hy hxM hyM om w).mono ?_;rintro r w' ⟨rfl,hg⟩;exact⟨_,_,_,_,_,_,⟨rfl,rfl,rfl,rfl,rfl,rfl⟩,rfl,hg⟩
  ·rintro r w' ⟨os,oe,oc,oh,ol,ot,⟨rfl,rfl,rfl,rfl,rfl,rfl⟩,rfl,hg⟩;exact⟨rfl,hg⟩
theorem WO(h:aQ f p mx one inf sg nan)(mode:Int)(m0:0<=mode)(m1:mode<=4)(x y:cu)(hx:VO x)(hy:VO y)(cx:x.c<=1)(cy:y.c<=1)(x0:-4000<=x.e)(x1:x.e<=4000)(y0:-4000<=y.e)(y1:y.e<=4000)(bx kx qx gy ky qy:Nat)(HX:aF 4 w (aB bx kx qx) x.M)(HY:aF 4 w (aB gy ky qy) y.M):
  CT 166 #[J f,J mode,.agg #[J x.s,aB bx kx qx,J x.e,.bool V],.agg #[J y.s,aB gy ky qy,J y.e,.bool V]] w fun e w'=>∃z fl,b_ p (1-mx) mx one inf sg nan mode (gQ mode x y) z fl/\e=X (aK z fl)/\Gb w w':=by
 have c0:=hx.c0;have d0:=hy.c0;have zx:=KG HX;have zy:=KG HY;have hzero:∀s:Int,(s=0\/s=1)->nR f s (sw s sg 0) 0:=fun s hs w=>iF h s hs w;have hnil:∀o:cu,o=Dv mode->b_ p (1-mx) mx one inf sg nan mode o (sw (if mode=4 then 1 else 0) sg 0) 0:=fun o ho=>by rw[ho];exact .inl ⟨rfl,rfl,rfl⟩
 have htot:∀(ex ey sT:Int) (MT:Nat),-4000<=ex->ex<=4000->-4000<=ey->ey<=4000->aFh x.s y.s (x.M*2^(ex-min ex ey).toNat) (y.M*2^(ey-min ex ey).toNat) sT MT->Hid (∀w',Gb w w'->CT 204 #[.agg #[J x.s,aB bx kx qx,J ex,.bool V],.agg #[J y.s,aB gy ky qy,J ey,.bool V]] w' fun e w''=>∃b k c,aF 1000 w'' (aB b k c) MT/\e=X (.agg #[J sT,aB b k c,J (min ex ey),.bool V])/\Gb w' w''):=fun ex ey sT MT a1 a2 a3 a4 hT w' hg=>N7 x.s y.s ex ey bx kx qx gy ky qy x.M y.M (HX.gb hg) (HY.gb hg) a1 a2 a3 a4 sT MT hT;rcases(show x.c=0\/x.c=1 by omega)with xc|xc<;>rcases(show y.c=0\/y.c=1 by omega)with yc|yc
 ·
  have xM:=hx.nil om;have yM:=hy.nil om;rw[decide_eq_true xM]at zx;rw[decide_eq_true yM]at zy;have hsum:gQ mode x y=if x.s=y.s then x else Dv mode:=by
   unfold gQ;rw[if_neg (show ¬3<=max x.c y.c by omega),if_neg (show ¬y.c<x.c by omega),if_neg (show ¬x.c<y.c by omega),if_neg (show ¬x.c=1 by omega),if_neg (show ¬x.c=2 by omega)]
  by_cases hs:x.s=y.s
  ·have hT:=htot y.e y.e x.s 0 y0 y1 y0 y1 (.inl ⟨hs,rfl,by rw[xM,yM];simp⟩);refine(WE f mode x.s y.s x.e y.e x.s _ bx kx qx gy ky qy 0 zx zy hT rfl (by simp[hs]) _ (hzero x.s hx.jL)).mono ?_;rintro r w' ⟨rfl,hg⟩;refine⟨_,_,?_,rfl,hg⟩;rw[hsum,if_pos hs];exact .inl ⟨xc,rfl,rfl⟩
  ·have hT:=htot y.e y.e x.s 0 y0 y1 y0 y1 (.inr (.inl ⟨hs,by rw[xM,yM];simp,rfl,by rw[xM,yM];simp⟩));rw[hsum,if_neg hs];by_cases hm:mode=4
   ·refine(WH f mode x.s y.s x.e y.e x.s _ bx kx qx gy ky qy 0 zx zy hT rfl (by simp[hs]) (by simp[hm]) _ (hzero 1 (.inr rfl))).mono ?_;rintro r w' ⟨rfl,hg⟩;have:=hnil _ rfl;rw[if_pos hm]at this;exact⟨_,_,this,rfl,hg⟩
   ·refine(WG f mode x.s y.s x.e y.e x.s _ bx kx qx gy ky qy 0 zx zy hT rfl (by simp[hs]) (by simp[hm]) _ (hzero 0 (.inl rfl))).mono ?_;rintro r w' ⟨rfl,hg⟩;have:=hnil _ rfl;rw[if_neg hm]at this;exact⟨_,_,this,rfl,hg⟩
 ·
  have xM:=hx.nil om;have yM:=(hy.fin yc).1;rw[decide_eq_true xM]at zx;rw[decide_eq_false (by omega)]at zy;have hsum:gQ mode x y=y:=by
   unfold gQ;rw[if_neg (show ¬3<=max x.c y.c by omega),if_neg (show ¬y.c<x.c by omega),if_pos (show x.c<y.c by omega)]
  have hT:=htot y.e y.e y.s y.M y0 y1 y0 y1 (by
   have e1:(y.e-min y.e y.e).toNat =0:=om;rw[e1,xM];simp only[Nat.pow_zero,Nat.mul_one];by_cases hs:x.s=y.s
   ·exact .inl ⟨hs,hs.symm,om⟩
   ·exact .inr (.inr ⟨hs,om,rfl,om⟩))
  rw[show min y.e y.e=y.e by omega]at hT;refine(WI f mode x.s y.s x.e y.e y.s y.e bx kx qx gy ky qy y.M zx zy hT yM (fun z fl=>b_ p (1-mx) mx one inf sg nan mode y z fl) (fun v w hB=>nG h mode m0 m1 y yc hy.jL yM om om 1000 om v w hB)).mono ?_;rw[hsum];exact fun e w' h=>h
 ·
  have xM:=(hx.fin xc).1;have yM:=hy.nil om;rw[decide_eq_false (by omega)]at zx;rw[decide_eq_true yM]at zy;have hsum:gQ mode x y=x:=by
   unfold gQ;rw[if_neg (show ¬3<=max x.c y.c by omega),if_pos (show y.c<x.c by omega)]
  have hT:=htot x.e x.e x.s x.M x0 x1 x0 x1 (by
   have e1:(x.e-min x.e x.e).toNat =0:=om;rw[e1,yM];simp only[Nat.pow_zero,Nat.mul_one];by_cases hs:x.s=y.s
   ·exact .inl ⟨hs,rfl,om⟩
   ·exact .inr (.inl ⟨hs,om,rfl,om⟩))
  rw[show min x.e x.e=x.e by omega]at hT;refine(WJ f mode x.s y.s x.e y.e x.s x.e bx kx qx gy ky qy x.M zx zy hT xM (fun z fl=>b_ p (1-mx) mx one inf sg nan mode x z fl) (fun v w hB=>nG h mode m0 m1 x xc hx.jL xM om om 1000 om v w hB)).mono ?_;rw[hsum];exact fun e w' h=>h
 ·
  have xM:=(hx.fin xc).1;have yM:=(hy.fin yc).1;rw[decide_eq_false (by omega)]at zx;rw[decide_eq_false (by omega)]at zy;have hsum:gQ mode x y=rD mode x y:=by
   unfold gQ;rw[if_neg (show ¬3<=max x.c y.c by omega),if_neg (show ¬y.c<x.c by omega),if_neg (show ¬x.c<y.c by omega),if_pos xc]
  have hmin:-5000<=min x.e y.e/\min x.e y.e<=5000:=om;rw[hsum];have hb:iO x y=(x.M*2^(x.e-min x.e y.e).toNat,y.M*2^(y.e-min x.e y.e).toNat):=rfl;obtain⟨A,hA⟩:∃A,x.M*2^(x.e-min x.e y.e).toNat =A:=⟨_,rfl⟩;obtain⟨B,hB⟩:∃B,y.M*2^(y.e-min x.e y.e).toNat =B:=⟨_,rfl⟩;have hA0:0<A:=by rw[<-hA];exact Nat.mul_pos xM (Nat.pow_pos de)
  have hB0:0<B:=by rw[<-hB];exact Nat.mul_pos yM (Nat.pow_pos de)
  have Og:=htot x.e y.e;rw[hA,hB]at hb Og;unfold rD;rw[hb];dsimp only
  by_cases hs:x.s=y.s
  ·rw[if_pos hs];exact Bq f mode x.s y.s x.e y.e x.s _ bx kx qx gy ky qy (A+B) zx zy (Og _ _ x0 x1 y0 y1 (.inl ⟨hs,rfl,rfl⟩)) om _ (fun v w hB=>nG h mode m0 m1 ⟨1,x.s,min x.e y.e,A+B⟩ rfl hx.jL (by dsimp only;omega) hmin.1 hmin.2 1000 om v w hB)
  ·rw[if_neg hs];by_cases hab:A=B
   ·rw[if_pos hab];have hT:=Og x.s 0 x0 x1 y0 y1 (.inr (.inl ⟨hs,om,rfl,om⟩));by_cases hm:mode=4
    ·refine(WM f mode x.s y.s x.e y.e x.s _ bx kx qx gy ky qy 0 zx zy hT rfl (by simp[hs]) (by simp[hm]) _ (hzero 1 (.inr rfl))).mono ?_;rintro r w' ⟨rfl,hg⟩;have:=hnil _ rfl;rw[if_pos hm]at this;exact⟨_,_,this,rfl,hg⟩
    ·refine(WL f mode x.s y.s x.e y.e x.s _ bx kx qx gy ky qy 0 zx zy hT rfl (by simp[hs]) (by simp[hm]) _ (hzero 0 (.inl rfl))).mono ?_;rintro r w' ⟨rfl,hg⟩;have:=hnil _ rfl;rw[if_neg hm]at this;exact⟨_,_,this,rfl,hg⟩
   ·rw[if_neg hab];by_cases hlt:B<A
    ·rw[if_pos hlt];exact Bq f mode x.s y.s x.e y.e x.s _ bx kx qx gy ky qy (A-B) zx zy (Og _ _ x0 x1 y0 y1 (.inr (.inl ⟨hs,om,rfl,rfl⟩))) om _ (fun v w hB=>nG h mode m0 m1 ⟨1,x.s,min x.e y.e,A-B⟩ rfl hx.jL (by dsimp only;omega) hmin.1 hmin.2 1000 om v w hB)
    ·rw[if_neg hlt];exact Bq f mode x.s y.s x.e y.e y.s _ bx kx qx gy ky qy (B-A) zx zy (Og _ _ x0 x1 y0 y1 (.inr (.inr ⟨hs,om,rfl,rfl⟩))) om _ (fun v w hB=>nG h mode m0 m1 ⟨1,y.s,min x.e y.e,B-A⟩ rfl hy.jL (by dsimp only;omega) hmin.1 hmin.2 1000 om v w hB)
theorem YG(mode:Int)(x y:cu)(hx:VO x)(hy:VO y):0<=(gQ mode x y).c /\(gQ mode x y).c <=4:=by
 have:=hx.c0;have:=hx.c4;have:=hy.c0;have:=hy.c4;have ht:=TP mode x y hx.jL hy.jL;unfold gQ;split
 ·dsimp only;omega
 ·split
  ·omega
  ·split
   ·omega
   ·split
    ·omega
    ·split
     ·omega
     ·split
      ·exact⟨de,de⟩
      ·unfold Dv;dsimp only;omega
theorem Yd{P:Prop}(h:P:=by
 rintro e w' ⟨rfl,hg⟩;exact⟨_,_,vX _ true (by simp;omega) om om,rfl,hg⟩):P:=h
theorem X8{P:Prop}(h:P:=by
 rintro e w' ⟨rfl,hg⟩;exact⟨_,_,.inr (.inr ⟨hf,rfl,rfl⟩),rfl,hg⟩):P:=h
theorem X_{P:Prop}(h:P:=by
 rintro e w' ⟨rfl,hg⟩;exact⟨_,_,.inr (.inl ⟨p,mx,one,inf,sg,nan,hF,om,rfl,rfl⟩),rfl,hg⟩):P:=h
theorem Ya{P:Prop}(h:P:=by
 rintro e w' ⟨Z,fl,hp,rfl,hg⟩;exact⟨_,_,.inl ⟨p,mx,one,inf,sg,nan,x,y,hF,hm,hx,hy,hp⟩,rfl,hg⟩):P:=h
theorem TG{P:Prop}(h:P:=by
 rintro e w' ⟨rfl,hg⟩;exact⟨_,_,vX _ _ (by rw[decide_eq_decide];omega) om om,rfl,hg⟩):P:=h
theorem Yg{P:Prop}(h:P:=by
 rcases(show 2*sg<=a\/2*sg<=b by omega)with c|c
 ·have:=rM h hx c;subst this;dsimp only at*;omega
 ·have:=rM h hy c;subst this;dsimp only at*;omega):P:=h
theorem Ew(h:aQ f p mx one inf sg nan)(mode a b:Int)(hm:0<=mode/\mode<=4)(a0:0<=a)(a1:a<18446744073709551616)(b0:0<=b)(b1:b<18446744073709551616){x y:cu}(hx:bQ p mx one inf sg nan a x)(hy:bQ p mx one inf sg nan b y)(w:World):
  CT 105 #[J f,J mode,Y O a,Y O b] w fun e w'=>∃Z fl,b_ p (1-mx) mx one inf sg nan mode (gQ mode x y) Z fl/\e=X (aK Z fl)/\Gb w w':=by
 obtain⟨v1,v2,v3,v4,v5,v6⟩:=bT h hx;obtain⟨u1,u2,u3,u4,u5,u6⟩:=bT h hy;have xc0:=v1.c0;have U8:=v1.c4;have yc0:=u1.c0;have yc4:=u1.c4;by_cases hfit:a<2*sg/\b<2*sg
 ·obtain⟨fa,XH⟩:=hfit;have HF:fO f mode a b true:=fun w=>jd h mode a b hm.1 hm.2 a0 fa b0 XH w;have gU:=iC h a a0 fa hx;have iQ:=iC h b b0 XH hy;have HQ:∀(z:cu) (t:Bool),t=decide (3<=z.c)->bI z.c z.s z.e (((z.M:Nat):Int)) t:=fun z t ht w=>fU _ _ _ _ t ht w;have BQ:∀t:Bool,o9 f t nan (if t then 1 else 0):=fun t w=>mD h t _ rfl w;by_cases c1:3<=x.c
  ·rw[rF mode x y (by omega)];by_cases c2:x.c=4
   ·refine(VP f mode a b _ _ _ _ _ _ _ _ HF gU iQ (HQ x true (by simp[c1])) (by simp[c2]) nan _ (BQ true) w).mono ?_;exact Yd
   ·refine(VN f mode a b _ _ _ _ _ _ _ _ HF gU iQ (HQ x true (by simp[c1])) (by simp[c2]) (decide (y.c=4)) (bq _ _) nan _ (BQ _) w).mono ?_;exact TG
  ·by_cases c2:3<=y.c
   ·rw[rF mode x y (by omega)];refine(VL f mode a b _ _ _ _ _ _ _ _ HF gU iQ (HQ x V (by simp;omega)) (HQ y true (by simp[c2])) (by simp;omega) (decide (y.c=4)) (bq _ _) nan _ (BQ _) w).mono ?_;exact TG
   ·have hQa:=HQ x V (by simp;omega);have hQb:=HQ y V (by simp;omega);by_cases c3:x.c=2
    ·by_cases c4:y.c=2
     ·by_cases c5:x.s=y.s
      ·refine(VR f mode a b _ _ _ _ _ _ _ _ HF gU iQ hQa hQb c3 c4 c5 (sw x.s sg inf) 0 (fun w=>fB h x.s v1.jL w) w).mono ?_;rintro e w' ⟨rfl,hg⟩;refine⟨_,_,?_,rfl,hg⟩;unfold gQ;rw[if_neg (show ¬3<=max x.c y.c by omega),if_neg (show ¬y.c<x.c by omega),if_neg (show ¬x.c<y.c by omega),if_neg (show ¬x.c=1 by omega),if_pos c5];exact .inr (.inr (.inl ⟨c3,rfl,rfl⟩))
      ·refine(VU f mode a b _ _ _ _ _ _ _ _ HF gU iQ hQa hQb c3 c4 (by simp[c5]) nan 1 (fun w=>dJ h w) w).mono ?_;rintro e w' ⟨rfl,hg⟩;refine⟨_,_,?_,rfl,hg⟩;unfold gQ;rw[if_neg (show ¬3<=max x.c y.c by omega),if_neg (show ¬y.c<x.c by omega),if_neg (show ¬x.c<y.c by omega),if_neg (show ¬x.c=1 by omega),if_neg c5,if_pos c3];exact mZ rfl
     ·refine(VT f mode a b _ _ _ _ _ _ _ _ HF gU iQ hQa hQb c3 (by simp[c4]) (sw x.s sg inf) 0 (fun w=>fB h x.s v1.jL w) w).mono ?_;rintro e w' ⟨rfl,hg⟩;refine⟨_,_,?_,rfl,hg⟩;unfold gQ;rw[if_neg (show ¬3<=max x.c y.c by omega),if_pos (show y.c<x.c by omega)];exact .inr (.inr (.inl ⟨c3,rfl,rfl⟩))
    ·by_cases c4:y.c=2
     ·refine(VQ f mode a b _ _ _ _ _ _ _ _ HF gU iQ hQa hQb (by simp[c3]) c4 (sw y.s sg inf) 0 (fun w=>fB h y.s u1.jL w) w).mono ?_;rintro e w' ⟨rfl,hg⟩;refine⟨_,_,?_,rfl,hg⟩;unfold gQ;rw[if_neg (show ¬3<=max x.c y.c by omega),if_neg (show ¬y.c<x.c by omega),if_pos (show x.c<y.c by omega)];exact .inr (.inr (.inl ⟨c4,rfl,rfl⟩))
     ·exact Y6 f mode a b _ _ _ _ _ _ _ _ x.M y.M HF gU iQ hQa hQb (by simp[c3]) (by simp[c4]) (fun w=>lC _ _ _ x.M om w) (fun w=>lC _ _ _ y.M om w) (fun Z fl=>b_ p (1-mx) mx one inf sg nan mode (gQ mode x y) Z fl) (fun ba ka qa bb kb qb w HX HY=>WO h mode hm.1 hm.2 x y v1 u1 om om om om om om ba ka qa bb kb qb HX HY) w
 ·refine(EM f mode a b (fun w=>eH f mode a b a0 a1 b0 b1 (rP h a1 b1 om) w) nan 1 (fun w=>dJ h w) w).mono ?_;rintro e w' ⟨rfl,hg⟩;refine⟨_,_,?_,rfl,hg⟩;have:max x.c y.c=4:=by
   exact Yg
  rw[rF mode x y (by omega)];exact mZ this
theorem MP(f mode a b:Int)(a0:0<=a)(a1:a<18446744073709551616)(b0:0<=b)(b1:b<18446744073709551616)(w:World):
  CT 105 #[J f,J mode,Y O a,Y O b] w fun e w'=>∃Z fl,qG gQ f mode a b Z fl/\e=X (aK Z fl)/\Gb w w':=by
 by_cases hf:f=0\/f=1
 ·obtain⟨p,mx,one,inf,sg,nan,hF⟩:=iG f hf;by_cases hm:0<=mode/\mode<=4
  ·obtain⟨x,hx⟩:=fG hF a a0 a1;obtain⟨y,hy⟩:=fG hF b b0 b1;refine(Ew hF mode a b hm a0 a1 b0 b1 hx hy w).mono ?_;exact Ya
  ·refine(EM f mode a b (fun w=>eH f mode a b a0 a1 b0 b1 (.inl om) w) nan 1 (fun w=>dJ hF w) w).mono ?_;exact X_
 ·refine(EM f mode a b (fun w=>eH f mode a b a0 a1 b0 b1 (.inr (.inl hf)) w) _ 1 (fun w=>oW f hf w) w).mono ?_;exact X8
theorem add_same(f mode a b:Int)(a0:0<=a)(a1:a<18446744073709551616)(b0:0<=b)(b1:b<18446744073709551616):
  ∃Z fl:Int,qG gQ f mode a b Z fl/\(∀w,Az f mode a b w Z fl)/\
   (∀w,Fm w->QR 186 #[J f,J mode,Y O a,Y O b] w (aK Z fl)):=
 KC gQ 105 186 (fun mode x y hx hy _ _ _ _ _ _=>YG mode x y hx hy) f mode a b a0 a1 b0 b1 (MP f mode a b a0 a1 b0 b1) (Oe f mode a b a0 a1 b0 b1)
theorem Ye{P:Prop}(h:P:=by
 rintro e w'' ⟨rfl,hg'⟩;exact⟨_,_,.inr (.inl ⟨p,mx,one,inf,sg,nan,hF,om,rfl,rfl⟩),rfl,hg'⟩):P:=h
theorem aD4{P:Prop}(h:P:=by
 rintro e w'' ⟨Z,fl,hp,rfl,hg'⟩;rw[hmn]at hp;exact⟨_,_,.inl ⟨p,mx,one,inf,sg,nan,x,y,hF,hm,hx,hy,hp⟩,rfl,hg'⟩):P:=h
def oQ(mode:Int)(x y:cu):cu:=dO x y
theorem CU(f mode a b:Int)(a0:0<=a)(a1:a<18446744073709551616)(b0:0<=b)(b1:b<18446744073709551616)(w:World)(hw:Fm w):
  CT 135 #[J f,J mode,Y O a,Y O b] w fun e w'=>∃Z fl,qG oQ f mode a b Z fl/\e=X (aK Z fl)/\Gr w w':=by
 refine Sj f mode a b (qG oQ f mode a b) (fun w' hg=>?_);have hw':=hw.gr hg;by_cases hf:f=0\/f=1
 ·obtain⟨p,mx,one,inf,sg,nan,hF⟩:=iG f hf;obtain⟨mn,fb,sp,hM,hmn,hfb⟩:=hF.m;by_cases hm:0<=mode/\mode<=4
  ·obtain⟨k,hk⟩:=lq mode hm.1 hm.2;obtain⟨x,hx,HA⟩:=l9 hF hM a a0 a1;obtain⟨y,hy,HB⟩:=l9 hF hM b b0 b1;obtain⟨v1,v2,v3,v4,v5,v6⟩:=bT hF hx;obtain⟨u1,u2,u3,u4,u5,u6⟩:=bT hF hy;refine(KA p mn mx mode f k 181 a b _ _ _ _ _ _ _ _ _ _ _ _ (fun w'' hg'=>eY hF hM mode k (fun w=>gZ mode k hk w) (hw'.gr hg')) HA HB (qC (oQ mode x y)) (fun w=>(xR p mn mx mode k x y v1 u1 om om w).mono (fun e w' ⟨he,hg⟩=>⟨_,_,_,_,_,_,(E5 v1 u1 v6 u6 v4 v5 u4 u5).same,he,hg⟩)) (b_ p mn mx one inf sg nan mode (oQ mode x y)) (fun os oe oc oh ol ot w hq=>vJ hM mode k hk _ os oe oc oh ol ot hq w)).mono ?_;exact aD4
  ·refine(kK p mn mx mode nan f mode a b (fun w'' hg'=>gV hF hM mode (fun w=>kV mode om w) (hw'.gr hg')) (fun w=>dI hM w) 181).mono ?_;exact Ye
 ·refine(kK _ _ _ _ _ f mode a b (fun w'' hg'=>fV f mode hf (hw'.gr hg')) (fun w=>dI m64 w) 181).mono ?_;rintro e w'' ⟨rfl,hg'⟩;exact⟨_,_,.inr (.inr ⟨hf,rfl,rfl⟩),rfl,hg'⟩
theorem Qc(h:aQ f p mx one inf sg nan)(mode a b:Int)(hm:0<=mode/\mode<=4)(a0:0<=a)(a1:a<18446744073709551616)(b0:0<=b)(b1:b<18446744073709551616){x y:cu}(hx:bQ p mx one inf sg nan a x)(hy:bQ p mx one inf sg nan b y)(w:World):
  CT 104 #[J f,J mode,Y O a,Y O b] w fun e w'=>∃Z fl,b_ p (1-mx) mx one inf sg nan mode (oQ mode x y) Z fl/\e=X (aK Z fl)/\Gb w w':=by
 obtain⟨v1,v2,v3,v4,v5,v6⟩:=bT h hx;obtain⟨u1,u2,u3,u4,u5,u6⟩:=bT h hy;have xc0:=v1.c0;have U8:=v1.c4;have yc0:=u1.c0;have yc4:=u1.c4;have hms:mulS x.s y.s=0\/mulS x.s y.s=1:=by unfold mulS;split<;>simp
 unfold oQ;by_cases hfit:a<2*sg/\b<2*sg
 ·obtain⟨fa,XH⟩:=hfit;have HF:fO f mode a b true:=fun w=>jd h mode a b hm.1 hm.2 a0 fa b0 XH w;have gU:=iC h a a0 fa hx;have iQ:=iC h b b0 XH hy;have HQ:∀(z:cu) (t:Bool),t=decide (3<=z.c)->bI z.c z.s z.e (((z.M:Nat):Int)) t:=fun z t ht w=>fU _ _ _ _ t ht w;have BQ:∀t:Bool,o9 f t nan (if t then 1 else 0):=fun t w=>mD h t _ rfl w;by_cases c1:3<=x.c
  ·rw[wS x y (by omega)];by_cases c2:x.c=4
   ·refine(VE f mode a b _ _ _ _ _ _ _ _ HF gU iQ (HQ x true (by simp[c1])) (by simp[c2]) nan _ (BQ true) w).mono ?_;exact Yd
   ·refine(VD f mode a b _ _ _ _ _ _ _ _ HF gU iQ (HQ x true (by simp[c1])) (by simp[c2]) (decide (y.c=4)) (bq _ _) nan _ (BQ _) w).mono ?_;exact TG
  ·by_cases c2:3<=y.c
   ·rw[wS x y (by omega)];refine(VB f mode a b _ _ _ _ _ _ _ _ HF gU iQ (HQ x V (by simp;omega)) (HQ y true (by simp[c2])) (by simp;omega) (decide (y.c=4)) (bq _ _) nan _ (BQ _) w).mono ?_;exact TG
   ·have hQa:=HQ x V (by simp;omega);have hQb:=HQ y V (by simp;omega);have PN:∀t:Bool,t=decide (x.c=2/\y.c=0\/x.c=0/\y.c=2)->Tf x.c x.s x.e (((x.M:Nat):Int)) y.c y.s y.e (((y.M:Nat):Int)) t:=fun t ht w=>uO _ _ _ _ _ _ _ _ t ht w;have HM:Hid (∀w,CT 165 #[eX x.c x.s x.e (((x.M:Nat):Int)),eX y.c y.s y.e (((y.M:Nat):Int))] w fun e w'=>∃b k cc,aF 4 w' (aB b k cc) (x.M*y.M)/\e=X (.agg #[J (mulS x.s y.s),aB b k cc,J (x.e+y.e),.bool V])/\Gb w w'):=fun w=>yx _ _ _ _ _ _ x.M y.M om om v1.jL u1.jL om om om om w;unfold dO;rw[if_neg (show ¬3<=max x.c y.c by omega)];by_cases c3:x.c=2/\y.c=0\/x.c=0/\y.c=2
    ·rw[if_pos (show min x.c y.c=0/\max x.c y.c=2 by omega)];refine(aBZ f mode a b _ _ _ _ _ _ _ _ HF gU iQ hQa hQb (PN true (by simp[c3])) nan 1 (fun w=>dJ h w) w).mono ?_;rintro e w' ⟨rfl,hg⟩;exact⟨_,_,mZ rfl,rfl,hg⟩
    ·have hP:=PN V (decide_eq_false c3).symm;rw[if_neg (show ¬(min x.c y.c=0/\max x.c y.c=2) by omega)];by_cases c4:x.c=2
     ·rw[if_neg (show ¬min x.c y.c=0 by omega),if_pos (show max x.c y.c=2 by omega)];refine(VG f mode a b _ _ _ _ _ _ _ _ _ _ _ HF gU iQ hQa hQb hP HM c4 (sw (mulS x.s y.s) sg inf) 0 (fun w=>fB h _ hms w) w).mono ?_;rintro e w' ⟨rfl,hg⟩;exact⟨_,_,.inr (.inr (.inl ⟨rfl,rfl,rfl⟩)),rfl,hg⟩
     ·by_cases c5:y.c=2
      ·rw[if_neg (show ¬min x.c y.c=0 by omega),if_pos (show max x.c y.c=2 by omega)];refine(VF f mode a b _ _ _ _ _ _ _ _ _ _ _ HF gU iQ hQa hQb hP HM (by simp[c4]) c5 (sw (mulS x.s y.s) sg inf) 0 (fun w=>fB h _ hms w) w).mono ?_;rintro e w' ⟨rfl,hg⟩;exact⟨_,_,.inr (.inr (.inl ⟨rfl,rfl,rfl⟩)),rfl,hg⟩
      ·by_cases c6:min x.c y.c=0
       ·rw[if_pos c6];have hz:x.M*y.M=0:=by
         rcases(show x.c=0\/y.c=0 by omega)with c|c
         ·rw[v3 om,Nat.zero_mul]
         ·rw[u3 om,Nat.mul_zero]
        refine(Vz f mode a b _ _ _ _ _ _ _ _ _ _ _ HF gU iQ hQa hQb hP HM (by simp[c4]) (by simp[c5]) hz (sw (mulS x.s y.s) sg 0) 0 (fun w=>iF h _ hms w) w).mono ?_;rintro e w' ⟨rfl,hg⟩;exact⟨_,_,.inl ⟨rfl,rfl,rfl⟩,rfl,hg⟩
       ·rw[if_neg c6,if_neg (show ¬max x.c y.c=2 by omega)];have ex:=(v1.fin om).1;have ey:=(u1.fin om).1;have hpos:0<x.M*y.M:=Nat.mul_pos ex ey;exact Y5 f mode a b _ _ _ _ _ _ _ _ _ _ _ HF gU iQ hQa hQb hP HM (by simp[c4]) (by simp[c5]) hpos _ (fun v w hB=>nG h mode hm.1 hm.2 ⟨1,mulS x.s y.s,x.e+y.e,x.M*y.M⟩ rfl hms hpos (by dsimp only;omega) (by dsimp only;omega) 4 om v w hB) w
 ·refine(EJ f mode a b (fun w=>eH f mode a b a0 a1 b0 b1 (rP h a1 b1 om) w) nan 1 (fun w=>dJ h w) w).mono ?_;rintro e w' ⟨rfl,hg⟩;refine⟨_,_,?_,rfl,hg⟩;have:max x.c y.c=4:=by
   exact Yg
  rw[wS x y (by omega)];exact mZ this
theorem Ci(f mode a b:Int)(a0:0<=a)(a1:a<18446744073709551616)(b0:0<=b)(b1:b<18446744073709551616)(w:World):
  CT 104 #[J f,J mode,Y O a,Y O b] w fun e w'=>∃Z fl,qG oQ f mode a b Z fl/\e=X (aK Z fl)/\Gb w w':=by
 by_cases hf:f=0\/f=1
 ·obtain⟨p,mx,one,inf,sg,nan,hF⟩:=iG f hf;by_cases hm:0<=mode/\mode<=4
  ·obtain⟨x,hx⟩:=fG hF a a0 a1;obtain⟨y,hy⟩:=fG hF b b0 b1;refine(Qc hF mode a b hm a0 a1 b0 b1 hx hy w).mono ?_;exact Ya
  ·refine(EJ f mode a b (fun w=>eH f mode a b a0 a1 b0 b1 (.inl om) w) nan 1 (fun w=>dJ hF w) w).mono ?_;exact X_
 ·refine(EJ f mode a b (fun w=>eH f mode a b a0 a1 b0 b1 (.inr (.inl hf)) w) _ 1 (fun w=>oW f hf w) w).mono ?_;exact X8
theorem aCh(mode:Int)(x y:cu)(hx:VO x)(hy:VO y)(h1:nb x.M<=53)(h2:nb y.M<=53)(h3:-2000<=x.e)(h4:x.e<=2000)(h5:-2000<=y.e)(h6:y.e<=2000):0<=(oQ mode x y).c /\(oQ mode x y).c <=4:=⟨(E5 hx hy h1 h2 h3 h4 h5 h6).c0,(E5 hx hy h1 h2 h3 h4 h5 h6).c4⟩
theorem rU(f mode a b:Int)(a0:0<=a)(a1:a<18446744073709551616)(b0:0<=b)(b1:b<18446744073709551616):
  ∃Z fl:Int,qG oQ f mode a b Z fl/\(∀w,AA f mode a b w Z fl)/\
   (∀w,Fm w->QR 135 #[J f,J mode,Y O a,Y O b] w (aK Z fl)):=
 KC oQ 104 135 aCh f mode a b a0 a1 b0 b1 (Ci f mode a b a0 a1 b0 b1) (CU f mode a b a0 a1 b0 b1)
theorem aD5{P:Prop}(h:P:=by
 rintro r w' ⟨rfl,hg⟩;exact⟨_,_,_,_,_,_,_,kF.flat p _ _ _ 2 _ rfl om om om (fun _=>⟨rfl,hms⟩),rfl,hg⟩):P:=h
theorem Yc{P:Prop}(h:P:=by
 rintro r w' ⟨rfl,hg⟩;exact⟨_,_,_,_,_,_,_,kF.flat p _ _ _ 0 _ rfl om om om (fun _=>⟨rfl,hms⟩),rfl,hg⟩):P:=h
theorem JA(hF:aQ f p mx one inf sg nan)(mn md:Int)(k:Nat){x y:cu}(hx:bQ p mx one inf sg nan a x)(hy:bQ p mx one inf sg nan b y)(h3:max x.c y.c<3)(w:World):
  CT 222 #[dP p mn mx md k,aV x.s x.e x.c (((x.M/18446744073709551616:Nat):Int)) (((x.M%18446744073709551616:Nat):Int)) V 0,aV y.s y.e y.c (((y.M/18446744073709551616:Nat):Int)) (((y.M%18446744073709551616:Nat):Int)) V 0] w fun e w'=>∃os oe oc oh ol ot of,kF p (divO p md x y) os oe oc oh ol ot of/\e=X (aV os oe oc oh ol ot of)/\Gr w w':=by
 obtain⟨v1,v2,v3,v4,v5,v6⟩:=bT hF hx;obtain⟨u1,u2,u3,u4,u5,u6⟩:=bT hF hy;have hpb:24<=p/\p<=53:=by have:=hF.bounds;omega
 have HT:Hid (∀w,QR 230 #[gW x.s x.e,gW y.s y.e] w (gW (mulS x.s y.s) (x.e-y.e))):=fun w=>MF x.s x.e y.s y.e v1.jL u1.jL om om om om w;have hms:=JL x.s y.s;have fx:x.c=1->_:=qc hF hx;have fy:y.c=1->_:=qc hF hy;have c0:=v1.c0;have d0:=u1.c0;obtain⟨cx,sx,ex,Mx⟩:=x;obtain⟨cy,sy,ey,My⟩:=y;dsimp only at*
 rcases(show cx=0\/cx=1\/cx=2 by omega)with rfl|rfl|rfl<;>rcases(show cy=0\/cy=1\/cy=2 by omega)with rfl|rfl|rfl
 ·rw[show divO p md ⟨0,sx,ex,Mx⟩ ⟨0,sy,ey,My⟩=⟨4,0,0,0⟩ from by unfold divO;dsimp only;rw[if_neg de,if_pos (by decide)]];refine(Nw p mn mx md k _ _ _ _ _ _ _ _ _ _ _ _ HT w).mono ?_;rintro r w' ⟨rfl,hg⟩;exact⟨_,_,_,_,_,_,_,kF.nan p 4 om om,rfl,hg⟩
 ·rw[show divO p md ⟨0,sx,ex,Mx⟩ ⟨1,sy,ey,My⟩=⟨0,mulS sx sy,0,0⟩ from by unfold divO;dsimp only;rw[if_neg de,if_neg de,if_neg de,if_neg de,if_neg (by decide)]];refine(Nv p mn mx md k _ _ _ _ _ _ _ _ _ _ _ _ HT w).mono ?_;exact Yc
 ·rw[show divO p md ⟨0,sx,ex,Mx⟩ ⟨2,sy,ey,My⟩=⟨0,mulS sx sy,0,0⟩ from by unfold divO;dsimp only;rw[if_neg de,if_neg de,if_neg de,if_neg de,if_neg (by decide)]];refine(Nu p mn mx md k _ _ _ _ _ _ _ _ _ _ _ _ HT w).mono ?_;exact Yc
 ·rw[show divO p md ⟨1,sx,ex,Mx⟩ ⟨0,sy,ey,My⟩=⟨5,mulS sx sy,0,0⟩ from by unfold divO;dsimp only;rw[if_neg de,if_neg de,if_neg de,if_pos (by decide)]];refine(Ns p mn mx md k _ _ _ _ _ _ _ _ _ _ _ _ HT w).mono ?_;rintro r w' ⟨rfl,hg⟩;exact⟨_,_,_,_,_,_,_,.inr (.inl ⟨rfl,rfl,rfl,hms,rfl⟩),rfl,hg⟩
 ·rw[show divO p md ⟨1,sx,ex,Mx⟩ ⟨1,sy,ey,My⟩=⟨1,mulS sx sy,ex-ey-(p+4)-1,QO p.toNat Mx My⟩ from by unfold divO;dsimp only;rw[if_neg de,if_neg de,if_neg de,if_neg de,if_pos (by decide)]];obtain⟨Pn,hP,hP1,Oj,hA,hA2⟩:=fx rfl;obtain⟨Pn',hP',_,_,hB,hB2⟩:=fy rfl;obtain rfl:Pn=Pn':=om;have hB0:0<My:=Nat.lt_of_lt_of_le (Nat.pow_pos de) hB;obtain⟨r1,r2,r3,r4,r5,r6⟩:=Bd hP hP1 hA hB2 hB0 (ex-ey);have hAB:Mx<2*My:=by
   have:2^Pn=2*2^(Pn-1):=by rw[<-Nat.pow_succ',show(Pn-1).succ =Pn by omega]
   omega
  obtain⟨d1,d2⟩:=QN Mx My (Pn+2) hAB om;have hC:Mx*2^(Pn+2)/My<18446744073709551616:=by
   have h1:Mx*2^(Pn+2)<My*2^(Pn+3):=by
    have:2^(Pn+3)=2*2^(Pn+2):=by rw[<-Nat.pow_succ']
    rw[this,<-Nat.mul_assoc,Nat.mul_comm My 2];exact Nat.mul_lt_mul_of_pos_right hAB (Nat.pow_pos de)
   have h2:Mx*2^(Pn+2)/My<2^(Pn+3):=by rw[Nat.div_lt_iff_lt_mul hB0,Nat.mul_comm (2^(Pn+3))];exact h1
   have h3:2^(Pn+3)<=2^56:=Nat.pow_le_pow_right de om;have h4:2^56<18446744073709551616:=de;omega
  rw[Nat.mod_eq_of_lt hC]at d2;rw[show p.toNat=Pn by omega];refine(Nq p mn mx md k sx ex _ _ sy ey _ _ _ _ _ _ HT Mx My (by rw[Nat.mod_eq_of_lt (by omega)]) (by rw[Nat.mod_eq_of_lt (by omega)]) om om (mulS sx sy) (ex-ey-(p+2)) 1 0 _ _ (fun w v hd=>UK p mn mx md k (mulS sx sy) (ex-ey) om om om om om hd (Pn+3) om) w).mono ?_;rintro r w' ⟨rfl,hg⟩;refine⟨_,_,_,_,_,_,_,.inl ⟨Mx*2^(Pn+2)/My,?_,?_,rfl,rfl,(show(0:Int)<=1 by omega),(show(1:Int)<=4 by omega),fun _=>⟨rfl,hms⟩,fun _=>⟨r1,om,fun _=>r2,om,om,fun mn mx one inf mode z fl=>?_⟩⟩,rfl,hg⟩
  ·rw[Nat.div_eq_of_lt hC];rfl
  ·rw[Nat.mod_eq_of_lt hC,show Pn+3=Pn+2+1 from rfl,d2]
  ·rw[show Pn+3-1=Pn+2 from rfl,d1];exact r5 _ _ _ _ _ _ _ _
 ·rw[show divO p md ⟨1,sx,ex,Mx⟩ ⟨2,sy,ey,My⟩=⟨0,mulS sx sy,0,0⟩ from by unfold divO;dsimp only;rw[if_neg de,if_neg de,if_neg de,if_neg de,if_neg (by decide)]];refine(Np p mn mx md k _ _ _ _ _ _ _ _ _ _ _ _ HT w).mono ?_;exact Yc
 ·rw[show divO p md ⟨2,sx,ex,Mx⟩ ⟨0,sy,ey,My⟩=⟨2,mulS sx sy,0,0⟩ from by unfold divO;dsimp only;rw[if_neg de,if_neg de,if_pos (by decide)]];refine(Nl p mn mx md k _ _ _ _ _ _ _ _ _ _ _ _ HT w).mono ?_;exact aD5
 ·rw[show divO p md ⟨2,sx,ex,Mx⟩ ⟨1,sy,ey,My⟩=⟨2,mulS sx sy,0,0⟩ from by unfold divO;dsimp only;rw[if_neg de,if_neg de,if_pos (by decide)]];refine(Nk p mn mx md k _ _ _ _ _ _ _ _ _ _ _ _ HT w).mono ?_;exact aD5
 ·rw[show divO p md ⟨2,sx,ex,Mx⟩ ⟨2,sy,ey,My⟩=⟨4,0,0,0⟩ from by unfold divO;dsimp only;rw[if_neg de,if_pos (by decide)]];refine(Nj p mn mx md k _ _ _ _ _ _ _ _ _ _ _ _ HT w).mono ?_;rintro r w' ⟨rfl,hg⟩;exact⟨_,_,_,_,_,_,_,kF.nan p 4 om om,rfl,hg⟩
theorem Oc(f mode a b:Int)(a0:0<=a)(a1:a<18446744073709551616)(b0:0<=b)(b1:b<18446744073709551616)(w:World)(hw:Fm w):
  CT 206 #[J f,J mode,Y O a,Y O b] w fun e w'=>∃Z fl,mO divO f mode a b Z fl/\e=X (aK Z fl)/\Gr w w':=by
 refine Sl f mode a b (mO divO f mode a b) (fun w' hg=>?_);have hw':=hw.gr hg;by_cases hf:f=0\/f=1
 ·obtain⟨p,mx,one,inf,sg,nan,hF⟩:=iG f hf;obtain⟨mn,fb,sp,hM,hmn,hfb⟩:=hF.m;by_cases hm:0<=mode/\mode<=4
  ·obtain⟨k,hk⟩:=lq mode hm.1 hm.2;obtain⟨x,hx,HA⟩:=l9 hF hM a a0 a1;obtain⟨y,hy,HB⟩:=l9 hF hM b b0 b1;obtain⟨v1,v2,v3,v4,v5,v6⟩:=bT hF hx;obtain⟨u1,u2,u3,u4,u5,u6⟩:=bT hF hy;refine(F6 p mn mx mode f k 222 a b _ _ _ _ _ _ _ _ _ _ _ _ (fun w'' hg'=>eY hF hM mode k (fun w=>gZ mode k hk w) (hw'.gr hg')) HA HB (kF p (divO p mode x y)) (fun w=>?_) (o_ p mn mx one inf sg nan mode (divO p mode x y)) (fun os oe oc oh ol ot of w hq=>Ih hM mode k hk _ os oe oc oh ol ot of hq w)).mono ?_
   ·by_cases h3:3<=max x.c y.c
    ·refine(iR p mn mx mode k _ _ _ _ _ _ _ _ _ _ _ _ 222 _ rfl h3 w).mono ?_;rintro e w' ⟨rfl,hg⟩;rw[Ad p mode x y h3];exact⟨_,_,_,_,_,_,_,kF.nan p _ h3 (by have:=v1.c4;have:=u1.c4;omega),rfl,hg⟩
    ·exact BK p mn mx mode k _ _ _ _ _ _ _ _ _ _ _ _ _ rfl om _ (fun w=>JA hF mn mode k hx hy om w) w
   ·exact aD4
  ·refine(kK p mn mx mode nan f mode a b (fun w'' hg'=>gV hF hM mode (fun w=>kV mode om w) (hw'.gr hg')) (fun w=>dI hM w) 222).mono ?_;exact Ye
 ·refine(kK _ _ _ _ _ f mode a b (fun w'' hg'=>fV f mode hf (hw'.gr hg')) (fun w=>dI m64 w) 222).mono ?_;rintro e w'' ⟨rfl,hg'⟩;exact⟨_,_,.inr (.inr ⟨hf,rfl,rfl⟩),rfl,hg'⟩
theorem Yf{P:Prop}(h:P:=by
 rintro e w' ⟨rfl,hg⟩;exact⟨_,_,.inl (vX _ _ (by rw[decide_eq_decide];omega) om om),rfl,hg⟩):P:=h
theorem X9{P:Prop}(h:P:=by
 rintro e w' ⟨rfl,hg⟩;exact⟨_,_,.inl (.inl ⟨rfl,rfl,rfl⟩),rfl,hg⟩):P:=h
theorem Qd(h:aQ f p mx one inf sg nan)(mode a b:Int)(hm:0<=mode/\mode<=4)(a0:0<=a)(a1:a<18446744073709551616)(b0:0<=b)(b1:b<18446744073709551616){x y:cu}(hx:bQ p mx one inf sg nan a x)(hy:bQ p mx one inf sg nan b y)(w:World):
  CT 45 #[J f,J mode,Y O a,Y O b] w fun e w'=>∃Z fl,o_ p (1-mx) mx one inf sg nan mode (divO p mode x y) Z fl/\e=X (aK Z fl)/\Gb w w':=by
 obtain⟨v1,v2,v3,v4,v5,v6⟩:=bT h hx;obtain⟨u1,u2,u3,u4,u5,u6⟩:=bT h hy;have xc0:=v1.c0;have U8:=v1.c4;have yc0:=u1.c0;have yc4:=u1.c4;have hb:=h.bounds;have hms:=JL x.s y.s;obtain⟨hm1,hm2⟩:=NM x.s y.s v1.jL u1.jL;have sa0:0<=x.s:=by have:=v1.jL;omega
 have sa1:x.s<=1:=by have:=v1.jL;omega
 have sb0:0<=y.s:=by have:=u1.jL;omega
 have sb1:y.s<=1:=by have:=u1.jL;omega
 have fx:x.c=1->_:=qc h hx;have fy:y.c=1->_:=qc h hy;by_cases hfit:a<2*sg/\b<2*sg
 ·obtain⟨fa,XH⟩:=hfit;have HF:fO f mode a b true:=fun w=>jd h mode a b hm.1 hm.2 a0 fa b0 XH w;have gU:=iC h a a0 fa hx;have iQ:=iC h b b0 XH hy;have HQ:∀(z:cu) (t:Bool),t=decide (3<=z.c)->bI z.c z.s z.e (((z.M:Nat):Int)) t:=fun z t ht w=>fU _ _ _ _ t ht w;have BQ:∀t:Bool,o9 f t nan (if t then 1 else 0):=fun t w=>mD h t _ rfl w;by_cases c1:3<=x.c
  ·rw[Ad p mode x y (by omega)];by_cases c2:x.c=4
   ·refine(VK f mode a b _ _ _ _ _ _ _ _ HF gU iQ (HQ x true (by simp[c1])) (by simp[c2]) nan _ (BQ true) w).mono ?_;rintro e w' ⟨rfl,hg⟩;exact⟨_,_,.inl (vX _ true (by simp;omega) om om),rfl,hg⟩
   ·refine(VJ f mode a b _ _ _ _ _ _ _ _ HF gU iQ (HQ x true (by simp[c1])) (by simp[c2]) (decide (y.c=4)) (bq _ _) nan _ (BQ _) w).mono ?_;exact Yf
  ·by_cases c2:3<=y.c
   ·rw[Ad p mode x y (by omega)];refine(VI f mode a b _ _ _ _ _ _ _ _ HF gU iQ (HQ x V (by simp;omega)) (HQ y true (by simp[c2])) (by simp;omega) (decide (y.c=4)) (bq _ _) nan _ (BQ _) w).mono ?_;exact Yf
   ·have hQa:=HQ x V (by simp;omega);have hQb:=HQ y V (by simp;omega);unfold divO;rw[if_neg (show ¬3<=max x.c y.c by omega)];rcases(show x.c=0\/x.c=1\/x.c=2 by omega)with cx|cx|cx<;>rcases(show y.c=0\/y.c=1\/y.c=2 by omega)with cy|cy|cy
    ·rw[if_pos (show x.c=y.c/\x.c≠1 by omega)];refine(aB7 f mode a b _ _ _ _ _ _ _ _ HF gU iQ hQa hQb cx cy nan 1 (fun w=>dJ h w) w).mono ?_;rintro e w' ⟨rfl,hg⟩;exact⟨_,_,.inl (mZ rfl),rfl,hg⟩
    ·rw[if_neg (show ¬(x.c=y.c/\x.c≠1) by omega),if_neg (show ¬x.c=2 by omega),if_neg (show ¬(x.c=1/\y.c=0) by omega),if_neg (show ¬(x.c=1/\y.c=1) by omega)];refine(aB6 f mode a b _ _ _ _ _ _ _ _ HF gU iQ hQa hQb cx cy _ sa0 sa1 sb0 sb1 hm1 hm2 (sw (mulS x.s y.s) sg 0) 0 (fun w=>iF h _ hms w) w).mono ?_;exact X9
    ·rw[if_neg (show ¬(x.c=y.c/\x.c≠1) by omega),if_neg (show ¬x.c=2 by omega),if_neg (show ¬(x.c=1/\y.c=0) by omega),if_neg (show ¬(x.c=1/\y.c=1) by omega)];refine(aB5 f mode a b _ _ _ _ _ _ _ _ HF gU iQ hQa hQb cx cy _ sa0 sa1 sb0 sb1 hm1 hm2 (sw (mulS x.s y.s) sg 0) 0 (fun w=>iF h _ hms w) w).mono ?_;exact X9
    ·rw[if_neg (show ¬(x.c=y.c/\x.c≠1) by omega),if_neg (show ¬x.c=2 by omega),if_pos ⟨cx,cy⟩];refine(aB4 f mode a b _ _ _ _ _ _ _ _ HF gU iQ hQa hQb cx cy _ sa0 sa1 sb0 sb1 hm1 hm2 inf (sw (mulS x.s y.s) sg inf) (fun w=>jv h w) (fun w=>oC h _ _ _ ?_ om om w) w).mono ?_
     ·rcases hms with c|c
      ·exact .inl ⟨c,by rw[c];simp[sw]⟩
      ·exact .inr ⟨c,by rw[c];simp[sw]⟩
     ·rintro e w' ⟨rfl,hg⟩;exact⟨_,_,.inr ⟨rfl,rfl,rfl⟩,rfl,hg⟩
    ·rw[if_neg (show ¬(x.c=y.c/\x.c≠1) by omega),if_neg (show ¬x.c=2 by omega),if_neg (show ¬(x.c=1/\y.c=0) by omega),if_pos ⟨cx,cy⟩];obtain⟨Pn,hP,hP1,Oj,hA,hA2⟩:=fx cx;obtain⟨Pn',hP',_,_,hB,hB2⟩:=fy cy;obtain rfl:Pn=Pn':=om;have hB0:0<y.M:=Nat.lt_of_lt_of_le (Nat.pow_pos de) hB;obtain⟨r1,r2,r3,r4,r5,r6⟩:=Bd hP hP1 hA hB2 hB0 (x.e-y.e);rw[show p.toNat=Pn by omega];have e4:x.e-y.e-(((Pn+4:Nat)):Int)=x.e-y.e-(p+4):=om;refine Ub f mode a b _ _ _ _ _ _ _ _ HF gU iQ hQa hQb cx cy _ sa0 sa1 sb0 sb1 hm1 hm2 (x.e-y.e-(p+4)) (decide (x.M*2^(Pn+4)%y.M≠0)) (x.M*2^(Pn+4)/y.M) (fun w=>?_) _ (fun v w hB=>Ba h mode hm.1 hm.2 ⟨1,mulS x.s y.s,x.e-y.e-(p+4)-1,QO Pn x.M y.M⟩ rfl hms _ r3 (x.e-y.e-(p+4)) om om _ r4 (fun mn mx one inf mode z fl=>r6 _ _ _ _ _ _ _ _) 8 om v w hB) w;have hq:=oV h 1 x.s x.e 1 y.s y.e x.M y.M om om hB0 sa0 sa1 sb0 sb1 _ hm1 hm2 om om om om (Pn+4) om w;rw[e4]at hq;exact hq
    ·rw[if_neg (show ¬(x.c=y.c/\x.c≠1) by omega),if_neg (show ¬x.c=2 by omega),if_neg (show ¬(x.c=1/\y.c=0) by omega),if_neg (show ¬(x.c=1/\y.c=1) by omega)];refine(aB3 f mode a b _ _ _ _ _ _ _ _ HF gU iQ hQa hQb cx cy _ sa0 sa1 sb0 sb1 hm1 hm2 (sw (mulS x.s y.s) sg 0) 0 (fun w=>iF h _ hms w) w).mono ?_;exact X9
    ·rw[if_neg (show ¬(x.c=y.c/\x.c≠1) by omega),if_pos cx];refine(aB2 f mode a b _ _ _ _ _ _ _ _ HF gU iQ hQa hQb cx cy _ sa0 sa1 sb0 sb1 hm1 hm2 (sw (mulS x.s y.s) sg inf) 0 (fun w=>fB h _ hms w) w).mono ?_;rintro e w' ⟨rfl,hg⟩;exact⟨_,_,.inl (.inr (.inr (.inl ⟨rfl,rfl,rfl⟩))),rfl,hg⟩
    ·rw[if_neg (show ¬(x.c=y.c/\x.c≠1) by omega),if_pos cx];refine(aB1 f mode a b _ _ _ _ _ _ _ _ HF gU iQ hQa hQb cx cy _ sa0 sa1 sb0 sb1 hm1 hm2 (sw (mulS x.s y.s) sg inf) 0 (fun w=>fB h _ hms w) w).mono ?_;rintro e w' ⟨rfl,hg⟩;exact⟨_,_,.inl (.inr (.inr (.inl ⟨rfl,rfl,rfl⟩))),rfl,hg⟩
    ·rw[if_pos (show x.c=y.c/\x.c≠1 by omega)];refine(aB0 f mode a b _ _ _ _ _ _ _ _ HF gU iQ hQa hQb cx cy nan 1 (fun w=>dJ h w) w).mono ?_;rintro e w' ⟨rfl,hg⟩;exact⟨_,_,.inl (mZ rfl),rfl,hg⟩
 ·refine(EL f mode a b (fun w=>eH f mode a b a0 a1 b0 b1 (rP h a1 b1 om) w) nan 1 (fun w=>dJ h w) w).mono ?_;rintro e w' ⟨rfl,hg⟩;refine⟨_,_,?_,rfl,hg⟩;have:max x.c y.c=4:=by
   exact Yg
  rw[Ad p mode x y (by omega)];exact .inl (mZ this)
theorem MO(f mode a b:Int)(a0:0<=a)(a1:a<18446744073709551616)(b0:0<=b)(b1:b<18446744073709551616)(w:World):
  CT 45 #[J f,J mode,Y O a,Y O b] w fun e w'=>∃Z fl,mO divO f mode a b Z fl/\e=X (aK Z fl)/\Gb w w':=by
 by_cases hf:f=0\/f=1
 ·obtain⟨p,mx,one,inf,sg,nan,hF⟩:=iG f hf;by_cases hm:0<=mode/\mode<=4
  ·obtain⟨x,hx⟩:=fG hF a a0 a1;obtain⟨y,hy⟩:=fG hF b b0 b1;refine(Qd hF mode a b hm a0 a1 b0 b1 hx hy w).mono ?_;exact Ya
  ·refine(EL f mode a b (fun w=>eH f mode a b a0 a1 b0 b1 (.inl om) w) nan 1 (fun w=>dJ hF w) w).mono ?_;exact X_
 ·refine(EL f mode a b (fun w=>eH f mode a b a0 a1 b0 b1 (.inr (.inl hf)) w) _ 1 (fun w=>oW f hf w) w).mono ?_;exact X8
theorem FN(f mode a b:Int)(a0:0<=a)(a1:a<18446744073709551616)(b0:0<=b)(b1:b<18446744073709551616):
  ∃Z fl:Int,mO divO f mode a b Z fl/\(∀w,sZ f mode a b w Z fl)/\
   (∀w,Fm w->QR 206 #[J f,J mode,Y O a,Y O b] w (aK Z fl)):=
 OQ divO 45 206 _ aGv f mode a b a0 a1 b0 b1 (MO f mode a b a0 a1 b0 b1) (Oc f mode a b a0 a1 b0 b1)
