import Derived.Test.YthoelefkjpjhfaaGreatDoorK0
import Derived.Test.YthoelefkjpjhfaaGreatDoorM3
set_option linter.all false
set_option maxRecDepth 1000000
set_option maxHeartbeats 40000000
open Bool renaming false → V, true → E
open Go.Proofs.YthoelefkjpjhfaaGreatDoor renaming vI → J
open Go.Value renaming agg → Y, bool → O
open Go.Ending renaming returned → Z
open Go.Proofs.Tryz
namespace Go.Proofs.YthoelefkjpjhfaaGreatDoor
open Go.RowKit
variable {w:ak}{b k c N n K:Nat}
def aF7{P:Prop}(h:P:=by
 have HM:Hid (0<MT):=hM;clear hM;go_enter func143,ntmps143;go_wp2_with (first|(go_at_call 226;refine(HT _ Gb.g).mono ?_;rintro e w1 ⟨b1,k1,c1,iF,rfl,au⟩;obtain⟨n1,hn1,Vr⟩:=iF;have kF:(0<((k1:Nat):Int)):=(Zi Vr HM.out);have aRN:aK 1000 w1 (.slice (some ⟨b1,0,none⟩) k1 c1) MT:=⟨n1,hn1,Vr⟩;have ax0:=au.f_ w;have ay0:=au.VZ w;have:=au.A22 w;have aX:=eU ax0.1;have aY:=eU ay0.1;have hA:=(λob=>aK.gb aRN ((Gb.refl w1).alloc ob)))|(go_at_call 138;refine(HR _ _ (aK.gb aRN Gb.g)).mono ?_;rintro e w2 ⟨z,fl,hq,rfl,aC⟩;have lJ:=aC.VT w))
 refine gY (v:=aU z fl) (by simp[results,results143,go_sem,lJ]) rfl ⟨z,fl,hq,rfl,?_⟩;exact Gb.g):P:=h
def WO{P:Prop}(h:P:=by
 have HM:Hid (MT=0):=hM;clear hM;go_enter func143,ntmps143;go_wp2_with (first|(go_at_call 226;refine(HT _ Gb.g).mono ?_;rintro e w1 ⟨b1,k1,c1,iF,rfl,au⟩;obtain⟨n1,hn1,Vr⟩:=iF;obtain rfl:k1=0:=(VQ Vr HM.out);have ax0:=au.f_ w;have ay0:=au.VZ w;have:=au.A22 w;have aX:=eU ax0.1;have aY:=eU ay0.1)|(go_at_call 137;refine ku (HZ _) λw2 aC=>?_;have lJ:=aC.VT w))
 exact dX (by simp[results,results143,go_sem,lJ])):P:=h
attribute [local go_sem] aB
def Zi(h:Big w (aF b k c) n N)(hN:0<N):0<((k:Nat):Int):=by
 obtain⟨xk,_,b',cap,e,_⟩:=h;injection e with e1 e2 e3;have:=xk.iff;omega
def VQ(h:Big w (aF b k c) n N)(hN:N=0):k=0:=by
 obtain⟨xk,_,b',cap,e,_⟩:=h;injection e with e1 e2 e3;have:=xk.iff;omega
def VR(h:aK K w (aF b k c) N):(((k:Nat):Int)==0)=decide (N=0):=by
 obtain⟨n,_,h⟩:=h;rcases jL N with c|c
 .rw[VQ h c];simp[c]
 .have:=Zi h c;rw[gV (by omega)];simp;omega
def Ih(f aj sx sy ex ey sT eT:Int)(bx kx cx gy ky cy MT:Nat)(hkx:(((kx:Nat):Int)==0)=V)(hky:(((ky:Nat):Int)==0)=V)(HT:Hid (∀w',Gb w w'->CT 226 #[Y #[J sx,aF bx kx cx,J ex,O V],Y #[J sy,aF gy ky cy,J ey,O V]] w' λe bf=>∃b k c,aK 1000 bf (aF b k c) MT/\e=Z (Y #[J sT,aF b k c,J eT,O V])/\Gb w' bf))(hM:0<MT)(Q:Int->Int->Prop)(HR:Hid (∀v w,aK 1000 w v MT->CT 138 #[J f,J aj,Y #[J sT,v,J eT,O V]] w (E8 Q w))):
  CT 143 #[J f,J aj,Y #[J sx,aF bx kx cx,J ex,O V],Y #[J sy,aF gy ky cy,J ey,O V]] w (E8 Q w):=by
 exact aF7
def aEF(f aj sx sy ex ey sT eT:Int)(bx kx cx gy ky cy MT:Nat)(hkx:(((kx:Nat):Int)==0)=V)(hky:(((ky:Nat):Int)==0)=V)(HT:Hid (∀w',Gb w w'->CT 226 #[Y #[J sx,aF bx kx cx,J ex,O V],Y #[J sy,aF gy ky cy,J ey,O V]] w' λe bf=>∃b k c,aK 1000 bf (aF b k c) MT/\e=Z (Y #[J sT,aF b k c,J eT,O V])/\Gb w' bf))(hM:MT=0)(hs:(sx==sy)=V)(hmd:(aj==4)=E)(z:Int)(HZ:Ar f 1 z 0):
  Zy f aj sx bx kx cx ex V sy gy ky cy ey w z 0:=by
 exact WO
def aEE(f aj sx sy ex ey sT eT:Int)(bx kx cx gy ky cy MT:Nat)(hkx:(((kx:Nat):Int)==0)=V)(hky:(((ky:Nat):Int)==0)=V)(HT:Hid (∀w',Gb w w'->CT 226 #[Y #[J sx,aF bx kx cx,J ex,O V],Y #[J sy,aF gy ky cy,J ey,O V]] w' λe bf=>∃b k c,aK 1000 bf (aF b k c) MT/\e=Z (Y #[J sT,aF b k c,J eT,O V])/\Gb w' bf))(hM:MT=0)(hs:(sx==sy)=V)(hmd:(aj==4)=V)(z:Int)(HZ:KR 137 #[J f,J 0] (aU z 0)):
  Zy f aj sx bx kx cx ex V sy gy ky cy ey w z 0:=by
 exact WO
def aEC(f aj sx sy ex ey sT eT:Int)(bx kx cx gy ky cy MT:Nat)(hkx:(((kx:Nat):Int)==0)=E)(hky:(((ky:Nat):Int)==0)=V)(HT:Hid (∀w',Gb w w'->CT 226 #[Y #[J sx,aF bx kx cx,J ey,O V],Y #[J sy,aF gy ky cy,J ey,O V]] w' λe bf=>∃b k c,aK 1000 bf (aF b k c) MT/\e=Z (Y #[J sT,aF b k c,J eT,O V])/\Gb w' bf))(hM:0<MT)(Q:Int->Int->Prop)(HR:Hid (∀v w,aK 1000 w v MT->CT 138 #[J f,J aj,Y #[J sT,v,J eT,O V]] w (E8 Q w))):
  CT 143 #[J f,J aj,Y #[J sx,aF bx kx cx,J ex,O V],Y #[J sy,aF gy ky cy,J ey,O V]] w (E8 Q w):=by
 exact aF7
def aED(f aj sx sy ex ey sT eT:Int)(bx kx cx gy ky cy MT:Nat)(hkx:(((kx:Nat):Int)==0)=V)(hky:(((ky:Nat):Int)==0)=E)(HT:Hid (∀w',Gb w w'->CT 226 #[Y #[J sx,aF bx kx cx,J ex,O V],Y #[J sy,aF gy ky cy,J ex,O V]] w' λe bf=>∃b k c,aK 1000 bf (aF b k c) MT/\e=Z (Y #[J sT,aF b k c,J eT,O V])/\Gb w' bf))(hM:0<MT)(Q:Int->Int->Prop)(HR:Hid (∀v w,aK 1000 w v MT->CT 138 #[J f,J aj,Y #[J sT,v,J eT,O V]] w (E8 Q w))):
  CT 143 #[J f,J aj,Y #[J sx,aF bx kx cx,J ex,O V],Y #[J sy,aF gy ky cy,J ey,O V]] w (E8 Q w):=by
 exact aF7
def aEz(f aj sx sy ex ey sT eT:Int)(bx kx cx gy ky cy MT:Nat)(hkx:(((kx:Nat):Int)==0)=E)(hky:(((ky:Nat):Int)==0)=E)(HT:Hid (∀w',Gb w w'->CT 226 #[Y #[J sx,aF bx kx cx,J ey,O V],Y #[J sy,aF gy ky cy,J ey,O V]] w' λe bf=>∃b k c,aK 1000 bf (aF b k c) MT/\e=Z (Y #[J sT,aF b k c,J eT,O V])/\Gb w' bf))(hM:MT=0)(hs:(sx==sy)=E)(z:Int)(HZ:Ar f sx z 0):
  Zy f aj sx bx kx cx ex V sy gy ky cy ey w z 0:=by
 exact WO
def aEB(f aj sx sy ex ey sT eT:Int)(bx kx cx gy ky cy MT:Nat)(hkx:(((kx:Nat):Int)==0)=E)(hky:(((ky:Nat):Int)==0)=E)(HT:Hid (∀w',Gb w w'->CT 226 #[Y #[J sx,aF bx kx cx,J ey,O V],Y #[J sy,aF gy ky cy,J ey,O V]] w' λe bf=>∃b k c,aK 1000 bf (aF b k c) MT/\e=Z (Y #[J sT,aF b k c,J eT,O V])/\Gb w' bf))(hM:MT=0)(hs:(sx==sy)=V)(hmd:(aj==4)=E)(z:Int)(HZ:Ar f 1 z 0):
  Zy f aj sx bx kx cx ex V sy gy ky cy ey w z 0:=by
 exact WO
def aEA(f aj sx sy ex ey sT eT:Int)(bx kx cx gy ky cy MT:Nat)(hkx:(((kx:Nat):Int)==0)=E)(hky:(((ky:Nat):Int)==0)=E)(HT:Hid (∀w',Gb w w'->CT 226 #[Y #[J sx,aF bx kx cx,J ey,O V],Y #[J sy,aF gy ky cy,J ey,O V]] w' λe bf=>∃b k c,aK 1000 bf (aF b k c) MT/\e=Z (Y #[J sT,aF b k c,J eT,O V])/\Gb w' bf))(hM:MT=0)(hs:(sx==sy)=V)(hmd:(aj==4)=V)(z:Int)(HZ:KR 137 #[J f,J 0] (aU z 0)):
  Zy f aj sx bx kx cx ex V sy gy ky cy ey w z 0:=by
 exact WO
def aMP{P:Prop}(h:P:=by
 go_enter func64,ntmps64;go_wp2_with (first|(go_at_call 139;refine kw (HF _) ?_)|(go_at_call 126;first|(with_reducible refine ku (fM.out _) λw1 au=>?_;have jy:=au.bK w;have mD:=aA jy.1)|(with_reducible refine ku (gK.out _) λw2 aC=>?_;have kH:=aC.bK w;have:=aC.MS w1;have jB:=aA kH.1))|(go_at_call 140;first|(with_reducible refine ku (jV.out _) λva aT=>?_;have:=aT.bK w;have:=aT.f_ w1;have:=aT.f_ w2)|(with_reducible refine ku (mZ.out _) λvb bJ=>?_;have:=bJ.bK w;have:=bJ.f_ w1;have:=bJ.f_ w2))|(go_at_call 141;refine ku (HL _) λw9 bV=>?_;have jD:=bV.bK w))
 exact dX (by simp[results,results64,go_sem,jD])):P:=h
def aMQ{P:Prop}(h:P:=by
 go_enter func64,ntmps64;go_wp2_with (first|(go_at_call 139;refine kw (HF _) ?_)|(go_at_call 126;first|(with_reducible refine ku (fM.out _) λw1 au=>?_;have jy:=au.bK w;have mD:=aA jy.1)|(with_reducible refine ku (gK.out _) λw2 aC=>?_;have kH:=aC.bK w;have:=aC.MS w1;have jB:=aA kH.1))|(go_at_call 140;first|(with_reducible refine ku (jV.out _) λva aT=>?_;have:=aT.bK w;have:=aT.f_ w1;have:=aT.f_ w2)|(with_reducible refine ku (mZ.out _) λvb bJ=>?_;have:=bJ.bK w;have:=bJ.f_ w1;have:=bJ.f_ w2))|(go_at_call 146;refine ku (HP _) λvp eF=>?_;have:=eF.bK w;have:=eF.f_ w1;have:=eF.f_ w2)|(go_at_call 147;refine(HM _).mono ?_;rintro e wm ⟨bp,kp,qp,hbp,rfl,fZ⟩;skip;have Di:=fZ.A20 w;have aHB:=fZ.f_ w1;have aHA:=fZ.f_ w2;have mA0:=eU aHB.1;have mB0:=eU aHA.1;have hzm:=aA Di.1.1)|(go_at_call 142;refine ku (HL _) λw9 bV=>?_;have jD:=bV.bK w))
 exact dX (by simp[results,results64,go_sem,jD])):P:=h
def aF6{P:Prop}(h:P:=by
 go_enter func64,ntmps64;go_wp2_with (first|(go_at_call 139;refine kw (HF _) ?_)|(go_at_call 126;first|(with_reducible refine ku (fM.out _) λw1 au=>?_;have jy:=au.bK w;have mD:=aA jy.1)|(with_reducible refine ku (gK.out _) λw2 aC=>?_;have kH:=aC.bK w;have:=aC.MS w1;have jB:=aA kH.1))|(go_at_call 140;first|(with_reducible refine ku (jV.out _) λva aT=>?_;have:=aT.bK w;have:=aT.f_ w1;have:=aT.f_ w2))|(go_at_call 141;refine ku (HL _) λw9 bV=>?_;have jD:=bV.bK w))
 exact dX (by simp[results,results64,go_sem,jD])):P:=h
def NU(f aj a b:Int)(HF:dU f aj a b V)(z fl:Int)(HL:qJ f z fl)(w:ak):
  Gv f aj a b w z fl:=by
 go_enter func64,ntmps64;go_wp2_with (first|(go_at_call 139;refine kw (HF _) ?_)|(go_at_call 136;refine ku (HL _) λw9 bV=>?_;have jD:=bV.bK w))
 exact dX (by simp[results,results64,go_sem,jD])
def aDK(f aj a b ca sa xa ga cb sb xb gb:Int)(HF:dU f aj a b E)(fM:bW f a ca sa xa ga)(gK:bW f b cb sb xb gb)(jV:bY ca sa xa ga E)(e4:(ca==4)=E)(z fl:Int)(HL:qR f E z fl)(w:ak):
  Gv f aj a b w z fl:=by
 exact aF6
def aDJ(f aj a b ca sa xa ga cb sb xb gb:Int)(HF:dU f aj a b E)(fM:bW f a ca sa xa ga)(gK:bW f b cb sb xb gb)(jV:bY ca sa xa ga E)(e4:(ca==4)=V)(t:Bool)(e5:(cb==4)=t)(z fl:Int)(HL:qR f t z fl)(w:ak):
  Gv f aj a b w z fl:=by
 cases t
 .exact aF6
 .exact aF6
def aDI(f aj a b ca sa xa ga cb sb xb gb:Int)(HF:dU f aj a b E)(fM:bW f a ca sa xa ga)(gK:bW f b cb sb xb gb)(jV:bY ca sa xa ga V)(mZ:bY cb sb xb gb E)(e4:(ca==4)=V)(t:Bool)(e5:(cb==4)=t)(z fl:Int)(HL:qR f t z fl)(w:ak):
  Gv f aj a b w z fl:=by
 cases t
 .exact aMP
 .exact aMP
def aJV(f aj a b ca sa xa ga cb sb xb gb:Int)(HF:dU f aj a b E)(fM:bW f a ca sa xa ga)(gK:bW f b cb sb xb gb)(jV:bY ca sa xa ga V)(mZ:bY cb sb xb gb V)(HP:wS ca sa xa ga cb sb xb gb E)(z fl:Int)(HL:qJ f z fl)(w:ak):
  Gv f aj a b w z fl:=by
 go_enter func64,ntmps64;go_wp2_with (first|(go_at_call 139;refine kw (HF _) ?_)|(go_at_call 126;first|(with_reducible refine ku (fM.out _) λw1 au=>?_;have jy:=au.bK w;have mD:=aA jy.1)|(with_reducible refine ku (gK.out _) λw2 aC=>?_;have kH:=aC.bK w;have:=aC.MS w1;have jB:=aA kH.1))|(go_at_call 140;first|(with_reducible refine ku (jV.out _) λva aT=>?_;have:=aT.bK w;have:=aT.f_ w1;have:=aT.f_ w2)|(with_reducible refine ku (mZ.out _) λvb bJ=>?_;have:=bJ.bK w;have:=bJ.f_ w1;have:=bJ.f_ w2))|(go_at_call 146;refine ku (HP _) λvp eF=>?_;have:=eF.bK w;have:=eF.f_ w1;have:=eF.f_ w2)|(go_at_call 136;refine ku (HL _) λw9 bV=>?_;have jD:=bV.bK w))
 exact dX (by simp[results,results64,go_sem,jD])
def aDM(f aj a b ca sa xa ga cb sb xb gb:Int)(sp xp:Int)(Gp:Nat)(HF:dU f aj a b E)(fM:bW f a ca sa xa ga)(gK:bW f b cb sb xb gb)(jV:bY ca sa xa ga V)(mZ:bY cb sb xb gb V)(HP:wS ca sa xa ga cb sb xb gb V)(HM:Hid (∀w,CT 147 #[fG ca sa xa ga,fG cb sb xb gb] w λe w'=>∃bp kp qp,aK 4 w' (aF bp kp qp) Gp/\e=Z (Y #[J sp,aF bp kp qp,J xp,O V])/\Gb w w'))(e1:ca=2)(z fl:Int)(HL:Gu f sp z fl)(w:ak):
  Gv f aj a b w z fl:=by
 subst e1;exact aMQ
def aDL(f aj a b ca sa xa ga cb sb xb gb:Int)(sp xp:Int)(Gp:Nat)(HF:dU f aj a b E)(fM:bW f a ca sa xa ga)(gK:bW f b cb sb xb gb)(jV:bY ca sa xa ga V)(mZ:bY cb sb xb gb V)(HP:wS ca sa xa ga cb sb xb gb V)(HM:Hid (∀w,CT 147 #[fG ca sa xa ga,fG cb sb xb gb] w λe w'=>∃bp kp qp,aK 4 w' (aF bp kp qp) Gp/\e=Z (Y #[J sp,aF bp kp qp,J xp,O V])/\Gb w w'))(e1:(ca==2)=V)(e2:cb=2)(z fl:Int)(HL:Gu f sp z fl)(w:ak):
  Gv f aj a b w z fl:=by
 subst e2;exact aMQ
def aDH(f aj a b ca sa xa ga cb sb xb gb:Int)(sp xp:Int)(Gp:Nat)(HF:dU f aj a b E)(fM:bW f a ca sa xa ga)(gK:bW f b cb sb xb gb)(jV:bY ca sa xa ga V)(mZ:bY cb sb xb gb V)(HP:wS ca sa xa ga cb sb xb gb V)(HM:Hid (∀w,CT 147 #[fG ca sa xa ga,fG cb sb xb gb] w λe w'=>∃bp kp qp,aK 4 w' (aF bp kp qp) Gp/\e=Z (Y #[J sp,aF bp kp qp,J xp,O V])/\Gb w w'))(e1:(ca==2)=V)(e2:(cb==2)=V)(hG:Gp=0)(z fl:Int)(HL:Ar f sp z fl)(w:ak):
  Gv f aj a b w z fl:=by
 have HG:Hid (Gp=0):=hG;clear hG;go_enter func64,ntmps64;go_wp2_with (first|(go_at_call 139;refine kw (HF _) ?_)|(go_at_call 126;first|(with_reducible refine ku (fM.out _) λw1 au=>?_;have jy:=au.bK w;have mD:=aA jy.1)|(with_reducible refine ku (gK.out _) λw2 aC=>?_;have kH:=aC.bK w;have:=aC.MS w1;have jB:=aA kH.1))|(go_at_call 140;first|(with_reducible refine ku (jV.out _) λva aT=>?_;have:=aT.bK w;have:=aT.f_ w1;have:=aT.f_ w2)|(with_reducible refine ku (mZ.out _) λvb bJ=>?_;have:=bJ.bK w;have:=bJ.f_ w1;have:=bJ.f_ w2))|(go_at_call 146;refine ku (HP _) λvp eF=>?_;have:=eF.bK w;have:=eF.f_ w1;have:=eF.f_ w2)|(go_at_call 147;refine(HM _).mono ?_;rintro e wm ⟨bp,kp,qp,hbp,rfl,fZ⟩;obtain⟨np,hnp,Vr⟩:=hbp;obtain rfl:kp=0:=(VQ Vr HG.out);have Di:=fZ.A20 w;have aHB:=fZ.f_ w1;have aHA:=fZ.f_ w2;have mA0:=eU aHB.1;have mB0:=eU aHA.1;have hzm:=aA Di.1.1)|(go_at_call 137;refine ku (HL _) λw9 bV=>?_;have jD:=bV.bK w))
 exact dX (by simp[results,results64,go_sem,jD])
def aGO(f aj a b ca sa xa ga cb sb xb gb:Int)(sp xp:Int)(Gp:Nat)(HF:dU f aj a b E)(fM:bW f a ca sa xa ga)(gK:bW f b cb sb xb gb)(jV:bY ca sa xa ga V)(mZ:bY cb sb xb gb V)(HP:wS ca sa xa ga cb sb xb gb V)(HM:Hid (∀w,CT 147 #[fG ca sa xa ga,fG cb sb xb gb] w λe w'=>∃bp kp qp,aK 4 w' (aF bp kp qp) Gp/\e=Z (Y #[J sp,aF bp kp qp,J xp,O V])/\Gb w w'))(e1:(ca==2)=V)(e2:(cb==2)=V)(hG:0<Gp)(Q:Int->Int->Prop)(HR:Hid (∀v w,aK 4 w v Gp->CT 138 #[J f,J aj,Y #[J sp,v,J xp,O V]] w (E8 Q w)))(w:ak):
  CT 64 #[J f,J aj,.int .u64 a,.int .u64 b] w (E8 Q w):=by
 have HG:Hid (0<Gp):=hG;clear hG;go_enter func64,ntmps64;go_wp2_with (first|(go_at_call 139;refine kw (HF _) ?_)|(go_at_call 126;first|(with_reducible refine ku (fM.out _) λw1 au=>?_;have jy:=au.bK w;have mD:=aA jy.1)|(with_reducible refine ku (gK.out _) λw2 aC=>?_;have kH:=aC.bK w;have:=aC.MS w1;have jB:=aA kH.1))|(go_at_call 140;first|(with_reducible refine ku (jV.out _) λva aT=>?_;have:=aT.bK w;have:=aT.f_ w1;have:=aT.f_ w2)|(with_reducible refine ku (mZ.out _) λvb bJ=>?_;have:=bJ.bK w;have:=bJ.f_ w1;have:=bJ.f_ w2))|(go_at_call 146;refine ku (HP _) λvp eF=>?_;have:=eF.bK w;have:=eF.f_ w1;have:=eF.f_ w2)|(go_at_call 147;refine(HM _).mono ?_;rintro e wm ⟨bp,kp,qp,hbp,rfl,fZ⟩;have hk0:(((kp:Nat):Int)==0)=V:=(by have:=VR hbp;rw[this];exact gV (by have:=HG.out;omega));have Di:=fZ.A20 w;have aHB:=fZ.f_ w1;have aHA:=fZ.f_ w2;have mA0:=eU aHB.1;have mB0:=eU aHA.1;have hzm:=aA Di.1.1)|(go_at_call 138;refine(HR _ _ (aK.gb hbp Gb.g)).mono ?_;rintro e w9 ⟨z,fl,hq,rfl,bV⟩;have jD:=bV.bK w))
 refine gY (v:=aU z fl) (by simp[results,results64,go_sem,jD]) rfl ⟨z,fl,hq,rfl,?_⟩;exact Gb.g
def WM{P:Prop}(h:P:=by
 refine gY (v:=aU z fl) (by simp[results,results68,go_sem,jD]) rfl ⟨z,fl,hq,rfl,?_⟩;exact Gb.g):P:=h
def aGM(f a b ca sa xa ga cb sb xb gb:Int)(HF:dU f 0 a b E)(fM:bW f a ca sa xa ga)(gK:bW f b cb sb xb gb)(jV:bY ca sa xa ga V)(mZ:bY cb sb xb gb V)(e1:ca=1)(e2:cb=1)(A B:Nat)(e3:ga=(A:Int))(e4:gb=(B:Int))(hA:aI A)(hB:aI B)(x0:-50000<=xa)(x1:xa<=50000)(y0:-50000<=xb)(y1:xb<=50000)(s0:0<=sa)(s1:sa<=1)(e0 z1 z2:Int)(u1 u2:Nat)(he:xb<xa/\xb=e0/\IntKind.i64.wrap (xa-xb)=z1/\0=z2\/¬xb<xa/\xa=e0/\IntKind.i64.wrap (xb-xa)=z2/\0=z1)(hzz:Hid (z1=(u1:Int)/\z2=(u2:Int)))(hu:u1<=5000/\u2<=5000)(X d:Nat)(hX:X=A*2^u1)(hd:d=B*2^u2)(LZ:0<d)(Q:Int->Int->Prop)(HR:Hid (∀v w,0<rV X d->aK 1000 w v (rV X d)->CT 138 #[J f,J 0,Y #[J (if qW X d then 1-sa else sa),v,J e0,O V]] w (E8 Q w)))(HZ:Hid (∀w,rV X d=0->CT 137 #[J f,J sa] w (yG Q w)))(w:ak):
  CT 68 #[J f,.int .u64 a,.int .u64 b] w (E8 Q w):=by
 subst e1 e2 e3 e4;have hw0:IntKind.i64.wrap 0=0:=by rw[dI];omega
 have HBg:Hid (∀(H:Nat) w,aI H->CT 132 #[.int .u64 (H:Nat)] w (vO 2 (H) w)):=λH w hH=>fE (iO H hH w);have HSd:Hid (∀v w,aK 2 w v B->CT 150 #[v,J z2] w (vO 200 (d) w)):=λv w ⟨n,a1,a2⟩=>by rw[hd,hzz.out.2];exact fE ((iM a2 om u2 om).mono (λe w' ⟨v,k,c1,c2,c3,c4⟩=>⟨v,k,c1,c2,om,c4⟩))
 have HSx:Hid (∀v w,aK 2 w v A->CT 150 #[v,J z1] w (vO 200 (X) w)):=λv w ⟨n,a1,a2⟩=>by rw[hX,hzz.out.1];exact fE ((iM a2 om u1 om).mono (λe w' ⟨v,k,c1,c2,c3,c4⟩=>⟨v,k,c1,c2,om,c4⟩))
 have HD:Hid (∀v v' w,aK 200 w v X->aK 200 w v' d->CT 153 #[v,v'] w λe w'=>∃b k c b' k' c',aK 200 w' (aF b k c) (X/d)/\aK 201 w' (aF b' k' c') (X%d)/\e=Z (.tuple #[aF b k c,aF b' k' c'])/\Gb w w'):=λv v' w g1 g2=>PL om om g1 g2 LZ;have HS2:Hid (∀v w,aK 201 w v (X%d)->CT 150 #[v,J 1] w (vO 300 (X%d*2^1) w)):=λv w ⟨n,a1,a2⟩=>fE ((iM a2 om 1 om).mono (λe w' ⟨v,k,c1,c2,c3,c4⟩=>⟨v,k,c1,c2,om,c4⟩));have HSub:Hid (∀v v' w,aK 200 w v d->aK 201 w v' (X%d)->CT 155 #[v,v'] w (vO 300 (d-X%d) w)):=λv v' w ⟨n,a1,a2⟩ ⟨n',b1,b2⟩=>fE ((pJ a2 om b2 om (Nat.le_of_lt (oN _ LZ))).mono (λe w' ⟨v,k,c1,c2,c3,c4⟩=>⟨v,k,c1,c2,om,c4⟩));have Qr:Hid (∀v w,aK 200 w v (X/d)->QW 154 #[v,J 0] w (.int .u32 ((X/d%2:Nat):Int))):=λv w ⟨n,a1,a2⟩=>by
  have h:=SL a2 om 0 om;rw[wP,Nat.div_one]at h;exact h
 have HC:Hid (∀v v' w,aK 300 w v (X%d*2^1)->aK 200 w v' d->QB 133 #[v,v'] w (J (jl (X%d*2^1) d))):=λv v' w ⟨n,a1,a2⟩ ⟨n',b1,b2⟩=>kM a2 om b2 om;have hrd:X%d<d:=oN _ LZ;have Qs:jl (X%d*2^1) d=if X%d*2^1<d then-1 else if d<X%d*2^1 then 1 else 0:=rfl
 have hU:qW X d=decide (d<2*(X%d)\/d=2*(X%d)/\X/d%2=1):=rfl;have ZM:rV X d=if qW X d then d-X%d else X%d:=rfl
 have hzb:0<=z1/\z1<=5000/\0<=z2/\z2<=5000:=by have:=hzz.out;omega
 clear hX hd hzz;generalize rV X d=Mr at*
 generalize qW X d=U at*
 generalize X/d=Qn at*
 generalize X%d=Rn at*
 obtain⟨R2,hR2⟩:=x_n (Rn*2^1);rw[<-hR2]at Qs HS2 HC;have HR2:Hid (R2=Rn*2):=by show _=_;rw[hR2]
 clear hR2;generalize jl R2 d=zc at*
 rcases he with⟨hx,rfl,hs,rfl⟩|⟨hx,rfl,hs,rfl⟩
 all_goals
  go_enter func68,ntmps68;go_wp2_with (first|(go_at_call 139;refine kw (HF _) ?_)|(go_at_call 126;first|(with_reducible refine ku (fM.out _) λw1 au=>?_;have jy:=au.bK w;have mD:=aA jy.1)|(with_reducible refine ku (gK.out _) λw2 aC=>?_;have kH:=aC.bK w;have:=aC.MS w1;have jB:=aA kH.1))|(go_at_call 140;first|(with_reducible refine ku (jV.out _) λva aT=>?_;have:=aT.bK w;have:=aT.f_ w1;have:=aT.f_ w2)|(with_reducible refine ku (mZ.out _) λvb bJ=>?_;have:=bJ.bK w;have:=bJ.f_ w1;have:=bJ.f_ w2)))
  go_cut [10] (λs10 wx=>∃bd kd qd,s10=aF bd kd qd/\aK 200 wx (aF bd kd qd) d/\aSo w w1 w2 wx sa xa (A:Int) sb xb (B:Int))
  case first=>
   go_region_held3 (λw'=>lW w' w2.heap.size 2 3 (J xb) (.int .u64 (B:Int)))(exact qj)(first|(go_at_call 132;with_reducible refine(HBg.out _ _ (by assumption)).mono ?_;rintro e n1 ⟨b1,k1,q1,iF,rfl,oP⟩;have:=oP.bK w)|(go_at_call 150;with_reducible refine(HSd.out _ _ (aK.gb iF Gb.g)).mono ?_;rintro e n2 ⟨bd,kd,qd,hbd,rfl,Bz⟩;have:=Bz.bK w))
   all_goals (go_wp2;go_meet)<;>exact⟨_,_,_,rfl,by first|exact hbd|exact aK.gb hbd Gb.g,{}⟩
  case rest=>
   obtain⟨bd,kd,qd,rfl,hbd,⟨qg,XF,aKe,qr1,aKd,qa1,qa2,qa3,qb1,qb2,qb3⟩⟩:=hcut;go_wp2;go_cut [11,12] (λs11 s12 wy=>∃bn kn qn br kr qr,s11=aF bn kn qn/\s12=aF br kr qr/\aK 200 wy (aF bn kn qn) Qn/\aK 201 wy (aF br kr qr) Rn/\aK 200 wy (aF bd kd qd) d/\aSo w w1 w2 wy sa xa (A:Int) sb xb (B:Int))
   case first=>
    go_region_held3 (λw'=>lW w' w1.heap.size 2 3 (J xa) (.int .u64 (A:Int)))(exact qj)(first|(go_at_call 132;with_reducible refine(HBg.out _ _ (by assumption)).mono ?_;rintro e n1 ⟨b1,k1,q1,iF,rfl,oP⟩;have:=oP.bK w)|(go_at_call 150;with_reducible refine(HSx.out _ _ (aK.gb iF Gb.g)).mono ?_;rintro e n2 ⟨b2,k2,q2,mY,rfl,Bz⟩;have:=Bz.bK w)|(go_at_call 153;with_reducible refine(HD.out _ _ _ (aK.gb mY Gb.g) (aK.gb hbd Gb.g)).mono ?_;rintro e n3 ⟨bn,kn,qn,br,kr,qr,hbn,Iu,rfl,Bq⟩;have:=Bq.bK w))
    all_goals (go_wp2;go_meet)<;>exact⟨_,_,_,_,_,_,rfl,rfl,by first|exact hbn|exact aK.gb hbn Gb.g,by first|exact Iu|exact aK.gb Iu Gb.g,aK.gb hbd Gb.g,{}⟩
   case rest=>
    clear qg XF aKe qr1 aKd qa1 qa2 qa3 qb1 qb2 qb3;obtain⟨bn,kn,qn,br,kr,qr,rfl,rfl,hbn,Iu,aBz,⟨vg,vr0,aSz,vr1,aSy,va1,va2,va3,vb1,vb2,vb3⟩⟩:=hcut;clear hbd;have tY:=HR2.out;have aUe:Qn%2=0\/Qn%2=1:=om;rcases(om:R2<d\/R2=d\/d<R2)with c|c|c
    .obtain rfl:zc=-1:=by rw[Qs,aQ c]
     obtain rfl:U=V:=by rw[hU];exact gV om
     rw[aH (by decide)]at ZM HR;clear Qs hU;by_cases hz:Rn=0
     .obtain rfl:kr=0:=Zk Iu hz;rw[hz]at ZM;go_wp2_with (first|(go_at_call 150;with_reducible refine(HS2.out _ _ Iu).mono ?_;rintro e n4 ⟨b4,k4,q4,rE,rfl,iW⟩;have:=iW.bK w;have:=iW.e1 w1.heap.size 1 _)|(go_at_call 133;with_reducible refine ku (HC.out _ _ _ rE (aK.gb aBz iW)) λn5 kQ=>?_;have:=kQ.bK w;have:=kQ.e1 w1.heap.size 1 _)|(go_at_call 137;with_reducible refine(HZ.out _ ZM).mono ?_;rintro e w9 ⟨z,fl,hq,rfl,bV⟩;have jD:=bV.bK w))
      exact WM
     .have hk0:(((kr:Nat):Int)==0)=V:=by have:=BL Iu hz;simp;omega
      have Pz:0<Mr:=om;have hBM:Hid (∀w v,aK 201 w v Rn->aK 1000 w v Mr):=λw v g=>by rw[ZM];exact aK.le g om
      clear ZM;go_wp2_with (first|(go_at_call 150;with_reducible refine(HS2.out _ _ Iu).mono ?_;rintro e n4 ⟨b4,k4,q4,rE,rfl,iW⟩;have:=iW.bK w;have:=iW.e1 w1.heap.size 1 _)|(go_at_call 133;with_reducible refine ku (HC.out _ _ _ rE (aK.gb aBz iW)) λn5 kQ=>?_;have:=kQ.bK w;have:=kQ.e1 w1.heap.size 1 _)|(go_at_call 138;with_reducible refine(HR.out _ _ Pz (hBM.out _ _ (aK.gb (aK.gb Iu iW) kQ))).mono ?_;rintro e w9 ⟨z,fl,hq,rfl,bV⟩;have jD:=bV.bK w))
      exact WM
    .obtain rfl:zc=0:=by rw[Qs,aH om,aH (by omega)]
     have hk0:(((kr:Nat):Int)==0)=V:=by have:=BL Iu (by omega);simp;omega
     rcases aUe with hb|hb
     .rw[hb]at Qr;obtain rfl:U=V:=by rw[hU];exact gV om
      rw[aH (by decide)]at ZM HR;clear Qs hU;have Pz:0<Mr:=om;have hBM:Hid (∀w v,aK 201 w v Rn->aK 1000 w v Mr):=λw v g=>by rw[ZM];exact aK.le g om
      clear ZM;go_wp2_with (first|(go_at_call 150;with_reducible refine(HS2.out _ _ Iu).mono ?_;rintro e n4 ⟨b4,k4,q4,rE,rfl,iW⟩;have:=iW.bK w;have:=iW.e1 w1.heap.size 1 _)|(go_at_call 133;with_reducible refine ku (HC.out _ _ _ rE (aK.gb aBz iW)) λn5 kQ=>?_;have:=kQ.bK w;have:=kQ.e1 w1.heap.size 1 _)|(go_at_call 154;with_reducible refine(Qr.out _ _ (aK.gb (aK.gb hbn iW) kQ)).mono ?_;rintro e n6 ⟨rfl,hw⟩;subst hw)|(go_at_call 138;with_reducible refine(HR.out _ _ Pz (hBM.out _ _ (aK.gb (aK.gb Iu iW) kQ))).mono ?_;rintro e w9 ⟨z,fl,hq,rfl,bV⟩;have jD:=bV.bK w))
      exact WM
     .rw[hb]at Qr;obtain rfl:U=E:=by rw[hU];exact h_ om
      rw[aQ rfl]at ZM HR;clear Qs hU;have Pz:0<Mr:=om;have hBM:Hid (∀w v,aK 300 w v (d-Rn)->aK 1000 w v Mr):=λw v g=>by rw[ZM];exact aK.le g om
      clear ZM;go_wp2_with (first|(go_at_call 150;with_reducible refine(HS2.out _ _ Iu).mono ?_;rintro e n4 ⟨b4,k4,q4,rE,rfl,iW⟩;have:=iW.bK w;have:=iW.e1 w1.heap.size 1 _)|(go_at_call 133;with_reducible refine ku (HC.out _ _ _ rE (aK.gb aBz iW)) λn5 kQ=>?_;have:=kQ.bK w;have:=kQ.e1 w1.heap.size 1 _)|(go_at_call 154;with_reducible refine(Qr.out _ _ (aK.gb (aK.gb hbn iW) kQ)).mono ?_;rintro e n6 ⟨rfl,hw⟩;subst hw)|(go_at_call 155;with_reducible refine(HSub.out _ _ _ (aK.gb (aK.gb aBz iW) kQ) (aK.gb (aK.gb Iu iW) kQ)).mono ?_;rintro e n7 ⟨b7,k7,q7,hb7,rfl,YG⟩;have:=YG.bK w;have:=YG.e1 w1.heap.size 1 _;have hk7:(((k7:Nat):Int)==0)=V:=(by have:=BL hb7 (by omega);simp;omega))|(go_at_call 138;with_reducible refine(HR.out _ _ Pz (hBM.out _ _ hb7)).mono ?_;rintro e w9 ⟨z,fl,hq,rfl,bV⟩;have jD:=bV.bK w))
      exact WM
    .obtain rfl:zc=1:=by rw[Qs,aH om,aQ c]
     obtain rfl:U=E:=by rw[hU];exact h_ om
     rw[aQ rfl]at ZM HR;clear Qs hU;have Pz:0<Mr:=om;have hBM:Hid (∀w v,aK 300 w v (d-Rn)->aK 1000 w v Mr):=λw v g=>by rw[ZM];exact aK.le g om
     clear ZM;go_wp2_with (first|(go_at_call 150;with_reducible refine(HS2.out _ _ Iu).mono ?_;rintro e n4 ⟨b4,k4,q4,rE,rfl,iW⟩;have:=iW.bK w;have:=iW.e1 w1.heap.size 1 _)|(go_at_call 133;with_reducible refine ku (HC.out _ _ _ rE (aK.gb aBz iW)) λn5 kQ=>?_;have:=kQ.bK w;have:=kQ.e1 w1.heap.size 1 _)|(go_at_call 155;with_reducible refine(HSub.out _ _ _ (aK.gb (aK.gb aBz iW) kQ) (aK.gb (aK.gb Iu iW) kQ)).mono ?_;rintro e n7 ⟨b7,k7,q7,hb7,rfl,YG⟩;have:=YG.bK w;have:=YG.e1 w1.heap.size 1 _;have hk7:(((k7:Nat):Int)==0)=V:=(by have:=BL hb7 (by omega);simp;omega))|(go_at_call 138;with_reducible refine(HR.out _ _ Pz (hBM.out _ _ hb7)).mono ?_;rintro e w9 ⟨z,fl,hq,rfl,bV⟩;have jD:=bV.bK w))
     exact WM
