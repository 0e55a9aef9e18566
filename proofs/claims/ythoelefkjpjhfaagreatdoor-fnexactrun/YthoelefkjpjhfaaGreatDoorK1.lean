import Derived.Test.YthoelefkjpjhfaaGreatDoorK0
import Derived.Test.YthoelefkjpjhfaaGreatDoorM3
set_option linter.all false
set_option maxRecDepth 1000000
set_option maxHeartbeats 40000000
open Bool renaming false → V, true → E
open Go.Proofs.YthoelefkjpjhfaaGreatDoor renaming vI → J
open Go.Value renaming agg → Y, bool → O
open Go.Ending renaming returned → Z
open Go.Proofs.Tryz
namespace Go.Proofs.YthoelefkjpjhfaaGreatDoor
open Go.RowKit
variable{w:World}{b k c N n K:Nat}
def aEG{P:Prop}(h:P:=by
 have HM:Hid (0<MT):=hM;clear hM;go_enter func143,ntmps143;go_wp2_with (first|(go_at_call 226;refine(HT _ Gb.g).mono ?_;rintro e w1 ⟨b1,k1,c1,gU,rfl,ak⟩;obtain⟨n1,hn1,Tn⟩:=gU;have jB:(0<((k1:Nat):Int)):=(XF Tn HM.out);have aP5:aH 1000 w1 (.slice (some ⟨b1,0,none⟩) k1 c1) MT:=⟨n1,hn1,Tn⟩;have ax0:=ak.fG w;have ay0:=ak.Uc w;have:=ak.A22 w;have aX:=dU ax0.1;have aY:=dU ay0.1;have hA:=(λob=>aH.gb aP5 ((Gb.refl w1).alloc ob)))|(go_at_call 138;refine(HR _ _ (aH.gb aP5 Gb.g)).mono ?_;rintro e w2 ⟨z,fl,hq,rfl,aB⟩;have jT:=aB.TW w))
 refine bodyPost_ret (v:=aP z fl) (by simp[results,Tryz.results143,go_sem,jT]) rfl ⟨z,fl,hq,rfl,?_⟩;exact Gb.g):P:=h
def UM{P:Prop}(h:P:=by
 have HM:Hid (MT=0):=hM;clear hM;go_enter func143,ntmps143;go_wp2_with (first|(go_at_call 226;refine(HT _ Gb.g).mono ?_;rintro e w1 ⟨b1,k1,c1,gU,rfl,ak⟩;obtain⟨n1,hn1,Tn⟩:=gU;obtain rfl:k1=0:=(TU Tn HM.out);have ax0:=ak.fG w;have ay0:=ak.Uc w;have:=ak.A22 w;have aX:=dU ax0.1;have aY:=dU ay0.1)|(go_at_call 137;refine ku (HZ _) λw2 aB=>?_;have jT:=aB.TW w))
 exact dI (by simp[results,Tryz.results143,go_sem,jT])):P:=h
attribute [local go_sem] aA
def XF(h:Big w (aC b k c) n N)(hN:0<N):0<((k:Nat):Int):=by
 obtain⟨uG,_,b',cap,e,_⟩:=h;injection e with e1 e2 e3;have:=uG.iff;omega
def TU(h:Big w (aC b k c) n N)(hN:N=0):k=0:=by
 obtain⟨uG,_,b',cap,e,_⟩:=h;injection e with e1 e2 e3;have:=uG.iff;omega
def TV(h:aH K w (aC b k c) N):(((k:Nat):Int)==0)=decide (N=0):=by
 obtain⟨n,_,h⟩:=h;rcases Nat.eq_zero_or_pos N with c|c
 .rw[TU h c];simp[c]
 .have:=XF h c;rw[decide_eq_false (by omega)];simp;omega
def Fz(f aj sx sy ex ey sT eT:Int)(bx kx cx gy ky cy MT:Nat)(hkx:(((kx:Nat):Int)==0)=V)(hky:(((ky:Nat):Int)==0)=V)(HT:Hid (∀w',Gb w w'->CT 226 #[Y #[J sx,aC bx kx cx,J ex,O V],Y #[J sy,aC gy ky cy,J ey,O V]] w' λe aT=>∃b k c,aH 1000 aT (aC b k c) MT/\e=Z (Y #[J sT,aC b k c,J eT,O V])/\Gb w' aT))(hM:0<MT)(Q:Int->Int->Prop)(HR:Hid (∀v w,aH 1000 w v MT->CT 138 #[J f,J aj,Y #[J sT,v,J eT,O V]] w (Dy Q w))):
  CT 143 #[J f,J aj,Y #[J sx,aC bx kx cx,J ex,O V],Y #[J sy,aC gy ky cy,J ey,O V]] w (Dy Q w):=by
 exact aEG
def aDf(f aj sx sy ex ey sT eT:Int)(bx kx cx gy ky cy MT:Nat)(hkx:(((kx:Nat):Int)==0)=V)(hky:(((ky:Nat):Int)==0)=V)(HT:Hid (∀w',Gb w w'->CT 226 #[Y #[J sx,aC bx kx cx,J ex,O V],Y #[J sy,aC gy ky cy,J ey,O V]] w' λe aT=>∃b k c,aH 1000 aT (aC b k c) MT/\e=Z (Y #[J sT,aC b k c,J eT,O V])/\Gb w' aT))(hM:MT=0)(hs:(sx==sy)=V)(hmd:(aj==4)=E)(z:Int)(HZ:yG f 1 z 0):
  XW f aj sx bx kx cx ex V sy gy ky cy ey w z 0:=by
 exact UM
def aDe(f aj sx sy ex ey sT eT:Int)(bx kx cx gy ky cy MT:Nat)(hkx:(((kx:Nat):Int)==0)=V)(hky:(((ky:Nat):Int)==0)=V)(HT:Hid (∀w',Gb w w'->CT 226 #[Y #[J sx,aC bx kx cx,J ex,O V],Y #[J sy,aC gy ky cy,J ey,O V]] w' λe aT=>∃b k c,aH 1000 aT (aC b k c) MT/\e=Z (Y #[J sT,aC b k c,J eT,O V])/\Gb w' aT))(hM:MT=0)(hs:(sx==sy)=V)(hmd:(aj==4)=V)(z:Int)(HZ:KR 137 #[J f,J 0] (aP z 0)):
  XW f aj sx bx kx cx ex V sy gy ky cy ey w z 0:=by
 exact UM
def aDc(f aj sx sy ex ey sT eT:Int)(bx kx cx gy ky cy MT:Nat)(hkx:(((kx:Nat):Int)==0)=E)(hky:(((ky:Nat):Int)==0)=V)(HT:Hid (∀w',Gb w w'->CT 226 #[Y #[J sx,aC bx kx cx,J ey,O V],Y #[J sy,aC gy ky cy,J ey,O V]] w' λe aT=>∃b k c,aH 1000 aT (aC b k c) MT/\e=Z (Y #[J sT,aC b k c,J eT,O V])/\Gb w' aT))(hM:0<MT)(Q:Int->Int->Prop)(HR:Hid (∀v w,aH 1000 w v MT->CT 138 #[J f,J aj,Y #[J sT,v,J eT,O V]] w (Dy Q w))):
  CT 143 #[J f,J aj,Y #[J sx,aC bx kx cx,J ex,O V],Y #[J sy,aC gy ky cy,J ey,O V]] w (Dy Q w):=by
 exact aEG
def aDd(f aj sx sy ex ey sT eT:Int)(bx kx cx gy ky cy MT:Nat)(hkx:(((kx:Nat):Int)==0)=V)(hky:(((ky:Nat):Int)==0)=E)(HT:Hid (∀w',Gb w w'->CT 226 #[Y #[J sx,aC bx kx cx,J ex,O V],Y #[J sy,aC gy ky cy,J ex,O V]] w' λe aT=>∃b k c,aH 1000 aT (aC b k c) MT/\e=Z (Y #[J sT,aC b k c,J eT,O V])/\Gb w' aT))(hM:0<MT)(Q:Int->Int->Prop)(HR:Hid (∀v w,aH 1000 w v MT->CT 138 #[J f,J aj,Y #[J sT,v,J eT,O V]] w (Dy Q w))):
  CT 143 #[J f,J aj,Y #[J sx,aC bx kx cx,J ex,O V],Y #[J sy,aC gy ky cy,J ey,O V]] w (Dy Q w):=by
 exact aEG
def aC9(f aj sx sy ex ey sT eT:Int)(bx kx cx gy ky cy MT:Nat)(hkx:(((kx:Nat):Int)==0)=E)(hky:(((ky:Nat):Int)==0)=E)(HT:Hid (∀w',Gb w w'->CT 226 #[Y #[J sx,aC bx kx cx,J ey,O V],Y #[J sy,aC gy ky cy,J ey,O V]] w' λe aT=>∃b k c,aH 1000 aT (aC b k c) MT/\e=Z (Y #[J sT,aC b k c,J eT,O V])/\Gb w' aT))(hM:MT=0)(hs:(sx==sy)=E)(z:Int)(HZ:yG f sx z 0):
  XW f aj sx bx kx cx ex V sy gy ky cy ey w z 0:=by
 exact UM
def aDb(f aj sx sy ex ey sT eT:Int)(bx kx cx gy ky cy MT:Nat)(hkx:(((kx:Nat):Int)==0)=E)(hky:(((ky:Nat):Int)==0)=E)(HT:Hid (∀w',Gb w w'->CT 226 #[Y #[J sx,aC bx kx cx,J ey,O V],Y #[J sy,aC gy ky cy,J ey,O V]] w' λe aT=>∃b k c,aH 1000 aT (aC b k c) MT/\e=Z (Y #[J sT,aC b k c,J eT,O V])/\Gb w' aT))(hM:MT=0)(hs:(sx==sy)=V)(hmd:(aj==4)=E)(z:Int)(HZ:yG f 1 z 0):
  XW f aj sx bx kx cx ex V sy gy ky cy ey w z 0:=by
 exact UM
def aDa(f aj sx sy ex ey sT eT:Int)(bx kx cx gy ky cy MT:Nat)(hkx:(((kx:Nat):Int)==0)=E)(hky:(((ky:Nat):Int)==0)=E)(HT:Hid (∀w',Gb w w'->CT 226 #[Y #[J sx,aC bx kx cx,J ey,O V],Y #[J sy,aC gy ky cy,J ey,O V]] w' λe aT=>∃b k c,aH 1000 aT (aC b k c) MT/\e=Z (Y #[J sT,aC b k c,J eT,O V])/\Gb w' aT))(hM:MT=0)(hs:(sx==sy)=V)(hmd:(aj==4)=V)(z:Int)(HZ:KR 137 #[J f,J 0] (aP z 0)):
  XW f aj sx bx kx cx ex V sy gy ky cy ey w z 0:=by
 exact UM
def aLj{P:Prop}(h:P:=by
 go_enter func64,ntmps64;go_wp2_with (first|(go_at_call 139;refine kw (HF _) ?_)|(go_at_call 126;first|(with_reducible refine ku (eH.out _) λw1 ak=>?_;have iO:=ak.bG w;have lF:=au iO.1)|(with_reducible refine ku (fP.out _) λw2 aB=>?_;have jw:=aB.bG w;have:=aB.Ko w1;have iR:=au jw.1))|(go_at_call 140;first|(with_reducible refine ku (jk.out _) λva aO=>?_;have:=aO.bG w;have:=aO.fG w1;have:=aO.fG w2)|(with_reducible refine ku (lD.out _) λvb bC=>?_;have:=bC.bG w;have:=bC.fG w1;have:=bC.fG w2))|(go_at_call 141;refine ku (HL _) λw9 bM=>?_;have iQ:=bM.bG w))
 exact dI (by simp[results,Tryz.results64,go_sem,iQ])):P:=h
def aLk{P:Prop}(h:P:=by
 go_enter func64,ntmps64;go_wp2_with (first|(go_at_call 139;refine kw (HF _) ?_)|(go_at_call 126;first|(with_reducible refine ku (eH.out _) λw1 ak=>?_;have iO:=ak.bG w;have lF:=au iO.1)|(with_reducible refine ku (fP.out _) λw2 aB=>?_;have jw:=aB.bG w;have:=aB.Ko w1;have iR:=au jw.1))|(go_at_call 140;first|(with_reducible refine ku (jk.out _) λva aO=>?_;have:=aO.bG w;have:=aO.fG w1;have:=aO.fG w2)|(with_reducible refine ku (lD.out _) λvb bC=>?_;have:=bC.bG w;have:=bC.fG w1;have:=bC.fG w2))|(go_at_call 146;refine ku (HP _) λvp dO=>?_;have:=dO.bG w;have:=dO.fG w1;have:=dO.fG w2)|(go_at_call 147;refine(HM _).mono ?_;rintro e wm ⟨bp,kp,qp,hbp,rfl,fE⟩;skip;have AL:=fE.A20 w;have aGd:=fE.fG w1;have aGc:=fE.fG w2;have mA0:=dU aGd.1;have mB0:=dU aGc.1;have hzm:=au AL.1.1)|(go_at_call 142;refine ku (HL _) λw9 bM=>?_;have iQ:=bM.bG w))
 exact dI (by simp[results,Tryz.results64,go_sem,iQ])):P:=h
def aEF{P:Prop}(h:P:=by
 go_enter func64,ntmps64;go_wp2_with (first|(go_at_call 139;refine kw (HF _) ?_)|(go_at_call 126;first|(with_reducible refine ku (eH.out _) λw1 ak=>?_;have iO:=ak.bG w;have lF:=au iO.1)|(with_reducible refine ku (fP.out _) λw2 aB=>?_;have jw:=aB.bG w;have:=aB.Ko w1;have iR:=au jw.1))|(go_at_call 140;first|(with_reducible refine ku (jk.out _) λva aO=>?_;have:=aO.bG w;have:=aO.fG w1;have:=aO.fG w2))|(go_at_call 141;refine ku (HL _) λw9 bM=>?_;have iQ:=bM.bG w))
 exact dI (by simp[results,Tryz.results64,go_sem,iQ])):P:=h
def Lu(f aj a b:Int)(HF:dG f aj a b V)(z fl:Int)(HL:oJ f z fl)(w:World):
  ED f aj a b w z fl:=by
 go_enter func64,ntmps64;go_wp2_with (first|(go_at_call 139;refine kw (HF _) ?_)|(go_at_call 136;refine ku (HL _) λw9 bM=>?_;have iQ:=bM.bG w))
 exact dI (by simp[results,Tryz.results64,go_sem,iQ])
def aCl(f aj a b ca sa xa ga cb sb xb gb:Int)(HF:dG f aj a b E)(eH:bP f a ca sa xa ga)(fP:bP f b cb sb xb gb)(jk:bQ ca sa xa ga E)(e4:(ca==4)=E)(z fl:Int)(HL:oU f E z fl)(w:World):
  ED f aj a b w z fl:=by
 exact aEF
def aCk(f aj a b ca sa xa ga cb sb xb gb:Int)(HF:dG f aj a b E)(eH:bP f a ca sa xa ga)(fP:bP f b cb sb xb gb)(jk:bQ ca sa xa ga E)(e4:(ca==4)=V)(t:Bool)(e5:(cb==4)=t)(z fl:Int)(HL:oU f t z fl)(w:World):
  ED f aj a b w z fl:=by
 cases t
 .exact aEF
 .exact aEF
def aCj(f aj a b ca sa xa ga cb sb xb gb:Int)(HF:dG f aj a b E)(eH:bP f a ca sa xa ga)(fP:bP f b cb sb xb gb)(jk:bQ ca sa xa ga V)(lD:bQ cb sb xb gb E)(e4:(ca==4)=V)(t:Bool)(e5:(cb==4)=t)(z fl:Int)(HL:oU f t z fl)(w:World):
  ED f aj a b w z fl:=by
 cases t
 .exact aLj
 .exact aLj
def aIw(f aj a b ca sa xa ga cb sb xb gb:Int)(HF:dG f aj a b E)(eH:bP f a ca sa xa ga)(fP:bP f b cb sb xb gb)(jk:bQ ca sa xa ga V)(lD:bQ cb sb xb gb V)(HP:um ca sa xa ga cb sb xb gb E)(z fl:Int)(HL:oJ f z fl)(w:World):
  ED f aj a b w z fl:=by
 go_enter func64,ntmps64;go_wp2_with (first|(go_at_call 139;refine kw (HF _) ?_)|(go_at_call 126;first|(with_reducible refine ku (eH.out _) λw1 ak=>?_;have iO:=ak.bG w;have lF:=au iO.1)|(with_reducible refine ku (fP.out _) λw2 aB=>?_;have jw:=aB.bG w;have:=aB.Ko w1;have iR:=au jw.1))|(go_at_call 140;first|(with_reducible refine ku (jk.out _) λva aO=>?_;have:=aO.bG w;have:=aO.fG w1;have:=aO.fG w2)|(with_reducible refine ku (lD.out _) λvb bC=>?_;have:=bC.bG w;have:=bC.fG w1;have:=bC.fG w2))|(go_at_call 146;refine ku (HP _) λvp dO=>?_;have:=dO.bG w;have:=dO.fG w1;have:=dO.fG w2)|(go_at_call 136;refine ku (HL _) λw9 bM=>?_;have iQ:=bM.bG w))
 exact dI (by simp[results,Tryz.results64,go_sem,iQ])
def aCn(f aj a b ca sa xa ga cb sb xb gb:Int)(sp xp:Int)(Gp:Nat)(HF:dG f aj a b E)(eH:bP f a ca sa xa ga)(fP:bP f b cb sb xb gb)(jk:bQ ca sa xa ga V)(lD:bQ cb sb xb gb V)(HP:um ca sa xa ga cb sb xb gb V)(HM:Hid (∀w,CT 147 #[d_ ca sa xa ga,d_ cb sb xb gb] w λe w'=>∃bp kp qp,aH 4 w' (aC bp kp qp) Gp/\e=Z (Y #[J sp,aC bp kp qp,J xp,O V])/\Gb w w'))(e1:ca=2)(z fl:Int)(HL:EC f sp z fl)(w:World):
  ED f aj a b w z fl:=by
 subst e1;exact aLk
def aCm(f aj a b ca sa xa ga cb sb xb gb:Int)(sp xp:Int)(Gp:Nat)(HF:dG f aj a b E)(eH:bP f a ca sa xa ga)(fP:bP f b cb sb xb gb)(jk:bQ ca sa xa ga V)(lD:bQ cb sb xb gb V)(HP:um ca sa xa ga cb sb xb gb V)(HM:Hid (∀w,CT 147 #[d_ ca sa xa ga,d_ cb sb xb gb] w λe w'=>∃bp kp qp,aH 4 w' (aC bp kp qp) Gp/\e=Z (Y #[J sp,aC bp kp qp,J xp,O V])/\Gb w w'))(e1:(ca==2)=V)(e2:cb=2)(z fl:Int)(HL:EC f sp z fl)(w:World):
  ED f aj a b w z fl:=by
 subst e2;exact aLk
def aCi(f aj a b ca sa xa ga cb sb xb gb:Int)(sp xp:Int)(Gp:Nat)(HF:dG f aj a b E)(eH:bP f a ca sa xa ga)(fP:bP f b cb sb xb gb)(jk:bQ ca sa xa ga V)(lD:bQ cb sb xb gb V)(HP:um ca sa xa ga cb sb xb gb V)(HM:Hid (∀w,CT 147 #[d_ ca sa xa ga,d_ cb sb xb gb] w λe w'=>∃bp kp qp,aH 4 w' (aC bp kp qp) Gp/\e=Z (Y #[J sp,aC bp kp qp,J xp,O V])/\Gb w w'))(e1:(ca==2)=V)(e2:(cb==2)=V)(hG:Gp=0)(z fl:Int)(HL:yG f sp z fl)(w:World):
  ED f aj a b w z fl:=by
 have HG:Hid (Gp=0):=hG;clear hG;go_enter func64,ntmps64;go_wp2_with (first|(go_at_call 139;refine kw (HF _) ?_)|(go_at_call 126;first|(with_reducible refine ku (eH.out _) λw1 ak=>?_;have iO:=ak.bG w;have lF:=au iO.1)|(with_reducible refine ku (fP.out _) λw2 aB=>?_;have jw:=aB.bG w;have:=aB.Ko w1;have iR:=au jw.1))|(go_at_call 140;first|(with_reducible refine ku (jk.out _) λva aO=>?_;have:=aO.bG w;have:=aO.fG w1;have:=aO.fG w2)|(with_reducible refine ku (lD.out _) λvb bC=>?_;have:=bC.bG w;have:=bC.fG w1;have:=bC.fG w2))|(go_at_call 146;refine ku (HP _) λvp dO=>?_;have:=dO.bG w;have:=dO.fG w1;have:=dO.fG w2)|(go_at_call 147;refine(HM _).mono ?_;rintro e wm ⟨bp,kp,qp,hbp,rfl,fE⟩;obtain⟨np,hnp,Tn⟩:=hbp;obtain rfl:kp=0:=(TU Tn HG.out);have AL:=fE.A20 w;have aGd:=fE.fG w1;have aGc:=fE.fG w2;have mA0:=dU aGd.1;have mB0:=dU aGc.1;have hzm:=au AL.1.1)|(go_at_call 137;refine ku (HL _) λw9 bM=>?_;have iQ:=bM.bG w))
 exact dI (by simp[results,Tryz.results64,go_sem,iQ])
def aFo(f aj a b ca sa xa ga cb sb xb gb:Int)(sp xp:Int)(Gp:Nat)(HF:dG f aj a b E)(eH:bP f a ca sa xa ga)(fP:bP f b cb sb xb gb)(jk:bQ ca sa xa ga V)(lD:bQ cb sb xb gb V)(HP:um ca sa xa ga cb sb xb gb V)(HM:Hid (∀w,CT 147 #[d_ ca sa xa ga,d_ cb sb xb gb] w λe w'=>∃bp kp qp,aH 4 w' (aC bp kp qp) Gp/\e=Z (Y #[J sp,aC bp kp qp,J xp,O V])/\Gb w w'))(e1:(ca==2)=V)(e2:(cb==2)=V)(hG:0<Gp)(Q:Int->Int->Prop)(HR:Hid (∀v w,aH 4 w v Gp->CT 138 #[J f,J aj,Y #[J sp,v,J xp,O V]] w (Dy Q w)))(w:World):
  CT 64 #[J f,J aj,.int .u64 a,.int .u64 b] w (Dy Q w):=by
 have HG:Hid (0<Gp):=hG;clear hG;go_enter func64,ntmps64;go_wp2_with (first|(go_at_call 139;refine kw (HF _) ?_)|(go_at_call 126;first|(with_reducible refine ku (eH.out _) λw1 ak=>?_;have iO:=ak.bG w;have lF:=au iO.1)|(with_reducible refine ku (fP.out _) λw2 aB=>?_;have jw:=aB.bG w;have:=aB.Ko w1;have iR:=au jw.1))|(go_at_call 140;first|(with_reducible refine ku (jk.out _) λva aO=>?_;have:=aO.bG w;have:=aO.fG w1;have:=aO.fG w2)|(with_reducible refine ku (lD.out _) λvb bC=>?_;have:=bC.bG w;have:=bC.fG w1;have:=bC.fG w2))|(go_at_call 146;refine ku (HP _) λvp dO=>?_;have:=dO.bG w;have:=dO.fG w1;have:=dO.fG w2)|(go_at_call 147;refine(HM _).mono ?_;rintro e wm ⟨bp,kp,qp,hbp,rfl,fE⟩;have hk0:(((kp:Nat):Int)==0)=V:=(by have:=TV hbp;rw[this];exact decide_eq_false (by have:=HG.out;omega));have AL:=fE.A20 w;have aGd:=fE.fG w1;have aGc:=fE.fG w2;have mA0:=dU aGd.1;have mB0:=dU aGc.1;have hzm:=au AL.1.1)|(go_at_call 138;refine(HR _ _ (aH.gb hbp Gb.g)).mono ?_;rintro e w9 ⟨z,fl,hq,rfl,bM⟩;have iQ:=bM.bG w))
 refine bodyPost_ret (v:=aP z fl) (by simp[results,Tryz.results64,go_sem,iQ]) rfl ⟨z,fl,hq,rfl,?_⟩;exact Gb.g
def UL{P:Prop}(h:P:=by
 refine bodyPost_ret (v:=aP z fl) (by simp[results,Tryz.results68,go_sem,iQ]) rfl ⟨z,fl,hq,rfl,?_⟩;exact Gb.g):P:=h
def aFl(f a b ca sa xa ga cb sb xb gb:Int)(HF:dG f 0 a b E)(eH:bP f a ca sa xa ga)(fP:bP f b cb sb xb gb)(jk:bQ ca sa xa ga V)(lD:bQ cb sb xb gb V)(e1:ca=1)(e2:cb=1)(A B:Nat)(e3:ga=(A:Int))(e4:gb=(B:Int))(hA:aG A)(hB:aG B)(x0:-50000<=xa)(x1:xa<=50000)(y0:-50000<=xb)(y1:xb<=50000)(s0:0<=sa)(s1:sa<=1)(e0 z1 z2:Int)(u1 u2:Nat)(he:xb<xa/\xb=e0/\IntKind.i64.wrap (xa-xb)=z1/\0=z2\/¬xb<xa/\xa=e0/\IntKind.i64.wrap (xb-xa)=z2/\0=z1)(hzz:Hid (z1=(u1:Int)/\z2=(u2:Int)))(hu:u1<=5000/\u2<=5000)(X d:Nat)(hX:X=A*2^u1)(hd:d=B*2^u2)(JJ:0<d)(Q:Int->Int->Prop)(HR:Hid (∀v w,0<pV X d->aH 1000 w v (pV X d)->CT 138 #[J f,J 0,Y #[J (if oZ X d then 1-sa else sa),v,J e0,O V]] w (Dy Q w)))(HZ:Hid (∀w,pV X d=0->CT 137 #[J f,J sa] w (vS Q w)))(w:World):
  CT 68 #[J f,.int .u64 a,.int .u64 b] w (Dy Q w):=by
 subst e1 e2 e3 e4;have hw0:IntKind.i64.wrap 0=0:=wi;have HBg:Hid (∀(H:Nat) w,aG H->CT 132 #[.int .u64 (H:Nat)] w (sV 2 (H) w)):=λH w hH=>dY (gY H hH w);have HSd:Hid (∀v w,aH 2 w v B->CT 150 #[v,J z2] w (sV 200 (d) w)):=λv w ⟨n,a1,a2⟩=>by rw[hd,hzz.out.2];exact dY ((gX a2 om u2 om).mono (λe w' ⟨v,k,c1,c2,c3,c4⟩=>⟨v,k,c1,c2,om,c4⟩))
 have HSx:Hid (∀v w,aH 2 w v A->CT 150 #[v,J z1] w (sV 200 (X) w)):=λv w ⟨n,a1,a2⟩=>by rw[hX,hzz.out.1];exact dY ((gX a2 om u1 om).mono (λe w' ⟨v,k,c1,c2,c3,c4⟩=>⟨v,k,c1,c2,om,c4⟩))
 have HD:Hid (∀v v' w,aH 200 w v X->aH 200 w v' d->CT 153 #[v,v'] w λe w'=>∃b k c b' k' c',aH 200 w' (aC b k c) (X/d)/\aH 201 w' (aC b' k' c') (X%d)/\e=Z (.tuple #[aC b k c,aC b' k' c'])/\Gb w w'):=λv v' w g1 g2=>NQ om om g1 g2 JJ;have HS2:Hid (∀v w,aH 201 w v (X%d)->CT 150 #[v,J 1] w (sV 300 (X%d*2^1) w)):=λv w ⟨n,a1,a2⟩=>dY ((gX a2 om 1 om).mono (λe w' ⟨v,k,c1,c2,c3,c4⟩=>⟨v,k,c1,c2,om,c4⟩));have HSub:Hid (∀v v' w,aH 200 w v d->aH 201 w v' (X%d)->CT 155 #[v,v'] w (sV 300 (d-X%d) w)):=λv v' w ⟨n,a1,a2⟩ ⟨n',b1,b2⟩=>dY ((nM a2 om b2 om (Nat.le_of_lt (Nat.mod_lt _ JJ))).mono (λe w' ⟨v,k,c1,c2,c3,c4⟩=>⟨v,k,c1,c2,om,c4⟩));have Ou:Hid (∀v w,aH 200 w v (X/d)->QW 154 #[v,J 0] w (.int .u32 ((X/d%2:Nat):Int))):=λv w ⟨n,a1,a2⟩=>by
  have h:=Qk a2 om 0 om;rw[Nat.pow_zero,Nat.div_one]at h;exact h
 have HC:Hid (∀v v' w,aH 300 w v (X%d*2^1)->aH 200 w v' d->QB 133 #[v,v'] w (J (iK (X%d*2^1) d))):=λv v' w ⟨n,a1,a2⟩ ⟨n',b1,b2⟩=>jD a2 om b2 om;have hrd:X%d<d:=Nat.mod_lt _ JJ;have Ov:iK (X%d*2^1) d=if X%d*2^1<d then-1 else if d<X%d*2^1 then 1 else 0:=rfl
 have hU:oZ X d=decide (d<2*(X%d)\/d=2*(X%d)/\X/d%2=1):=rfl;have X_:pV X d=if oZ X d then d-X%d else X%d:=rfl
 have hzb:0<=z1/\z1<=5000/\0<=z2/\z2<=5000:=by have:=hzz.out;omega
 clear hX hd hzz;generalize pV X d=Mr at*
 generalize oZ X d=U at*
 generalize X/d=Qn at*
 generalize X%d=Rn at*
 obtain⟨R2,hR2⟩:=x_n (Rn*2^1);rw[<-hR2]at Ov HS2 HC;have HR2:Hid (R2=Rn*2):=by show _=_;rw[hR2]
 clear hR2;generalize iK R2 d=zc at*
 rcases he with⟨hx,rfl,hs,rfl⟩|⟨hx,rfl,hs,rfl⟩
 all_goals
  go_enter func68,ntmps68;go_wp2_with (first|(go_at_call 139;refine kw (HF _) ?_)|(go_at_call 126;first|(with_reducible refine ku (eH.out _) λw1 ak=>?_;have iO:=ak.bG w;have lF:=au iO.1)|(with_reducible refine ku (fP.out _) λw2 aB=>?_;have jw:=aB.bG w;have:=aB.Ko w1;have iR:=au jw.1))|(go_at_call 140;first|(with_reducible refine ku (jk.out _) λva aO=>?_;have:=aO.bG w;have:=aO.fG w1;have:=aO.fG w2)|(with_reducible refine ku (lD.out _) λvb bC=>?_;have:=bC.bG w;have:=bC.fG w1;have:=bC.fG w2)))
  go_cut [10] (λs10 wx=>∃bd kd qd,s10=aC bd kd qd/\aH 200 wx (aC bd kd qd) d/\aQH w w1 w2 wx sa xa (A:Int) sb xb (B:Int))
  case first=>
   go_region_held3 (λw'=>kM w' w2.heap.size 2 3 (J xb) (.int .u64 (B:Int)))(exact nX)(first|(go_at_call 132;with_reducible refine(HBg.out _ _ (by assumption)).mono ?_;rintro e n1 ⟨b1,k1,q1,gU,rfl,mZ⟩;have:=mZ.bG w)|(go_at_call 150;with_reducible refine(HSd.out _ _ (aH.gb gU Gb.g)).mono ?_;rintro e n2 ⟨bd,kd,qd,hbd,rfl,zi⟩;have:=zi.bG w))
   all_goals (go_wp2;go_meet)<;>exact⟨_,_,_,rfl,by first|exact hbd|exact aH.gb hbd Gb.g,{}⟩
  case rest=>
   obtain⟨bd,kd,qd,rfl,hbd,⟨qg,VF,aIP,qr1,aIO,qa1,qa2,qa3,qb1,qb2,qb3⟩⟩:=hcut;go_wp2;go_cut [11,12] (λs11 s12 wy=>∃bn kn qn br kr qr,s11=aC bn kn qn/\s12=aC br kr qr/\aH 200 wy (aC bn kn qn) Qn/\aH 201 wy (aC br kr qr) Rn/\aH 200 wy (aC bd kd qd) d/\aQH w w1 w2 wy sa xa (A:Int) sb xb (B:Int))
   case first=>
    go_region_held3 (λw'=>kM w' w1.heap.size 2 3 (J xa) (.int .u64 (A:Int)))(exact nX)(first|(go_at_call 132;with_reducible refine(HBg.out _ _ (by assumption)).mono ?_;rintro e n1 ⟨b1,k1,q1,gU,rfl,mZ⟩;have:=mZ.bG w)|(go_at_call 150;with_reducible refine(HSx.out _ _ (aH.gb gU Gb.g)).mono ?_;rintro e n2 ⟨b2,k2,q2,lC,rfl,zi⟩;have:=zi.bG w)|(go_at_call 153;with_reducible refine(HD.out _ _ _ (aH.gb lC Gb.g) (aH.gb hbd Gb.g)).mono ?_;rintro e n3 ⟨bn,kn,qn,br,kr,qr,hbn,FP,rfl,y9⟩;have:=y9.bG w))
    all_goals (go_wp2;go_meet)<;>exact⟨_,_,_,_,_,_,rfl,rfl,by first|exact hbn|exact aH.gb hbn Gb.g,by first|exact FP|exact aH.gb FP Gb.g,aH.gb hbd Gb.g,{}⟩
   case rest=>
    clear qg VF aIP qr1 aIO qa1 qa2 qa3 qb1 qb2 qb3;obtain⟨bn,kn,qn,br,kr,qr,rfl,rfl,hbn,FP,aAa,⟨vg,vr0,aQR,vr1,aQQ,va1,va2,va3,vb1,vb2,vb3⟩⟩:=hcut;clear hbd;have qU:=HR2.out;have aSB:Qn%2=0\/Qn%2=1:=om;rcases(om:R2<d\/R2=d\/d<R2)with c|c|c
    .obtain rfl:zc=-1:=by rw[Ov,if_pos c]
     obtain rfl:U=V:=by rw[hU];exact decide_eq_false om
     rw[if_neg (by decide)]at X_ HR;clear Ov hU;by_cases hz:Rn=0
     .obtain rfl:kr=0:=XH FP hz;rw[hz]at X_;go_wp2_with (first|(go_at_call 150;with_reducible refine(HS2.out _ _ FP).mono ?_;rintro e n4 ⟨b4,k4,q4,pz,rfl,ig⟩;have:=ig.bG w;have:=ig.e1 w1.heap.size 1 _)|(go_at_call 133;with_reducible refine ku (HC.out _ _ _ pz (aH.gb aAa ig)) λn5 jF=>?_;have:=jF.bG w;have:=jF.e1 w1.heap.size 1 _)|(go_at_call 137;with_reducible refine(HZ.out _ X_).mono ?_;rintro e w9 ⟨z,fl,hq,rfl,bM⟩;have iQ:=bM.bG w))
      exact UL
     .have hk0:(((kr:Nat):Int)==0)=V:=by have:=zG FP hz;simp;omega
      have NI:0<Mr:=om;have hBM:Hid (∀w v,aH 201 w v Rn->aH 1000 w v Mr):=λw v g=>by rw[X_];exact aH.le g om
      clear X_;go_wp2_with (first|(go_at_call 150;with_reducible refine(HS2.out _ _ FP).mono ?_;rintro e n4 ⟨b4,k4,q4,pz,rfl,ig⟩;have:=ig.bG w;have:=ig.e1 w1.heap.size 1 _)|(go_at_call 133;with_reducible refine ku (HC.out _ _ _ pz (aH.gb aAa ig)) λn5 jF=>?_;have:=jF.bG w;have:=jF.e1 w1.heap.size 1 _)|(go_at_call 138;with_reducible refine(HR.out _ _ NI (hBM.out _ _ (aH.gb (aH.gb FP ig) jF))).mono ?_;rintro e w9 ⟨z,fl,hq,rfl,bM⟩;have iQ:=bM.bG w))
      exact UL
    .obtain rfl:zc=0:=by rw[Ov,if_neg om,if_neg (by omega)]
     have hk0:(((kr:Nat):Int)==0)=V:=by have:=zG FP (by omega);simp;omega
     rcases aSB with hb|hb
     .rw[hb]at Ou;obtain rfl:U=V:=by rw[hU];exact decide_eq_false om
      rw[if_neg (by decide)]at X_ HR;clear Ov hU;have NI:0<Mr:=om;have hBM:Hid (∀w v,aH 201 w v Rn->aH 1000 w v Mr):=λw v g=>by rw[X_];exact aH.le g om
      clear X_;go_wp2_with (first|(go_at_call 150;with_reducible refine(HS2.out _ _ FP).mono ?_;rintro e n4 ⟨b4,k4,q4,pz,rfl,ig⟩;have:=ig.bG w;have:=ig.e1 w1.heap.size 1 _)|(go_at_call 133;with_reducible refine ku (HC.out _ _ _ pz (aH.gb aAa ig)) λn5 jF=>?_;have:=jF.bG w;have:=jF.e1 w1.heap.size 1 _)|(go_at_call 154;with_reducible refine(Ou.out _ _ (aH.gb (aH.gb hbn ig) jF)).mono ?_;rintro e n6 ⟨rfl,hw⟩;subst hw)|(go_at_call 138;with_reducible refine(HR.out _ _ NI (hBM.out _ _ (aH.gb (aH.gb FP ig) jF))).mono ?_;rintro e w9 ⟨z,fl,hq,rfl,bM⟩;have iQ:=bM.bG w))
      exact UL
     .rw[hb]at Ou;obtain rfl:U=E:=by rw[hU];exact decide_eq_true om
      rw[if_pos rfl]at X_ HR;clear Ov hU;have NI:0<Mr:=om;have hBM:Hid (∀w v,aH 300 w v (d-Rn)->aH 1000 w v Mr):=λw v g=>by rw[X_];exact aH.le g om
      clear X_;go_wp2_with (first|(go_at_call 150;with_reducible refine(HS2.out _ _ FP).mono ?_;rintro e n4 ⟨b4,k4,q4,pz,rfl,ig⟩;have:=ig.bG w;have:=ig.e1 w1.heap.size 1 _)|(go_at_call 133;with_reducible refine ku (HC.out _ _ _ pz (aH.gb aAa ig)) λn5 jF=>?_;have:=jF.bG w;have:=jF.e1 w1.heap.size 1 _)|(go_at_call 154;with_reducible refine(Ou.out _ _ (aH.gb (aH.gb hbn ig) jF)).mono ?_;rintro e n6 ⟨rfl,hw⟩;subst hw)|(go_at_call 155;with_reducible refine(HSub.out _ _ _ (aH.gb (aH.gb aAa ig) jF) (aH.gb (aH.gb FP ig) jF)).mono ?_;rintro e n7 ⟨b7,k7,q7,hb7,rfl,WY⟩;have:=WY.bG w;have:=WY.e1 w1.heap.size 1 _;have hk7:(((k7:Nat):Int)==0)=V:=(by have:=zG hb7 (by omega);simp;omega))|(go_at_call 138;with_reducible refine(HR.out _ _ NI (hBM.out _ _ hb7)).mono ?_;rintro e w9 ⟨z,fl,hq,rfl,bM⟩;have iQ:=bM.bG w))
      exact UL
    .obtain rfl:zc=1:=by rw[Ov,if_neg om,if_pos c]
     obtain rfl:U=E:=by rw[hU];exact decide_eq_true om
     rw[if_pos rfl]at X_ HR;clear Ov hU;have NI:0<Mr:=om;have hBM:Hid (∀w v,aH 300 w v (d-Rn)->aH 1000 w v Mr):=λw v g=>by rw[X_];exact aH.le g om
     clear X_;go_wp2_with (first|(go_at_call 150;with_reducible refine(HS2.out _ _ FP).mono ?_;rintro e n4 ⟨b4,k4,q4,pz,rfl,ig⟩;have:=ig.bG w;have:=ig.e1 w1.heap.size 1 _)|(go_at_call 133;with_reducible refine ku (HC.out _ _ _ pz (aH.gb aAa ig)) λn5 jF=>?_;have:=jF.bG w;have:=jF.e1 w1.heap.size 1 _)|(go_at_call 155;with_reducible refine(HSub.out _ _ _ (aH.gb (aH.gb aAa ig) jF) (aH.gb (aH.gb FP ig) jF)).mono ?_;rintro e n7 ⟨b7,k7,q7,hb7,rfl,WY⟩;have:=WY.bG w;have:=WY.e1 w1.heap.size 1 _;have hk7:(((k7:Nat):Int)==0)=V:=(by have:=zG hb7 (by omega);simp;omega))|(go_at_call 138;with_reducible refine(HR.out _ _ NI (hBM.out _ _ hb7)).mono ?_;rintro e w9 ⟨z,fl,hq,rfl,bM⟩;have iQ:=bM.bG w))
     exact UL
