import Derived.Test.YtmiekgjgpmfekaaGreatDoorK0
set_option linter.all false
set_option maxRecDepth 1000000
set_option maxHeartbeats 40000000
open Bool renaming false → X, true → V
open Go.Proofs.YtmiekgjgpmfekaaGreatDoor renaming vI → J
open Go.Value renaming agg → Y, bool → O
open Go.Ending renaming returned → Z
open Go.Proofs.Tryz
namespace Go.Proofs.YtmiekgjgpmfekaaGreatDoor
open Go.RowKit
variable{w:World}{b k c N n K:Nat}
theorem Xy{P:Prop}(h:P:=by
 have HM:Hid (0<MT):=hM;clear hM;go_enter func166,ntmps166;go_wp2_with (first
  |(go_at_call 204;refine(HT _ Gb.g).mono ?_;rintro e w1 ⟨b1,k1,c1,hb1,rfl,ak⟩;obtain⟨n1,hn1,hbb⟩:=hb1;have hk1:(0<((k1:Nat):Int)):=(Ob hbb HM.out);have hb1':aC 1000 w1 (.slice (some ⟨b1,0,none⟩) k1 c1) MT:=⟨n1,hn1,hbb⟩;have ax0:=ak.dX w;have ay0:=ak.Kq w;have:=ak.A22 w;have aX:=nS ax0.1;have aY:=nS ay0.1;have hA:=(fun ob=>aC.gb hb1' ((Gb.refl w1).alloc ob)))
  |(go_at_call 85;refine(HR _ _ (aC.gb hb1' Gb.g)).mono ?_;rintro e w2 ⟨z,fl,hq,rfl,aA⟩;have jk:=aA.JV w))
 refine bodyPost_ret (v:=aK z fl) (by simp[results,Tryz.results166,go_sem,jk]) rfl ⟨z,fl,hq,rfl,?_⟩;exact Gb.g):P:=h
theorem KU{P:Prop}(h:P:=by
 have HM:Hid (MT=0):=hM;clear hM;go_enter func166,ntmps166;go_wp2_with (first
  |(go_at_call 204;refine(HT _ Gb.g).mono ?_;rintro e w1 ⟨b1,k1,c1,hb1,rfl,ak⟩;obtain⟨n1,hn1,hbb⟩:=hb1;obtain rfl:k1=0:=(JQ hbb HM.out);have ax0:=ak.dX w;have ay0:=ak.Kq w;have:=ak.A22 w;have aX:=nS ax0.1;have aY:=nS ay0.1)
  |(go_at_call 84;refine ku (HZ _) fun w2 aA=>?_;have jk:=aA.JV w))
 exact dA (by simp[results,Tryz.results166,go_sem,jk])):P:=h
theorem Ob(h:Big w (aB b k c) n N)(hN:0<N):0<((k:Nat):Int):=by
 obtain⟨hnm,_,b',cap,e,_⟩:=h;injection e with e1 e2 e3;have:=hnm.iff;omega
theorem JQ(h:Big w (aB b k c) n N)(hN:N=0):k=0:=by
 obtain⟨hnm,_,b',cap,e,_⟩:=h;injection e with e1 e2 e3;have:=hnm.iff;omega
theorem JR(h:aC K w (aB b k c) N):(((k:Nat):Int)==0)=decide (N=0):=by
 obtain⟨n,_,h⟩:=h;rcases Nat.eq_zero_or_pos N with c|c
 ·rw[JQ h c];simp[c]
 ·have:=Ob h c;rw[decide_eq_false (by omega)];simp;omega
theorem Au(f mode sx sy ex ey sT eT:Int)(bx kx cx gy ky cy MT:Nat)(hkx:(((kx:Nat):Int)==0)=X)(hky:(((ky:Nat):Int)==0)=X)(HT:Hid (∀w',Gb w w'->CT 204 #[Y #[J sx,aB bx kx cx,J ex,O X],Y #[J sy,aB gy ky cy,J ey,O X]] w' fun e w''=>∃b k c,aC 1000 w'' (aB b k c) MT/\e=Z (Y #[J sT,aB b k c,J eT,O X])/\Gb w' w''))(hM:0<MT)(Q:Int->Int->Prop)(HR:Hid (∀v w,aC 1000 w v MT->CT 85 #[J f,J mode,Y #[J sT,v,J eT,O X]] w (Ey Q w))):
  CT 166 #[J f,J mode,Y #[J sx,aB bx kx cx,J ex,O X],Y #[J sy,aB gy ky cy,J ey,O X]] w (Ey Q w):=by
 exact Xy
theorem VK(f mode sx sy ex ey sT eT:Int)(bx kx cx gy ky cy MT:Nat)(hkx:(((kx:Nat):Int)==0)=X)(hky:(((ky:Nat):Int)==0)=X)(HT:Hid (∀w',Gb w w'->CT 204 #[Y #[J sx,aB bx kx cx,J ex,O X],Y #[J sy,aB gy ky cy,J ey,O X]] w' fun e w''=>∃b k c,aC 1000 w'' (aB b k c) MT/\e=Z (Y #[J sT,aB b k c,J eT,O X])/\Gb w' w''))(hM:MT=0)(hs:(sx==sy)=X)(hmd:(mode==4)=V)(z:Int)(HZ:m_ f 1 z 0):
  Oy f mode sx bx kx cx ex X sy gy ky cy ey w z 0:=by
 exact KU
theorem VJ(f mode sx sy ex ey sT eT:Int)(bx kx cx gy ky cy MT:Nat)(hkx:(((kx:Nat):Int)==0)=X)(hky:(((ky:Nat):Int)==0)=X)(HT:Hid (∀w',Gb w w'->CT 204 #[Y #[J sx,aB bx kx cx,J ex,O X],Y #[J sy,aB gy ky cy,J ey,O X]] w' fun e w''=>∃b k c,aC 1000 w'' (aB b k c) MT/\e=Z (Y #[J sT,aB b k c,J eT,O X])/\Gb w' w''))(hM:MT=0)(hs:(sx==sy)=X)(hmd:(mode==4)=X)(z:Int)(HZ:KR 84 #[J f,J 0] (aK z 0)):
  Oy f mode sx bx kx cx ex X sy gy ky cy ey w z 0:=by
 exact KU
theorem VH(f mode sx sy ex ey sT eT:Int)(bx kx cx gy ky cy MT:Nat)(hkx:(((kx:Nat):Int)==0)=V)(hky:(((ky:Nat):Int)==0)=X)(HT:Hid (∀w',Gb w w'->CT 204 #[Y #[J sx,aB bx kx cx,J ey,O X],Y #[J sy,aB gy ky cy,J ey,O X]] w' fun e w''=>∃b k c,aC 1000 w'' (aB b k c) MT/\e=Z (Y #[J sT,aB b k c,J eT,O X])/\Gb w' w''))(hM:0<MT)(Q:Int->Int->Prop)(HR:Hid (∀v w,aC 1000 w v MT->CT 85 #[J f,J mode,Y #[J sT,v,J eT,O X]] w (Ey Q w))):
  CT 166 #[J f,J mode,Y #[J sx,aB bx kx cx,J ex,O X],Y #[J sy,aB gy ky cy,J ey,O X]] w (Ey Q w):=by
 exact Xy
theorem VI(f mode sx sy ex ey sT eT:Int)(bx kx cx gy ky cy MT:Nat)(hkx:(((kx:Nat):Int)==0)=X)(hky:(((ky:Nat):Int)==0)=V)(HT:Hid (∀w',Gb w w'->CT 204 #[Y #[J sx,aB bx kx cx,J ex,O X],Y #[J sy,aB gy ky cy,J ex,O X]] w' fun e w''=>∃b k c,aC 1000 w'' (aB b k c) MT/\e=Z (Y #[J sT,aB b k c,J eT,O X])/\Gb w' w''))(hM:0<MT)(Q:Int->Int->Prop)(HR:Hid (∀v w,aC 1000 w v MT->CT 85 #[J f,J mode,Y #[J sT,v,J eT,O X]] w (Ey Q w))):
  CT 166 #[J f,J mode,Y #[J sx,aB bx kx cx,J ex,O X],Y #[J sy,aB gy ky cy,J ey,O X]] w (Ey Q w):=by
 exact Xy
theorem VE(f mode sx sy ex ey sT eT:Int)(bx kx cx gy ky cy MT:Nat)(hkx:(((kx:Nat):Int)==0)=V)(hky:(((ky:Nat):Int)==0)=V)(HT:Hid (∀w',Gb w w'->CT 204 #[Y #[J sx,aB bx kx cx,J ey,O X],Y #[J sy,aB gy ky cy,J ey,O X]] w' fun e w''=>∃b k c,aC 1000 w'' (aB b k c) MT/\e=Z (Y #[J sT,aB b k c,J eT,O X])/\Gb w' w''))(hM:MT=0)(hs:(sx==sy)=V)(z:Int)(HZ:m_ f sx z 0):
  Oy f mode sx bx kx cx ex X sy gy ky cy ey w z 0:=by
 exact KU
theorem VG(f mode sx sy ex ey sT eT:Int)(bx kx cx gy ky cy MT:Nat)(hkx:(((kx:Nat):Int)==0)=V)(hky:(((ky:Nat):Int)==0)=V)(HT:Hid (∀w',Gb w w'->CT 204 #[Y #[J sx,aB bx kx cx,J ey,O X],Y #[J sy,aB gy ky cy,J ey,O X]] w' fun e w''=>∃b k c,aC 1000 w'' (aB b k c) MT/\e=Z (Y #[J sT,aB b k c,J eT,O X])/\Gb w' w''))(hM:MT=0)(hs:(sx==sy)=X)(hmd:(mode==4)=V)(z:Int)(HZ:m_ f 1 z 0):
  Oy f mode sx bx kx cx ex X sy gy ky cy ey w z 0:=by
 exact KU
theorem VF(f mode sx sy ex ey sT eT:Int)(bx kx cx gy ky cy MT:Nat)(hkx:(((kx:Nat):Int)==0)=V)(hky:(((ky:Nat):Int)==0)=V)(HT:Hid (∀w',Gb w w'->CT 204 #[Y #[J sx,aB bx kx cx,J ey,O X],Y #[J sy,aB gy ky cy,J ey,O X]] w' fun e w''=>∃b k c,aC 1000 w'' (aB b k c) MT/\e=Z (Y #[J sT,aB b k c,J eT,O X])/\Gb w' w''))(hM:MT=0)(hs:(sx==sy)=X)(hmd:(mode==4)=X)(z:Int)(HZ:KR 84 #[J f,J 0] (aK z 0)):
  Oy f mode sx bx kx cx ex X sy gy ky cy ey w z 0:=by
 exact KU
theorem aDt{P:Prop}(h:P:=by
 go_enter func104,ntmps104;go_wp2_with (first
  |(go_at_call 94;refine kw (HF _) ?_)
  |(go_at_call 57;first|(with_reducible refine ku (gJ.out _) fun w1 ak=>?_;have gY:=ak.aZ w;have hz0:=au gY.1)|(with_reducible refine ku (iJ.out _) fun w2 aA=>?_;have jA:=aA.aZ w;have:=aA.J8 w1;have hz1:=au jA.1))
  |(go_at_call 95;first|(with_reducible refine ku (kY.out _) fun va aS=>?_;have:=aS.aZ w;have:=aS.dX w1;have:=aS.dX w2)|(with_reducible refine ku (r_.out _) fun vb bV=>?_;have:=bV.aZ w;have:=bV.dX w1;have:=bV.dX w2))
  |(go_at_call 96;refine ku (HL _) fun w9 aV=>?_;have iw:=aV.aZ w))
 exact dA (by simp[results,Tryz.results104,go_sem,iw])):P:=h
theorem aDu{P:Prop}(h:P:=by
 go_enter func104,ntmps104;go_wp2_with (first
  |(go_at_call 94;refine kw (HF _) ?_)
  |(go_at_call 57;first|(with_reducible refine ku (gJ.out _) fun w1 ak=>?_;have gY:=ak.aZ w;have hz0:=au gY.1)|(with_reducible refine ku (iJ.out _) fun w2 aA=>?_;have jA:=aA.aZ w;have:=aA.J8 w1;have hz1:=au jA.1))
  |(go_at_call 95;first|(with_reducible refine ku (kY.out _) fun va aS=>?_;have:=aS.aZ w;have:=aS.dX w1;have:=aS.dX w2)|(with_reducible refine ku (r_.out _) fun vb bV=>?_;have:=bV.aZ w;have:=bV.dX w1;have:=bV.dX w2))
  |(go_at_call 164;refine ku (HP _) fun vp kU=>?_;have:=kU.aZ w;have:=kU.dX w1;have:=kU.dX w2)
  |(go_at_call 165;refine(HM _).mono ?_;rintro e wm ⟨bp,kp,qp,hbp,rfl,kS⟩;skip;have Jl:=kS.A20 w;have Qy:=kS.dX w1;have Qx:=kS.dX w2;have mA0:=nS Qy.1;have mB0:=nS Qx.1;have hzm:=au Jl.1.1)
  |(go_at_call 97;refine ku (HL _) fun w9 aV=>?_;have iw:=aV.aZ w))
 exact dA (by simp[results,Tryz.results104,go_sem,iw])):P:=h
theorem Xx{P:Prop}(h:P:=by
 go_enter func104,ntmps104;go_wp2_with (first
  |(go_at_call 94;refine kw (HF _) ?_)
  |(go_at_call 57;first|(with_reducible refine ku (gJ.out _) fun w1 ak=>?_;have gY:=ak.aZ w;have hz0:=au gY.1)|(with_reducible refine ku (iJ.out _) fun w2 aA=>?_;have jA:=aA.aZ w;have:=aA.J8 w1;have hz1:=au jA.1))
  |(go_at_call 95;first|(with_reducible refine ku (kY.out _) fun va aS=>?_;have:=aS.aZ w;have:=aS.dX w1;have:=aS.dX w2))
  |(go_at_call 96;refine ku (HL _) fun w9 aV=>?_;have iw:=aV.aZ w))
 exact dA (by simp[results,Tryz.results104,go_sem,iw])):P:=h
theorem Eh(f mode a b:Int)(HF:fM f mode a b X)(z fl:Int)(HL:nH f z fl)(w:World):
  zT f mode a b w z fl:=by
 go_enter func104,ntmps104;go_wp2_with (first
  |(go_at_call 94;refine kw (HF _) ?_)
  |(go_at_call 83;refine ku (HL _) fun w9 aV=>?_;have iw:=aV.aZ w))
 exact dA (by simp[results,Tryz.results104,go_sem,iw])
theorem UQ(f mode a b ca sa xa ga cb sb xb gb:Int)(HF:fM f mode a b V)(gJ:bC f a ca sa xa ga)(iJ:bC f b cb sb xb gb)(kY:bF ca sa xa ga V)(e4:(ca==4)=V)(z fl:Int)(HL:oI f V z fl)(w:World):
  zT f mode a b w z fl:=by
 exact Xx
theorem UO(f mode a b ca sa xa ga cb sb xb gb:Int)(HF:fM f mode a b V)(gJ:bC f a ca sa xa ga)(iJ:bC f b cb sb xb gb)(kY:bF ca sa xa ga V)(e4:(ca==4)=X)(t:Bool)(e5:(cb==4)=t)(z fl:Int)(HL:oI f t z fl)(w:World):
  zT f mode a b w z fl:=by
 cases t
 ·exact Xx
 ·exact Xx
theorem UN(f mode a b ca sa xa ga cb sb xb gb:Int)(HF:fM f mode a b V)(gJ:bC f a ca sa xa ga)(iJ:bC f b cb sb xb gb)(kY:bF ca sa xa ga X)(r_:bF cb sb xb gb V)(e4:(ca==4)=X)(t:Bool)(e5:(cb==4)=t)(z fl:Int)(HL:oI f t z fl)(w:World):
  zT f mode a b w z fl:=by
 cases t
 ·exact aDt
 ·exact aDt
theorem aBe(f mode a b ca sa xa ga cb sb xb gb:Int)(HF:fM f mode a b V)(gJ:bC f a ca sa xa ga)(iJ:bC f b cb sb xb gb)(kY:bF ca sa xa ga X)(r_:bF cb sb xb gb X)(HP:RP ca sa xa ga cb sb xb gb V)(z fl:Int)(HL:nH f z fl)(w:World):
  zT f mode a b w z fl:=by
 go_enter func104,ntmps104;go_wp2_with (first
  |(go_at_call 94;refine kw (HF _) ?_)
  |(go_at_call 57;first|(with_reducible refine ku (gJ.out _) fun w1 ak=>?_;have gY:=ak.aZ w;have hz0:=au gY.1)|(with_reducible refine ku (iJ.out _) fun w2 aA=>?_;have jA:=aA.aZ w;have:=aA.J8 w1;have hz1:=au jA.1))
  |(go_at_call 95;first|(with_reducible refine ku (kY.out _) fun va aS=>?_;have:=aS.aZ w;have:=aS.dX w1;have:=aS.dX w2)|(with_reducible refine ku (r_.out _) fun vb bV=>?_;have:=bV.aZ w;have:=bV.dX w1;have:=bV.dX w2))
  |(go_at_call 164;refine ku (HP _) fun vp kU=>?_;have:=kU.aZ w;have:=kU.dX w1;have:=kU.dX w2)
  |(go_at_call 83;refine ku (HL _) fun w9 aV=>?_;have iw:=aV.aZ w))
 exact dA (by simp[results,Tryz.results104,go_sem,iw])
theorem UU(f mode a b ca sa xa ga cb sb xb gb:Int)(sp xp:Int)(Gp:Nat)(HF:fM f mode a b V)(gJ:bC f a ca sa xa ga)(iJ:bC f b cb sb xb gb)(kY:bF ca sa xa ga X)(r_:bF cb sb xb gb X)(HP:RP ca sa xa ga cb sb xb gb X)(HM:Hid (∀w,CT 165 #[eH ca sa xa ga,eH cb sb xb gb] w fun e w'=>∃bp kp qp,aC 4 w' (aB bp kp qp) Gp/\e=Z (Y #[J sp,aB bp kp qp,J xp,O X])/\Gb w w'))(e1:ca=2)(z fl:Int)(HL:Ci f sp z fl)(w:World):
  zT f mode a b w z fl:=by
 subst e1;exact aDu
theorem UR(f mode a b ca sa xa ga cb sb xb gb:Int)(sp xp:Int)(Gp:Nat)(HF:fM f mode a b V)(gJ:bC f a ca sa xa ga)(iJ:bC f b cb sb xb gb)(kY:bF ca sa xa ga X)(r_:bF cb sb xb gb X)(HP:RP ca sa xa ga cb sb xb gb X)(HM:Hid (∀w,CT 165 #[eH ca sa xa ga,eH cb sb xb gb] w fun e w'=>∃bp kp qp,aC 4 w' (aB bp kp qp) Gp/\e=Z (Y #[J sp,aB bp kp qp,J xp,O X])/\Gb w w'))(e1:(ca==2)=X)(e2:cb=2)(z fl:Int)(HL:Ci f sp z fl)(w:World):
  zT f mode a b w z fl:=by
 subst e2;exact aDu
theorem UL(f mode a b ca sa xa ga cb sb xb gb:Int)(sp xp:Int)(Gp:Nat)(HF:fM f mode a b V)(gJ:bC f a ca sa xa ga)(iJ:bC f b cb sb xb gb)(kY:bF ca sa xa ga X)(r_:bF cb sb xb gb X)(HP:RP ca sa xa ga cb sb xb gb X)(HM:Hid (∀w,CT 165 #[eH ca sa xa ga,eH cb sb xb gb] w fun e w'=>∃bp kp qp,aC 4 w' (aB bp kp qp) Gp/\e=Z (Y #[J sp,aB bp kp qp,J xp,O X])/\Gb w w'))(e1:(ca==2)=X)(e2:(cb==2)=X)(hG:Gp=0)(z fl:Int)(HL:m_ f sp z fl)(w:World):
  zT f mode a b w z fl:=by
 have HG:Hid (Gp=0):=hG;clear hG;go_enter func104,ntmps104;go_wp2_with (first
  |(go_at_call 94;refine kw (HF _) ?_)
  |(go_at_call 57;first|(with_reducible refine ku (gJ.out _) fun w1 ak=>?_;have gY:=ak.aZ w;have hz0:=au gY.1)|(with_reducible refine ku (iJ.out _) fun w2 aA=>?_;have jA:=aA.aZ w;have:=aA.J8 w1;have hz1:=au jA.1))
  |(go_at_call 95;first|(with_reducible refine ku (kY.out _) fun va aS=>?_;have:=aS.aZ w;have:=aS.dX w1;have:=aS.dX w2)|(with_reducible refine ku (r_.out _) fun vb bV=>?_;have:=bV.aZ w;have:=bV.dX w1;have:=bV.dX w2))
  |(go_at_call 164;refine ku (HP _) fun vp kU=>?_;have:=kU.aZ w;have:=kU.dX w1;have:=kU.dX w2)
  |(go_at_call 165;refine(HM _).mono ?_;rintro e wm ⟨bp,kp,qp,hbp,rfl,kS⟩;obtain⟨np,hnp,hbb⟩:=hbp;obtain rfl:kp=0:=(JQ hbb HG.out);have Jl:=kS.A20 w;have Qy:=kS.dX w1;have Qx:=kS.dX w2;have mA0:=nS Qy.1;have mB0:=nS Qx.1;have hzm:=au Jl.1.1)
  |(go_at_call 84;refine ku (HL _) fun w9 aV=>?_;have iw:=aV.aZ w))
 exact dA (by simp[results,Tryz.results104,go_sem,iw])
theorem Yg(f mode a b ca sa xa ga cb sb xb gb:Int)(sp xp:Int)(Gp:Nat)(HF:fM f mode a b V)(gJ:bC f a ca sa xa ga)(iJ:bC f b cb sb xb gb)(kY:bF ca sa xa ga X)(r_:bF cb sb xb gb X)(HP:RP ca sa xa ga cb sb xb gb X)(HM:Hid (∀w,CT 165 #[eH ca sa xa ga,eH cb sb xb gb] w fun e w'=>∃bp kp qp,aC 4 w' (aB bp kp qp) Gp/\e=Z (Y #[J sp,aB bp kp qp,J xp,O X])/\Gb w w'))(e1:(ca==2)=X)(e2:(cb==2)=X)(hG:0<Gp)(Q:Int->Int->Prop)(HR:Hid (∀v w,aC 4 w v Gp->CT 85 #[J f,J mode,Y #[J sp,v,J xp,O X]] w (Ey Q w)))(w:World):
  CT 104 #[J f,J mode,.int .u64 a,.int .u64 b] w (Ey Q w):=by
 have HG:Hid (0<Gp):=hG;clear hG;go_enter func104,ntmps104;go_wp2_with (first
  |(go_at_call 94;refine kw (HF _) ?_)
  |(go_at_call 57;first|(with_reducible refine ku (gJ.out _) fun w1 ak=>?_;have gY:=ak.aZ w;have hz0:=au gY.1)|(with_reducible refine ku (iJ.out _) fun w2 aA=>?_;have jA:=aA.aZ w;have:=aA.J8 w1;have hz1:=au jA.1))
  |(go_at_call 95;first|(with_reducible refine ku (kY.out _) fun va aS=>?_;have:=aS.aZ w;have:=aS.dX w1;have:=aS.dX w2)|(with_reducible refine ku (r_.out _) fun vb bV=>?_;have:=bV.aZ w;have:=bV.dX w1;have:=bV.dX w2))
  |(go_at_call 164;refine ku (HP _) fun vp kU=>?_;have:=kU.aZ w;have:=kU.dX w1;have:=kU.dX w2)
  |(go_at_call 165;refine(HM _).mono ?_;rintro e wm ⟨bp,kp,qp,hbp,rfl,kS⟩;have hk0:(((kp:Nat):Int)==0)=X:=(by have:=JR hbp;rw[this];exact decide_eq_false (by have:=HG.out;omega));have Jl:=kS.A20 w;have Qy:=kS.dX w1;have Qx:=kS.dX w2;have mA0:=nS Qy.1;have mB0:=nS Qx.1;have hzm:=au Jl.1.1)
  |(go_at_call 85;refine(HR _ _ (aC.gb hbp Gb.g)).mono ?_;rintro e w9 ⟨z,fl,hq,rfl,aV⟩;have iw:=aV.aZ w))
 refine bodyPost_ret (v:=aK z fl) (by simp[results,Tryz.results104,go_sem,iw]) rfl ⟨z,fl,hq,rfl,?_⟩;exact Gb.g
