import Derived.Test.YtmiekgjgpmfekaaGreatDoorK0
set_option linter.all false
set_option maxRecDepth 1000000
set_option maxHeartbeats 40000000
open Bool renaming false → X, true → V
open Go.Proofs.YtmiekgjgpmfekaaGreatDoor renaming vI → J
open Go.Value renaming agg → Y, bool → O
open Go.Ending renaming returned → Z
open Go.Proofs.Tryz
namespace Go.Proofs.YtmiekgjgpmfekaaGreatDoor
open Go.RowKit
variable{w:World}{b k c N n K:Nat}
theorem Yl{P:Prop}(h:P:=by
 have HM:Hid (0<MT):=hM;clear hM;go_enter func166,ntmps166;go_wp2_with (first
  |(go_at_call 204;refine(HT _ Gb.g).mono ?_;rintro e w1 ⟨b1,k1,c1,hb1,rfl,ak⟩;obtain⟨n1,hn1,hbb⟩:=hb1;have hk1:(0<((k1:Nat):Int)):=(OW hbb HM.out);have hb1':aF 1000 w1 (.slice (some ⟨b1,0,none⟩) k1 c1) MT:=⟨n1,hn1,hbb⟩;have ax0:=ak.dX w;have ay0:=ak.La w;have:=ak.A22 w;have aX:=oD ax0.1;have aY:=oD ay0.1;have hA:=(fun ob=>aF.gb hb1' ((Gb.refl w1).alloc ob)))
  |(go_at_call 85;refine(HR _ _ (aF.gb hb1' Gb.g)).mono ?_;rintro e w2 ⟨z,fl,hq,rfl,aA⟩;have jy:=aA.KI w))
 refine bodyPost_ret (v:=aK z fl) (by simp[results,Tryz.results166,go_sem,jy]) rfl ⟨z,fl,hq,rfl,?_⟩;exact Gb.g):P:=h
theorem LW{P:Prop}(h:P:=by
 have HM:Hid (MT=0):=hM;clear hM;go_enter func166,ntmps166;go_wp2_with (first
  |(go_at_call 204;refine(HT _ Gb.g).mono ?_;rintro e w1 ⟨b1,k1,c1,hb1,rfl,ak⟩;obtain⟨n1,hn1,hbb⟩:=hb1;obtain rfl:k1=0:=(KF hbb HM.out);have ax0:=ak.dX w;have ay0:=ak.La w;have:=ak.A22 w;have aX:=oD ax0.1;have aY:=oD ay0.1)
  |(go_at_call 84;refine ku (HZ _) fun w2 aA=>?_;have jy:=aA.KI w))
 exact dB (by simp[results,Tryz.results166,go_sem,jy])):P:=h
theorem OW(h:Big w (aB b k c) n N)(hN:0<N):0<((k:Nat):Int):=by
 obtain⟨hnm,_,b',cap,e,_⟩:=h;injection e with e1 e2 e3;have:=hnm.iff;omega
theorem KF(h:Big w (aB b k c) n N)(hN:N=0):k=0:=by
 obtain⟨hnm,_,b',cap,e,_⟩:=h;injection e with e1 e2 e3;have:=hnm.iff;omega
theorem KG(h:aF K w (aB b k c) N):(((k:Nat):Int)==0)=decide (N=0):=by
 obtain⟨n,_,h⟩:=h;rcases Nat.eq_zero_or_pos N with c|c
 ·rw[KF h c];simp[c]
 ·have:=OW h c;rw[decide_eq_false (by omega)];simp;omega
theorem Bq(f mode sx sy ex ey sT eT:Int)(bx kx cx gy ky cy MT:Nat)(hkx:(((kx:Nat):Int)==0)=X)(hky:(((ky:Nat):Int)==0)=X)(HT:Hid (∀w',Gb w w'->CT 204 #[Y #[J sx,aB bx kx cx,J ex,O X],Y #[J sy,aB gy ky cy,J ey,O X]] w' fun e w''=>∃b k c,aF 1000 w'' (aB b k c) MT/\e=Z (Y #[J sT,aB b k c,J eT,O X])/\Gb w' w''))(hM:0<MT)(Q:Int->Int->Prop)(HR:Hid (∀v w,aF 1000 w v MT->CT 85 #[J f,J mode,Y #[J sT,v,J eT,O X]] w (EX Q w))):
  CT 166 #[J f,J mode,Y #[J sx,aB bx kx cx,J ex,O X],Y #[J sy,aB gy ky cy,J ey,O X]] w (EX Q w):=by
 exact Yl
theorem WM(f mode sx sy ex ey sT eT:Int)(bx kx cx gy ky cy MT:Nat)(hkx:(((kx:Nat):Int)==0)=X)(hky:(((ky:Nat):Int)==0)=X)(HT:Hid (∀w',Gb w w'->CT 204 #[Y #[J sx,aB bx kx cx,J ex,O X],Y #[J sy,aB gy ky cy,J ey,O X]] w' fun e w''=>∃b k c,aF 1000 w'' (aB b k c) MT/\e=Z (Y #[J sT,aB b k c,J eT,O X])/\Gb w' w''))(hM:MT=0)(hs:(sx==sy)=X)(hmd:(mode==4)=V)(z:Int)(HZ:nR f 1 z 0):
  Pv f mode sx bx kx cx ex X sy gy ky cy ey w z 0:=by
 exact LW
theorem WL(f mode sx sy ex ey sT eT:Int)(bx kx cx gy ky cy MT:Nat)(hkx:(((kx:Nat):Int)==0)=X)(hky:(((ky:Nat):Int)==0)=X)(HT:Hid (∀w',Gb w w'->CT 204 #[Y #[J sx,aB bx kx cx,J ex,O X],Y #[J sy,aB gy ky cy,J ey,O X]] w' fun e w''=>∃b k c,aF 1000 w'' (aB b k c) MT/\e=Z (Y #[J sT,aB b k c,J eT,O X])/\Gb w' w''))(hM:MT=0)(hs:(sx==sy)=X)(hmd:(mode==4)=X)(z:Int)(HZ:KR 84 #[J f,J 0] (aK z 0)):
  Pv f mode sx bx kx cx ex X sy gy ky cy ey w z 0:=by
 exact LW
theorem WI(f mode sx sy ex ey sT eT:Int)(bx kx cx gy ky cy MT:Nat)(hkx:(((kx:Nat):Int)==0)=V)(hky:(((ky:Nat):Int)==0)=X)(HT:Hid (∀w',Gb w w'->CT 204 #[Y #[J sx,aB bx kx cx,J ey,O X],Y #[J sy,aB gy ky cy,J ey,O X]] w' fun e w''=>∃b k c,aF 1000 w'' (aB b k c) MT/\e=Z (Y #[J sT,aB b k c,J eT,O X])/\Gb w' w''))(hM:0<MT)(Q:Int->Int->Prop)(HR:Hid (∀v w,aF 1000 w v MT->CT 85 #[J f,J mode,Y #[J sT,v,J eT,O X]] w (EX Q w))):
  CT 166 #[J f,J mode,Y #[J sx,aB bx kx cx,J ex,O X],Y #[J sy,aB gy ky cy,J ey,O X]] w (EX Q w):=by
 exact Yl
theorem WJ(f mode sx sy ex ey sT eT:Int)(bx kx cx gy ky cy MT:Nat)(hkx:(((kx:Nat):Int)==0)=X)(hky:(((ky:Nat):Int)==0)=V)(HT:Hid (∀w',Gb w w'->CT 204 #[Y #[J sx,aB bx kx cx,J ex,O X],Y #[J sy,aB gy ky cy,J ex,O X]] w' fun e w''=>∃b k c,aF 1000 w'' (aB b k c) MT/\e=Z (Y #[J sT,aB b k c,J eT,O X])/\Gb w' w''))(hM:0<MT)(Q:Int->Int->Prop)(HR:Hid (∀v w,aF 1000 w v MT->CT 85 #[J f,J mode,Y #[J sT,v,J eT,O X]] w (EX Q w))):
  CT 166 #[J f,J mode,Y #[J sx,aB bx kx cx,J ex,O X],Y #[J sy,aB gy ky cy,J ey,O X]] w (EX Q w):=by
 exact Yl
theorem WE(f mode sx sy ex ey sT eT:Int)(bx kx cx gy ky cy MT:Nat)(hkx:(((kx:Nat):Int)==0)=V)(hky:(((ky:Nat):Int)==0)=V)(HT:Hid (∀w',Gb w w'->CT 204 #[Y #[J sx,aB bx kx cx,J ey,O X],Y #[J sy,aB gy ky cy,J ey,O X]] w' fun e w''=>∃b k c,aF 1000 w'' (aB b k c) MT/\e=Z (Y #[J sT,aB b k c,J eT,O X])/\Gb w' w''))(hM:MT=0)(hs:(sx==sy)=V)(z:Int)(HZ:nR f sx z 0):
  Pv f mode sx bx kx cx ex X sy gy ky cy ey w z 0:=by
 exact LW
theorem WH(f mode sx sy ex ey sT eT:Int)(bx kx cx gy ky cy MT:Nat)(hkx:(((kx:Nat):Int)==0)=V)(hky:(((ky:Nat):Int)==0)=V)(HT:Hid (∀w',Gb w w'->CT 204 #[Y #[J sx,aB bx kx cx,J ey,O X],Y #[J sy,aB gy ky cy,J ey,O X]] w' fun e w''=>∃b k c,aF 1000 w'' (aB b k c) MT/\e=Z (Y #[J sT,aB b k c,J eT,O X])/\Gb w' w''))(hM:MT=0)(hs:(sx==sy)=X)(hmd:(mode==4)=V)(z:Int)(HZ:nR f 1 z 0):
  Pv f mode sx bx kx cx ex X sy gy ky cy ey w z 0:=by
 exact LW
theorem WG(f mode sx sy ex ey sT eT:Int)(bx kx cx gy ky cy MT:Nat)(hkx:(((kx:Nat):Int)==0)=V)(hky:(((ky:Nat):Int)==0)=V)(HT:Hid (∀w',Gb w w'->CT 204 #[Y #[J sx,aB bx kx cx,J ey,O X],Y #[J sy,aB gy ky cy,J ey,O X]] w' fun e w''=>∃b k c,aF 1000 w'' (aB b k c) MT/\e=Z (Y #[J sT,aB b k c,J eT,O X])/\Gb w' w''))(hM:MT=0)(hs:(sx==sy)=X)(hmd:(mode==4)=X)(z:Int)(HZ:KR 84 #[J f,J 0] (aK z 0)):
  Pv f mode sx bx kx cx ex X sy gy ky cy ey w z 0:=by
 exact LW
theorem aEn{P:Prop}(h:P:=by
 go_enter func104,ntmps104;go_wp2_with (first
  |(go_at_call 94;refine kw (HF _) ?_)
  |(go_at_call 57;first|(with_reducible refine ku (gU.out _) fun w1 ak=>?_;have ig:=ak.aW w;have hz0:=au ig.1)|(with_reducible refine ku (iQ.out _) fun w2 aA=>?_;have jE:=aA.aW w;have:=aA.I9 w1;have hz1:=au jE.1))
  |(go_at_call 95;first|(with_reducible refine ku (lN.out _) fun va aT=>?_;have:=aT.aW w;have:=aT.dX w1;have:=aT.dX w2)|(with_reducible refine ku (tJ.out _) fun vb bZ=>?_;have:=bZ.aW w;have:=bZ.dX w1;have:=bZ.dX w2))
  |(go_at_call 96;refine ku (HL _) fun w9 aU=>?_;have h_:=aU.aW w))
 exact dB (by simp[results,Tryz.results104,go_sem,h_])):P:=h
theorem aEo{P:Prop}(h:P:=by
 go_enter func104,ntmps104;go_wp2_with (first
  |(go_at_call 94;refine kw (HF _) ?_)
  |(go_at_call 57;first|(with_reducible refine ku (gU.out _) fun w1 ak=>?_;have ig:=ak.aW w;have hz0:=au ig.1)|(with_reducible refine ku (iQ.out _) fun w2 aA=>?_;have jE:=aA.aW w;have:=aA.I9 w1;have hz1:=au jE.1))
  |(go_at_call 95;first|(with_reducible refine ku (lN.out _) fun va aT=>?_;have:=aT.aW w;have:=aT.dX w1;have:=aT.dX w2)|(with_reducible refine ku (tJ.out _) fun vb bZ=>?_;have:=bZ.aW w;have:=bZ.dX w1;have:=bZ.dX w2))
  |(go_at_call 164;refine ku (HP _) fun vp lH=>?_;have:=lH.aW w;have:=lH.dX w1;have:=lH.dX w2)
  |(go_at_call 165;refine(HM _).mono ?_;rintro e wm ⟨bp,kp,qp,hbp,rfl,lF⟩;skip;have JM:=lF.A20 w;have Ro:=lF.dX w1;have Rn:=lF.dX w2;have mA0:=oD Ro.1;have mB0:=oD Rn.1;have hzm:=au JM.1.1)
  |(go_at_call 97;refine ku (HL _) fun w9 aU=>?_;have h_:=aU.aW w))
 exact dB (by simp[results,Tryz.results104,go_sem,h_])):P:=h
theorem Yk{P:Prop}(h:P:=by
 go_enter func104,ntmps104;go_wp2_with (first
  |(go_at_call 94;refine kw (HF _) ?_)
  |(go_at_call 57;first|(with_reducible refine ku (gU.out _) fun w1 ak=>?_;have ig:=ak.aW w;have hz0:=au ig.1)|(with_reducible refine ku (iQ.out _) fun w2 aA=>?_;have jE:=aA.aW w;have:=aA.I9 w1;have hz1:=au jE.1))
  |(go_at_call 95;first|(with_reducible refine ku (lN.out _) fun va aT=>?_;have:=aT.aW w;have:=aT.dX w1;have:=aT.dX w2))
  |(go_at_call 96;refine ku (HL _) fun w9 aU=>?_;have h_:=aU.aW w))
 exact dB (by simp[results,Tryz.results104,go_sem,h_])):P:=h
theorem EJ(f mode a b:Int)(HF:fO f mode a b X)(z fl:Int)(HL:nY f z fl)(w:World):
  AA f mode a b w z fl:=by
 go_enter func104,ntmps104;go_wp2_with (first
  |(go_at_call 94;refine kw (HF _) ?_)
  |(go_at_call 83;refine ku (HL _) fun w9 aU=>?_;have h_:=aU.aW w))
 exact dB (by simp[results,Tryz.results104,go_sem,h_])
theorem VE(f mode a b ca sa xa ga cb sb xb gb:Int)(HF:fO f mode a b V)(gU:bD f a ca sa xa ga)(iQ:bD f b cb sb xb gb)(lN:bI ca sa xa ga V)(e4:(ca==4)=V)(z fl:Int)(HL:o9 f V z fl)(w:World):
  AA f mode a b w z fl:=by
 exact Yk
theorem VD(f mode a b ca sa xa ga cb sb xb gb:Int)(HF:fO f mode a b V)(gU:bD f a ca sa xa ga)(iQ:bD f b cb sb xb gb)(lN:bI ca sa xa ga V)(e4:(ca==4)=X)(t:Bool)(e5:(cb==4)=t)(z fl:Int)(HL:o9 f t z fl)(w:World):
  AA f mode a b w z fl:=by
 cases t
 ·exact Yk
 ·exact Yk
theorem VB(f mode a b ca sa xa ga cb sb xb gb:Int)(HF:fO f mode a b V)(gU:bD f a ca sa xa ga)(iQ:bD f b cb sb xb gb)(lN:bI ca sa xa ga X)(tJ:bI cb sb xb gb V)(e4:(ca==4)=X)(t:Bool)(e5:(cb==4)=t)(z fl:Int)(HL:o9 f t z fl)(w:World):
  AA f mode a b w z fl:=by
 cases t
 ·exact aEn
 ·exact aEn
theorem aBZ(f mode a b ca sa xa ga cb sb xb gb:Int)(HF:fO f mode a b V)(gU:bD f a ca sa xa ga)(iQ:bD f b cb sb xb gb)(lN:bI ca sa xa ga X)(tJ:bI cb sb xb gb X)(HP:Tf ca sa xa ga cb sb xb gb V)(z fl:Int)(HL:nY f z fl)(w:World):
  AA f mode a b w z fl:=by
 go_enter func104,ntmps104;go_wp2_with (first
  |(go_at_call 94;refine kw (HF _) ?_)
  |(go_at_call 57;first|(with_reducible refine ku (gU.out _) fun w1 ak=>?_;have ig:=ak.aW w;have hz0:=au ig.1)|(with_reducible refine ku (iQ.out _) fun w2 aA=>?_;have jE:=aA.aW w;have:=aA.I9 w1;have hz1:=au jE.1))
  |(go_at_call 95;first|(with_reducible refine ku (lN.out _) fun va aT=>?_;have:=aT.aW w;have:=aT.dX w1;have:=aT.dX w2)|(with_reducible refine ku (tJ.out _) fun vb bZ=>?_;have:=bZ.aW w;have:=bZ.dX w1;have:=bZ.dX w2))
  |(go_at_call 164;refine ku (HP _) fun vp lH=>?_;have:=lH.aW w;have:=lH.dX w1;have:=lH.dX w2)
  |(go_at_call 83;refine ku (HL _) fun w9 aU=>?_;have h_:=aU.aW w))
 exact dB (by simp[results,Tryz.results104,go_sem,h_])
theorem VG(f mode a b ca sa xa ga cb sb xb gb:Int)(sp xp:Int)(Gp:Nat)(HF:fO f mode a b V)(gU:bD f a ca sa xa ga)(iQ:bD f b cb sb xb gb)(lN:bI ca sa xa ga X)(tJ:bI cb sb xb gb X)(HP:Tf ca sa xa ga cb sb xb gb X)(HM:Hid (∀w,CT 165 #[eX ca sa xa ga,eX cb sb xb gb] w fun e w'=>∃bp kp qp,aF 4 w' (aB bp kp qp) Gp/\e=Z (Y #[J sp,aB bp kp qp,J xp,O X])/\Gb w w'))(e1:ca=2)(z fl:Int)(HL:Dh f sp z fl)(w:World):
  AA f mode a b w z fl:=by
 subst e1;exact aEo
theorem VF(f mode a b ca sa xa ga cb sb xb gb:Int)(sp xp:Int)(Gp:Nat)(HF:fO f mode a b V)(gU:bD f a ca sa xa ga)(iQ:bD f b cb sb xb gb)(lN:bI ca sa xa ga X)(tJ:bI cb sb xb gb X)(HP:Tf ca sa xa ga cb sb xb gb X)(HM:Hid (∀w,CT 165 #[eX ca sa xa ga,eX cb sb xb gb] w fun e w'=>∃bp kp qp,aF 4 w' (aB bp kp qp) Gp/\e=Z (Y #[J sp,aB bp kp qp,J xp,O X])/\Gb w w'))(e1:(ca==2)=X)(e2:cb=2)(z fl:Int)(HL:Dh f sp z fl)(w:World):
  AA f mode a b w z fl:=by
 subst e2;exact aEo
theorem Vz(f mode a b ca sa xa ga cb sb xb gb:Int)(sp xp:Int)(Gp:Nat)(HF:fO f mode a b V)(gU:bD f a ca sa xa ga)(iQ:bD f b cb sb xb gb)(lN:bI ca sa xa ga X)(tJ:bI cb sb xb gb X)(HP:Tf ca sa xa ga cb sb xb gb X)(HM:Hid (∀w,CT 165 #[eX ca sa xa ga,eX cb sb xb gb] w fun e w'=>∃bp kp qp,aF 4 w' (aB bp kp qp) Gp/\e=Z (Y #[J sp,aB bp kp qp,J xp,O X])/\Gb w w'))(e1:(ca==2)=X)(e2:(cb==2)=X)(hG:Gp=0)(z fl:Int)(HL:nR f sp z fl)(w:World):
  AA f mode a b w z fl:=by
 have HG:Hid (Gp=0):=hG;clear hG;go_enter func104,ntmps104;go_wp2_with (first
  |(go_at_call 94;refine kw (HF _) ?_)
  |(go_at_call 57;first|(with_reducible refine ku (gU.out _) fun w1 ak=>?_;have ig:=ak.aW w;have hz0:=au ig.1)|(with_reducible refine ku (iQ.out _) fun w2 aA=>?_;have jE:=aA.aW w;have:=aA.I9 w1;have hz1:=au jE.1))
  |(go_at_call 95;first|(with_reducible refine ku (lN.out _) fun va aT=>?_;have:=aT.aW w;have:=aT.dX w1;have:=aT.dX w2)|(with_reducible refine ku (tJ.out _) fun vb bZ=>?_;have:=bZ.aW w;have:=bZ.dX w1;have:=bZ.dX w2))
  |(go_at_call 164;refine ku (HP _) fun vp lH=>?_;have:=lH.aW w;have:=lH.dX w1;have:=lH.dX w2)
  |(go_at_call 165;refine(HM _).mono ?_;rintro e wm ⟨bp,kp,qp,hbp,rfl,lF⟩;obtain⟨np,hnp,hbb⟩:=hbp;obtain rfl:kp=0:=(KF hbb HG.out);have JM:=lF.A20 w;have Ro:=lF.dX w1;have Rn:=lF.dX w2;have mA0:=oD Ro.1;have mB0:=oD Rn.1;have hzm:=au JM.1.1)
  |(go_at_call 84;refine ku (HL _) fun w9 aU=>?_;have h_:=aU.aW w))
 exact dB (by simp[results,Tryz.results104,go_sem,h_])
theorem Y5(f mode a b ca sa xa ga cb sb xb gb:Int)(sp xp:Int)(Gp:Nat)(HF:fO f mode a b V)(gU:bD f a ca sa xa ga)(iQ:bD f b cb sb xb gb)(lN:bI ca sa xa ga X)(tJ:bI cb sb xb gb X)(HP:Tf ca sa xa ga cb sb xb gb X)(HM:Hid (∀w,CT 165 #[eX ca sa xa ga,eX cb sb xb gb] w fun e w'=>∃bp kp qp,aF 4 w' (aB bp kp qp) Gp/\e=Z (Y #[J sp,aB bp kp qp,J xp,O X])/\Gb w w'))(e1:(ca==2)=X)(e2:(cb==2)=X)(hG:0<Gp)(Q:Int->Int->Prop)(HR:Hid (∀v w,aF 4 w v Gp->CT 85 #[J f,J mode,Y #[J sp,v,J xp,O X]] w (EX Q w)))(w:World):
  CT 104 #[J f,J mode,.int .u64 a,.int .u64 b] w (EX Q w):=by
 have HG:Hid (0<Gp):=hG;clear hG;go_enter func104,ntmps104;go_wp2_with (first
  |(go_at_call 94;refine kw (HF _) ?_)
  |(go_at_call 57;first|(with_reducible refine ku (gU.out _) fun w1 ak=>?_;have ig:=ak.aW w;have hz0:=au ig.1)|(with_reducible refine ku (iQ.out _) fun w2 aA=>?_;have jE:=aA.aW w;have:=aA.I9 w1;have hz1:=au jE.1))
  |(go_at_call 95;first|(with_reducible refine ku (lN.out _) fun va aT=>?_;have:=aT.aW w;have:=aT.dX w1;have:=aT.dX w2)|(with_reducible refine ku (tJ.out _) fun vb bZ=>?_;have:=bZ.aW w;have:=bZ.dX w1;have:=bZ.dX w2))
  |(go_at_call 164;refine ku (HP _) fun vp lH=>?_;have:=lH.aW w;have:=lH.dX w1;have:=lH.dX w2)
  |(go_at_call 165;refine(HM _).mono ?_;rintro e wm ⟨bp,kp,qp,hbp,rfl,lF⟩;have hk0:(((kp:Nat):Int)==0)=X:=(by have:=KG hbp;rw[this];exact decide_eq_false (by have:=HG.out;omega));have JM:=lF.A20 w;have Ro:=lF.dX w1;have Rn:=lF.dX w2;have mA0:=oD Ro.1;have mB0:=oD Rn.1;have hzm:=au JM.1.1)
  |(go_at_call 85;refine(HR _ _ (aF.gb hbp Gb.g)).mono ?_;rintro e w9 ⟨z,fl,hq,rfl,aU⟩;have h_:=aU.aW w))
 refine bodyPost_ret (v:=aK z fl) (by simp[results,Tryz.results104,go_sem,h_]) rfl ⟨z,fl,hq,rfl,?_⟩;exact Gb.g
