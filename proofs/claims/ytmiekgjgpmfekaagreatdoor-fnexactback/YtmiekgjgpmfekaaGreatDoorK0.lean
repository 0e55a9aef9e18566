import Derived.Test.YtmiekgjgpmfekaaGreatDoorG9
import Derived.Test.YtmiekgjgpmfekaaGreatDoorF2D
set_option linter.all false
set_option maxRecDepth 1000000
set_option maxHeartbeats 40000000
open Bool renaming false → E
open Go.Proofs.YtmiekgjgpmfekaaGreatDoor renaming vI → J
open Go.Value renaming int → Y, agg → O, bool → V
open Go.IntKind renaming u64 → Z
open Go.Ending renaming returned → X
open Go.Proofs.Tryz
namespace Go.Proofs.YtmiekgjgpmfekaaGreatDoor
open Go.RowKit
variable{w:World}{p mn mx fb sp one inf sg nan:Int}{K b k c N:Nat}
theorem aEp{P:Prop}(h:P:=by
 refine bodyPost_ret (v:=O #[J sx,aB b4 k4 c4,J ey,V E]) (by simp[results,Tryz.results204,go_sem,uX]) rfl ⟨b4,k4,c4,?_,rfl,?_⟩
 ·exact hb4.Vj uX.1 uX.2.2.1 uX.2.2.2.2.1 uX.2.2.2.2.2.2.1
 ·exact Gb.g):P:=h
theorem aEq{P:Prop}(h:P:=by
 refine bodyPost_ret (v:=O #[J sx,aB b4 k4 c4,J ex,V E]) (by simp[results,Tryz.results204,go_sem,uX]) rfl ⟨b4,k4,c4,?_,rfl,?_⟩
 ·exact hb4.Vj uX.1 uX.2.2.1 uX.2.2.2.2.1 uX.2.2.2.2.2.2.1
 ·exact Gb.g):P:=h
attribute [local go_sem] aj
def aFh(sx sy:Int)(a b:Nat)(sT:Int)(MT:Nat):Prop:=sx=sy/\sT=sx/\MT=a+b\/sx≠sy/\b<=a/\sT=sx/\MT=a-b\/sx≠sy/\a<b/\sT=sy/\MT=b-a
structure TC:Prop where
 shl:∀v (N:Nat) (z:Int) (s:Nat) w,aF 4 w v N->z=(s:Int)->s<=10000->CT 99 #[v,J z] w (qK 400 (N*2^s) w)
 add:∀v v' (N N':Nat) w,aF 400 w v N->aF 400 w v' N'->CT 163 #[v,v'] w (qK 1000 (N+N') w)
 sub:∀v v' (N N':Nat) w,aF 400 w v N->aF 400 w v' N'->N'<=N->CT 176 #[v,v'] w (qK 1000 (N-N') w)
 cmp:∀v v' (N N':Nat) w,aF 400 w v N->aF 400 w v' N'->QB 102 #[v,v'] w (J (fK N N'))
theorem tc:TC where
 shl:=fun v N z s w ⟨n,a1,a2⟩ hz hs=>by subst hz;exact dV ((fZ a2 om s om).mono (fun e w' ⟨v,k,c1,c2,c3,c4⟩=>⟨v,k,c1,c2,om,c4⟩))
 add:=fun v v' N N' w ⟨n,a1,a2⟩ ⟨n',b1,b2⟩=>dV ((BD a2 om b2 om).mono (fun e w' ⟨v,k,c1,c2,c3,c4⟩=>⟨v,k,c1,c2,om,c4⟩))
 sub:=fun v v' N N' w ⟨n,a1,a2⟩ ⟨n',b1,b2⟩ h=>dV ((mF a2 om b2 om h).mono (fun e w' ⟨v,k,c1,c2,c3,c4⟩=>⟨v,k,c1,c2,om,c4⟩))
 cmp:=fun v v' N N' w ⟨n,a1,a2⟩ ⟨n',b1,b2⟩=>gY a2 om b2 om
theorem GZ(sx sy ex ey:Int)(bx kx cx gy ky cy:Nat)(Mx My A B:Nat)(HX:Hid (aF 4 w (aB bx kx cx) Mx))(HY:Hid (aF 4 w (aB gy ky cy) My))(x0:-4000<=ex)(x1:ex<=4000)(y0:-4000<=ey)(y1:ey<=4000)(hle:ex<=ey)(d:Nat)(hd:ey-ex=(d:Int))(hA:A=Mx)(hB:B=My*2^d)(hs:sx=sy):
  CT 204 #[O #[J sx,aB bx kx cx,J ex,V E],O #[J sy,aB gy ky cy,J ey,V E]] w fun e w'=>∃b k c,aF 1000 w' (aB b k c) (A+B)/\e=X (O #[J sx,aB b k c,J ex,V E])/\Gb w w':=by
 have HT:Hid TC:=tc;obtain⟨dz,hdz⟩:∃dz:Int,ey-ex=dz:=⟨_,rfl⟩;have u1:IntKind.i64.wrap (ey-ex)=dz:=by rw[hdz,IntKind.wrap_i64];omega
 have hdn:Hid (dz=(d:Int)):=by show _=_;omega
 have hd9:Hid (d<=10000):=by show _<=_;omega
 have hA':Hid (A=Mx):=hA;have hB':Hid (B=My*2^d):=hB;clear hd hdz hA hB;subst hs;go_enter func204,ntmps204;go_wp2_with (first
  |(go_at_call 99;with_reducible refine(TC.shl HT.out _ _ _ 0 _ (aF.gb HX.out Gb.g) om om).mono ?_;rintro e w1 ⟨bx1,Z8,FU,hb0,rfl,ak⟩;have hbx:aF 400 w1 (.slice (some ⟨bx1,0,none⟩) Z8 FU) A:=(by rw[hA'.out];simpa using hb0);clear hb0;have:=ak.dX w;have:=ak.La w;have:=ak.uV w)
  |(go_at_call 99;with_reducible refine(TC.shl HT.out _ _ _ d _ (aF.gb HY.out Gb.g) (by exact hdn.out) hd9.out).mono ?_;rintro e w2 ⟨SX,Z7,UG,hb0,rfl,aA⟩;have hby:aF 400 w2 (.slice (some ⟨SX,0,none⟩) Z7 UG) B:=(by rw[hB'.out];exact hb0);clear hb0;have:=aA.dX w;have:=aA.La w;have:=aA.uV w))
 go_region_held3 (fun w'=>aj w' w.heap.size 0 (J sx)/\aj w' (w.heap.size+1) 0 (J sx))
  (exact kX)
  (first|(go_at_call 163;refine(TC.add HT.out _ _ A B _ (aF.gb hbx Gb.g) (aF.gb hby Gb.g)).mono ?_;rintro e w4 ⟨b4,k4,c4,hb4,rfl,aH⟩;have uX:=aH.uV w))
 all_goals go_wp2
 all_goals
  exact aEq
theorem J3(sx sy ex ey:Int)(bx kx cx gy ky cy:Nat)(Mx My A B:Nat)(HX:Hid (aF 4 w (aB bx kx cx) Mx))(HY:Hid (aF 4 w (aB gy ky cy) My))(x0:-4000<=ex)(x1:ex<=4000)(y0:-4000<=ey)(y1:ey<=4000)(hle:ex<=ey)(d:Nat)(hd:ey-ex=(d:Int))(hA:A=Mx)(hB:B=My*2^d)(hs:sx≠sy)(hab:B<=A):
  CT 204 #[O #[J sx,aB bx kx cx,J ex,V E],O #[J sy,aB gy ky cy,J ey,V E]] w fun e w'=>∃b k c,aF 1000 w' (aB b k c) (A-B)/\e=X (O #[J sx,aB b k c,J ex,V E])/\Gb w w':=by
 have HT:Hid TC:=tc;obtain⟨dz,hdz⟩:∃dz:Int,ey-ex=dz:=⟨_,rfl⟩;have u1:IntKind.i64.wrap (ey-ex)=dz:=by rw[hdz,IntKind.wrap_i64];omega
 have hdn:Hid (dz=(d:Int)):=by show _=_;omega
 have hd9:Hid (d<=10000):=by show _<=_;omega
 have hA':Hid (A=Mx):=hA;have hB':Hid (B=My*2^d):=hB;clear hd hdz hA hB;have c1:(sx==sy)=E:=by simp[hs]
 have c2:Hid (B<=A):=hab;clear hab hs;go_enter func204,ntmps204;have c3:0<=fK A B:=by have:=c2.out;unfold fK;split<;>(try split)<;>omega
 generalize hq:fK A B=q at*
 have hq':Hid (fK A B=q):=hq;clear hq;go_wp2_with (first
  |(go_at_call 99;with_reducible refine(TC.shl HT.out _ _ _ 0 _ (aF.gb HX.out Gb.g) om om).mono ?_;rintro e w1 ⟨bx1,Z8,FU,hb0,rfl,ak⟩;have hbx:aF 400 w1 (.slice (some ⟨bx1,0,none⟩) Z8 FU) A:=(by rw[hA'.out];simpa using hb0);clear hb0;have:=ak.dX w;have:=ak.La w;have:=ak.uV w)
  |(go_at_call 99;with_reducible refine(TC.shl HT.out _ _ _ d _ (aF.gb HY.out Gb.g) (by exact hdn.out) hd9.out).mono ?_;rintro e w2 ⟨SX,Z7,UG,hb0,rfl,aA⟩;have hby:aF 400 w2 (.slice (some ⟨SX,0,none⟩) Z7 UG) B:=(by rw[hB'.out];exact hb0);clear hb0;have:=aA.dX w;have:=aA.La w;have:=aA.uV w)
  |(go_at_call 102;refine(TC.cmp HT.out _ _ A B _ (aF.gb hbx Gb.g) (aF.gb hby Gb.g)).mono ?_;rintro e w3 ⟨he,aC⟩;rw[hq'.out]at he;subst he;have:=aC.dX w;have:=aC.La w;have:=aC.uV w))
 go_region_held3 (fun w'=>aj w' w.heap.size 0 (J sx)/\aj w' (w.heap.size+1) 0 (J sy))
  (exact kX)
  (first|(go_at_call 176;refine(TC.sub HT.out _ _ A B _ (aF.gb hbx Gb.g) (aF.gb hby Gb.g) c2.out).mono ?_;rintro e w4 ⟨b4,k4,c4,hb4,rfl,aH⟩;have uX:=aH.uV w))
 all_goals go_wp2
 all_goals
  exact aEq
theorem JZ(sx sy ex ey:Int)(bx kx cx gy ky cy:Nat)(Mx My A B:Nat)(HX:Hid (aF 4 w (aB bx kx cx) Mx))(HY:Hid (aF 4 w (aB gy ky cy) My))(x0:-4000<=ex)(x1:ex<=4000)(y0:-4000<=ey)(y1:ey<=4000)(hle:ex<=ey)(d:Nat)(hd:ey-ex=(d:Int))(hA:A=Mx)(hB:B=My*2^d)(hs:sx≠sy)(hab:A<B):
  CT 204 #[O #[J sx,aB bx kx cx,J ex,V E],O #[J sy,aB gy ky cy,J ey,V E]] w fun e w'=>∃b k c,aF 1000 w' (aB b k c) (B-A)/\e=X (O #[J sy,aB b k c,J ex,V E])/\Gb w w':=by
 have HT:Hid TC:=tc;obtain⟨dz,hdz⟩:∃dz:Int,ey-ex=dz:=⟨_,rfl⟩;have u1:IntKind.i64.wrap (ey-ex)=dz:=by rw[hdz,IntKind.wrap_i64];omega
 have hdn:Hid (dz=(d:Int)):=by show _=_;omega
 have hd9:Hid (d<=10000):=by show _<=_;omega
 have hA':Hid (A=Mx):=hA;have hB':Hid (B=My*2^d):=hB;clear hd hdz hA hB;have c1:(sx==sy)=E:=by simp[hs]
 have c2:Hid (A<B):=hab;clear hab hs;go_enter func204,ntmps204;have c3:fK A B<0:=by have:=c2.out;unfold fK;rw[if_pos (by omega)];omega
 generalize hq:fK A B=q at*
 have hq':Hid (fK A B=q):=hq;clear hq;go_wp2_with (first
  |(go_at_call 99;with_reducible refine(TC.shl HT.out _ _ _ 0 _ (aF.gb HX.out Gb.g) om om).mono ?_;rintro e w1 ⟨bx1,Z8,FU,hb0,rfl,ak⟩;have hbx:aF 400 w1 (.slice (some ⟨bx1,0,none⟩) Z8 FU) A:=(by rw[hA'.out];simpa using hb0);clear hb0;have:=ak.dX w;have:=ak.La w;have:=ak.uV w)
  |(go_at_call 99;with_reducible refine(TC.shl HT.out _ _ _ d _ (aF.gb HY.out Gb.g) (by exact hdn.out) hd9.out).mono ?_;rintro e w2 ⟨SX,Z7,UG,hb0,rfl,aA⟩;have hby:aF 400 w2 (.slice (some ⟨SX,0,none⟩) Z7 UG) B:=(by rw[hB'.out];exact hb0);clear hb0;have:=aA.dX w;have:=aA.La w;have:=aA.uV w)
  |(go_at_call 102;refine(TC.cmp HT.out _ _ A B _ (aF.gb hbx Gb.g) (aF.gb hby Gb.g)).mono ?_;rintro e w3 ⟨he,aC⟩;rw[hq'.out]at he;subst he;have:=aC.dX w;have:=aC.La w;have:=aC.uV w))
 go_region_held3 (fun w'=>aj w' w.heap.size 0 (J sx)/\aj w' (w.heap.size+1) 0 (J sy))
  (exact kX)
  (first|(go_at_call 176;refine(TC.sub HT.out _ _ B A _ (aF.gb hby Gb.g) (aF.gb hbx Gb.g) (Nat.le_of_lt c2.out)).mono ?_;rintro e w4 ⟨b4,k4,c4,hb4,rfl,aH⟩;have uX:=aH.uV w))
 all_goals go_wp2
 all_goals
  refine bodyPost_ret (v:=O #[J sy,aB b4 k4 c4,J ex,V E]) (by simp[results,Tryz.results204,go_sem,uX]) rfl ⟨b4,k4,c4,?_,rfl,?_⟩
  ·exact hb4.Vj uX.1 uX.2.2.1 uX.2.2.2.2.1 uX.2.2.2.2.2.2.1
  ·exact Gb.g
theorem GY(sx sy ex ey:Int)(bx kx cx gy ky cy:Nat)(Mx My A B:Nat)(HX:Hid (aF 4 w (aB bx kx cx) Mx))(HY:Hid (aF 4 w (aB gy ky cy) My))(x0:-4000<=ex)(x1:ex<=4000)(y0:-4000<=ey)(y1:ey<=4000)(hlt:ey<ex)(d:Nat)(hd:ex-ey=(d:Int))(hA:A=Mx*2^d)(hB:B=My)(hs:sx=sy):
  CT 204 #[O #[J sx,aB bx kx cx,J ex,V E],O #[J sy,aB gy ky cy,J ey,V E]] w fun e w'=>∃b k c,aF 1000 w' (aB b k c) (A+B)/\e=X (O #[J sx,aB b k c,J ey,V E])/\Gb w w':=by
 have HT:Hid TC:=tc;obtain⟨dz,hdz⟩:∃dz:Int,ex-ey=dz:=⟨_,rfl⟩;have u1:IntKind.i64.wrap (ex-ey)=dz:=by rw[hdz,IntKind.wrap_i64];omega
 have hdn:Hid (dz=(d:Int)):=by show _=_;omega
 have hd9:Hid (d<=10000):=by show _<=_;omega
 have hA':Hid (A=Mx*2^d):=hA;have hB':Hid (B=My):=hB;clear hd hdz hA hB;subst hs;go_enter func204,ntmps204;go_wp2_with (first
  |(go_at_call 99;with_reducible refine(TC.shl HT.out _ _ _ d _ (aF.gb HX.out Gb.g) (by exact hdn.out) hd9.out).mono ?_;rintro e w1 ⟨bx1,Z8,FU,hb0,rfl,ak⟩;have hbx:aF 400 w1 (.slice (some ⟨bx1,0,none⟩) Z8 FU) A:=(by rw[hA'.out];exact hb0);clear hb0;have:=ak.dX w;have:=ak.La w;have:=ak.uV w)
  |(go_at_call 99;with_reducible refine(TC.shl HT.out _ _ _ 0 _ (aF.gb HY.out Gb.g) om om).mono ?_;rintro e w2 ⟨SX,Z7,UG,hb0,rfl,aA⟩;have hby:aF 400 w2 (.slice (some ⟨SX,0,none⟩) Z7 UG) B:=(by rw[hB'.out];simpa using hb0);clear hb0;have:=aA.dX w;have:=aA.La w;have:=aA.uV w))
 go_region_held3 (fun w'=>aj w' w.heap.size 0 (J sx)/\aj w' (w.heap.size+1) 0 (J sx))
  (exact kX)
  (first|(go_at_call 163;refine(TC.add HT.out _ _ A B _ (aF.gb hbx Gb.g) (aF.gb hby Gb.g)).mono ?_;rintro e w4 ⟨b4,k4,c4,hb4,rfl,aH⟩;have uX:=aH.uV w))
 all_goals go_wp2
 all_goals
  exact aEp
theorem JY(sx sy ex ey:Int)(bx kx cx gy ky cy:Nat)(Mx My A B:Nat)(HX:Hid (aF 4 w (aB bx kx cx) Mx))(HY:Hid (aF 4 w (aB gy ky cy) My))(x0:-4000<=ex)(x1:ex<=4000)(y0:-4000<=ey)(y1:ey<=4000)(hlt:ey<ex)(d:Nat)(hd:ex-ey=(d:Int))(hA:A=Mx*2^d)(hB:B=My)(hs:sx≠sy)(hab:B<=A):
  CT 204 #[O #[J sx,aB bx kx cx,J ex,V E],O #[J sy,aB gy ky cy,J ey,V E]] w fun e w'=>∃b k c,aF 1000 w' (aB b k c) (A-B)/\e=X (O #[J sx,aB b k c,J ey,V E])/\Gb w w':=by
 have HT:Hid TC:=tc;obtain⟨dz,hdz⟩:∃dz:Int,ex-ey=dz:=⟨_,rfl⟩;have u1:IntKind.i64.wrap (ex-ey)=dz:=by rw[hdz,IntKind.wrap_i64];omega
 have hdn:Hid (dz=(d:Int)):=by show _=_;omega
 have hd9:Hid (d<=10000):=by show _<=_;omega
 have hA':Hid (A=Mx*2^d):=hA;have hB':Hid (B=My):=hB;clear hd hdz hA hB;have c1:(sx==sy)=E:=by simp[hs]
 have c2:Hid (B<=A):=hab;clear hab hs;go_enter func204,ntmps204;have c3:0<=fK A B:=by have:=c2.out;unfold fK;split<;>(try split)<;>omega
 generalize hq:fK A B=q at*
 have hq':Hid (fK A B=q):=hq;clear hq;go_wp2_with (first
  |(go_at_call 99;with_reducible refine(TC.shl HT.out _ _ _ d _ (aF.gb HX.out Gb.g) (by exact hdn.out) hd9.out).mono ?_;rintro e w1 ⟨bx1,Z8,FU,hb0,rfl,ak⟩;have hbx:aF 400 w1 (.slice (some ⟨bx1,0,none⟩) Z8 FU) A:=(by rw[hA'.out];exact hb0);clear hb0;have:=ak.dX w;have:=ak.La w;have:=ak.uV w)
  |(go_at_call 99;with_reducible refine(TC.shl HT.out _ _ _ 0 _ (aF.gb HY.out Gb.g) om om).mono ?_;rintro e w2 ⟨SX,Z7,UG,hb0,rfl,aA⟩;have hby:aF 400 w2 (.slice (some ⟨SX,0,none⟩) Z7 UG) B:=(by rw[hB'.out];simpa using hb0);clear hb0;have:=aA.dX w;have:=aA.La w;have:=aA.uV w)
  |(go_at_call 102;refine(TC.cmp HT.out _ _ A B _ (aF.gb hbx Gb.g) (aF.gb hby Gb.g)).mono ?_;rintro e w3 ⟨he,aC⟩;rw[hq'.out]at he;subst he;have:=aC.dX w;have:=aC.La w;have:=aC.uV w))
 go_region_held3 (fun w'=>aj w' w.heap.size 0 (J sx)/\aj w' (w.heap.size+1) 0 (J sy))
  (exact kX)
  (first|(go_at_call 176;refine(TC.sub HT.out _ _ A B _ (aF.gb hbx Gb.g) (aF.gb hby Gb.g) c2.out).mono ?_;rintro e w4 ⟨b4,k4,c4,hb4,rfl,aH⟩;have uX:=aH.uV w))
 all_goals go_wp2
 all_goals
  exact aEp
theorem JX(sx sy ex ey:Int)(bx kx cx gy ky cy:Nat)(Mx My A B:Nat)(HX:Hid (aF 4 w (aB bx kx cx) Mx))(HY:Hid (aF 4 w (aB gy ky cy) My))(x0:-4000<=ex)(x1:ex<=4000)(y0:-4000<=ey)(y1:ey<=4000)(hlt:ey<ex)(d:Nat)(hd:ex-ey=(d:Int))(hA:A=Mx*2^d)(hB:B=My)(hs:sx≠sy)(hab:A<B):
  CT 204 #[O #[J sx,aB bx kx cx,J ex,V E],O #[J sy,aB gy ky cy,J ey,V E]] w fun e w'=>∃b k c,aF 1000 w' (aB b k c) (B-A)/\e=X (O #[J sy,aB b k c,J ey,V E])/\Gb w w':=by
 have HT:Hid TC:=tc;obtain⟨dz,hdz⟩:∃dz:Int,ex-ey=dz:=⟨_,rfl⟩;have u1:IntKind.i64.wrap (ex-ey)=dz:=by rw[hdz,IntKind.wrap_i64];omega
 have hdn:Hid (dz=(d:Int)):=by show _=_;omega
 have hd9:Hid (d<=10000):=by show _<=_;omega
 have hA':Hid (A=Mx*2^d):=hA;have hB':Hid (B=My):=hB;clear hd hdz hA hB;have c1:(sx==sy)=E:=by simp[hs]
 have c2:Hid (A<B):=hab;clear hab hs;go_enter func204,ntmps204;have c3:fK A B<0:=by have:=c2.out;unfold fK;rw[if_pos (by omega)];omega
 generalize hq:fK A B=q at*
 have hq':Hid (fK A B=q):=hq;clear hq;go_wp2_with (first
  |(go_at_call 99;with_reducible refine(TC.shl HT.out _ _ _ d _ (aF.gb HX.out Gb.g) (by exact hdn.out) hd9.out).mono ?_;rintro e w1 ⟨bx1,Z8,FU,hb0,rfl,ak⟩;have hbx:aF 400 w1 (.slice (some ⟨bx1,0,none⟩) Z8 FU) A:=(by rw[hA'.out];exact hb0);clear hb0;have:=ak.dX w;have:=ak.La w;have:=ak.uV w)
  |(go_at_call 99;with_reducible refine(TC.shl HT.out _ _ _ 0 _ (aF.gb HY.out Gb.g) om om).mono ?_;rintro e w2 ⟨SX,Z7,UG,hb0,rfl,aA⟩;have hby:aF 400 w2 (.slice (some ⟨SX,0,none⟩) Z7 UG) B:=(by rw[hB'.out];simpa using hb0);clear hb0;have:=aA.dX w;have:=aA.La w;have:=aA.uV w)
  |(go_at_call 102;refine(TC.cmp HT.out _ _ A B _ (aF.gb hbx Gb.g) (aF.gb hby Gb.g)).mono ?_;rintro e w3 ⟨he,aC⟩;rw[hq'.out]at he;subst he;have:=aC.dX w;have:=aC.La w;have:=aC.uV w))
 go_region_held3 (fun w'=>aj w' w.heap.size 0 (J sx)/\aj w' (w.heap.size+1) 0 (J sy))
  (exact kX)
  (first|(go_at_call 176;refine(TC.sub HT.out _ _ B A _ (aF.gb hby Gb.g) (aF.gb hbx Gb.g) (Nat.le_of_lt c2.out)).mono ?_;rintro e w4 ⟨b4,k4,c4,hb4,rfl,aH⟩;have uX:=aH.uV w))
 all_goals go_wp2
 all_goals
  refine bodyPost_ret (v:=O #[J sy,aB b4 k4 c4,J ey,V E]) (by simp[results,Tryz.results204,go_sem,uX]) rfl ⟨b4,k4,c4,?_,rfl,?_⟩
  ·exact hb4.Vj uX.1 uX.2.2.1 uX.2.2.2.2.1 uX.2.2.2.2.2.2.1
  ·exact Gb.g
theorem N7(sx sy ex ey:Int)(bx kx cx gy ky cy:Nat)(Mx My:Nat)(HX:aF 4 w (aB bx kx cx) Mx)(HY:aF 4 w (aB gy ky cy) My)(x0:-4000<=ex)(x1:ex<=4000)(y0:-4000<=ey)(y1:ey<=4000)(sT:Int)(MT:Nat)(hT:aFh sx sy (Mx*2^(ex-min ex ey).toNat) (My*2^(ey-min ex ey).toNat) sT MT):
  CT 204 #[O #[J sx,aB bx kx cx,J ex,V E],O #[J sy,aB gy ky cy,J ey,V E]] w fun e w'=>∃b k c,aF 1000 w' (aB b k c) MT/\e=X (O #[J sT,aB b k c,J (min ex ey),V E])/\Gb w w':=by
 by_cases h:ex<=ey
 ·rw[show min ex ey=ex by omega]at hT⊢
  rw[show(ex-ex).toNat =0 by omega,Nat.pow_zero,Nat.mul_one]at hT;rcases hT with⟨hs,rfl,rfl⟩|⟨hs,hab,rfl,rfl⟩|⟨hs,hab,rfl,rfl⟩
  ·exact GZ _ sy ex ey bx kx cx gy ky cy Mx My _ _ HX HY x0 x1 y0 y1 h (ey-ex).toNat om rfl rfl hs
  ·exact J3 _ sy ex ey bx kx cx gy ky cy Mx My _ _ HX HY x0 x1 y0 y1 h (ey-ex).toNat om rfl rfl hs hab
  ·exact JZ sx _ ex ey bx kx cx gy ky cy Mx My _ _ HX HY x0 x1 y0 y1 h (ey-ex).toNat om rfl rfl hs hab
 ·rw[show min ex ey=ey by omega]at hT⊢
  rw[show(ey-ey).toNat =0 by omega,Nat.pow_zero,Nat.mul_one]at hT;rcases hT with⟨hs,rfl,rfl⟩|⟨hs,hab,rfl,rfl⟩|⟨hs,hab,rfl,rfl⟩
  ·exact GY _ sy ex ey bx kx cx gy ky cy Mx My _ _ HX HY x0 x1 y0 y1 om (ex-ey).toNat om rfl rfl hs
  ·exact JY _ sy ex ey bx kx cx gy ky cy Mx My _ _ HX HY x0 x1 y0 y1 om (ex-ey).toNat om rfl rfl hs hab
  ·exact JX sx _ ex ey bx kx cx gy ky cy Mx My _ _ HX HY x0 x1 y0 y1 om (ex-ey).toNat om rfl rfl hs hab
theorem NG(h:qH p mn mx fb sp one inf sg nan)(W:Int)(h0:0<=W)(h1:W<2*sg)(w:World):
  CT 89 #[iW p mn mx,Y Z W] w fun e w'=>∃c s x g:Int,dY p mx one inf sg nan W c s x g/\e=X (aV s x c 0 g E 0)/\Gr w w':=by
 have HU:Hid (∀w,CT 156 #[iW p mn mx,Y Z W] w fun e w'=>∃c s x g:Int,dY p mx one inf sg nan W c s x g/\e=X (eX c s x g)/\Gr w w'):=fun w=>P7 h W h0 h1 w;clear h;go_enter func89,ntmps89;go_wp2_with (go_at_call 156;refine(HU _).mono ?_;rintro e w1 ⟨c,s,x,g,hu,rfl,ak⟩;obtain⟨fP,aA7,xU,aA6,XM,aA5,ar3,aA4,ar4,aA3,ar5,aGK,ar6,aGJ⟩:=ak.yo (w.heap.size+1);have aBe:=oD fP;have aIz:=Iq aA7;have aBd:=oD xU;have aIy:=Iq aA6;have aBb:=oD XM;have aIx:=Iq aA5;have aBa:=oD ar3;have aIw:=Iq aA4;have aA9:=oD ar4;have aIv:=Iq aA3;have aGM:=oD ar5;have aKv:=Iq aGK;have aGL:=oD ar6;have aKu:=Iq aGJ);refine bodyPost_ret (v:=aV s x c 0 g E 0) (by simp[results,Tryz.results89,go_sem,aBe,aBd,aBb,aBa,aA9,aGM,aGL]) rfl ⟨c,s,x,g,hu,rfl,?_⟩;exact Gr.g
theorem JG(h:qH p mn mx fb sp one inf sg nan)(W:Int)(h0:2*sg<=W)(h1:W<18446744073709551616)(w:World):
  QR 89 #[iW p mn mx,Y Z W] w (aV 0 0 4 0 0 E 0):=by
 have HU:KR 156 #[iW p mn mx,Y Z W] (eX 4 0 0 0):=fun w=>LK h W h0 h1 w;clear h;go_enter func89,ntmps89;go_wp2_with (go_at_call 156;refine ku (HU _) fun w1 ak=>?_;obtain⟨fP,aA7,xU,aA6,XM,aA5,ar3,aA4,ar4,aA3,ar5,aGK,ar6,aGJ⟩:=ak.yo (w.heap.size+1);have aBe:=oD fP;have aIz:=Iq aA7;have aBd:=oD xU;have aIy:=Iq aA6;have aBb:=oD XM;have aIx:=Iq aA5;have aBa:=oD ar3;have aIw:=Iq aA4;have aA9:=oD ar4;have aIv:=Iq aA3;have aGM:=oD ar5;have aKv:=Iq aGK;have aGL:=oD ar6;have aKu:=Iq aGJ);exact bH (by simp[results,Tryz.results89,go_sem,aBe,aBd,aBb,aBa,aA9,aGM,aGL])
theorem kK(p mn mx md nan f mode a b:Int)(HF:Hid (∀w',Gr w w'->QR 86 #[J f,J mode] w' (.tuple #[O #[J p,J mn,J mx,J md,Value.nilFunc],V E])))
  (HN:Ht p mn mx nan 1) (own:Nat):
  QR 133 #[J f,J mode,.func (.func own) #[] #[],Y Z a,Y Z b] w (aK nan 1):=by
 go_enter func133,ntmps133;go_wp2_with (first
  |(go_at_call 86;refine ku (HF _ Gr.g) fun w1 ak=>?_;have:=ak.aW w)
  |(go_at_call 178;refine ku (HN _) fun w2 aA=>?_;have jy:=aA.aW w))
 exact bH (by simp[results,Tryz.results133,go_sem,jy])
theorem KA(p mn mx md f:Int)(k own:Nat)(a b sx ex cx xh xl sy ey cy yh yl:Int)(tx ty:Bool)(HF:Hid (∀w',Gr w w'->nP f md w' p mn mx k true))
  (HA:tu p mn mx a sx ex cx xh xl tx 0) (HB:tu p mn mx b sy ey cy yh yl ty 0) (Q:Int->Int->Int->Int->Int->Bool->Prop) (HC:Hid (∀w,CT 90 #[dP p mn mx md k,.func (.func own) #[] #[],aV sx ex cx xh xl tx 0,aV sy ey cy yh yl ty 0] w fun e w'=>∃os oe oc oh ol ot,Q os oe oc oh ol ot/\e=X (aV os oe oc oh ol ot 0)/\Gr w w'))
  (R:Int->Int->Prop) (HP:Hid (∀os oe oc oh ol ot w,Q os oe oc oh ol ot->CT 179 #[dP p mn mx md k,aV os oe oc oh ol ot 0] w (AP R w))):
  CT 133 #[J f,J md,.func (.func own) #[] #[],Y Z a,Y Z b] w (AP R w):=by
 go_enter func133,ntmps133;go_wp2_with (go_at_call 86;refine ku (HF _ Gr.g) fun w1 ak=>?_;have qO:=ak.aW w;have hz1:=au qO.1);go_region_held3 (fun w'=>aj w' w1.heap.size 0 (J p)/\aj w' w1.heap.size 1 (J mn)/\aj w' w1.heap.size 2 (J mx)/\aj w' w1.heap.size 3 (J md)/\aj w' w1.heap.size 4 (.func (.func k) #[] #[]))
  (exact pz)
  (first
   |(go_at_call 89;first|(with_reducible refine ku (HA.out _) fun w2 aA=>?_;have:=aA.aW w)|(with_reducible refine ku (HB.out _) fun w2 aA=>?_;have:=aA.aW w))
   |(go_at_call 90;refine(HC _).mono ?_;rintro e w3 ⟨os,oe,oc,oh,ol,ot,hq,rfl,aC⟩;have:=aC.aW w)
   |(go_at_call 179;refine(HP _ _ _ _ _ _ _ hq).mono ?_;rintro e w4 ⟨z,fl,hr,rfl,aH⟩;have OA:=aH.aW w))
 all_goals go_wp2
 all_goals
  refine bodyPost_ret (v:=aK z fl) (by simp[results,Tryz.results133,go_sem,OA]) rfl ⟨z,fl,hr,rfl,?_⟩;exact Gr.g
theorem Sr(f mode a b:Int)(R:Int->Int->Prop)(HC:Hid (∀w',Gr w w'->CT 133 #[J f,J mode,.func (.func 209) #[] #[],Y Z a,Y Z b] w' (AP R w'))):
  CT 186 #[J f,J mode,Y Z a,Y Z b] w (AP R w):=by
 go_enter func186,ntmps186;go_wp2_with (go_at_call 133;refine(HC _ Gr.g).mono ?_;rintro e w1 ⟨z,fl,hr,rfl,ak⟩;have fP:=ak.aW w);refine bodyPost_ret (v:=aK z fl) (by simp[results,Tryz.results186,go_sem,fP]) rfl ⟨z,fl,hr,rfl,?_⟩;exact Gr.g
theorem Sj(f mode a b:Int)(R:Int->Int->Prop)(HC:Hid (∀w',Gr w w'->CT 133 #[J f,J mode,.func (.func 181) #[] #[],Y Z a,Y Z b] w' (AP R w'))):
  CT 135 #[J f,J mode,Y Z a,Y Z b] w (AP R w):=by
 go_enter func135,ntmps135;go_wp2_with (go_at_call 133;refine(HC _ Gr.g).mono ?_;rintro e w1 ⟨z,fl,hr,rfl,ak⟩;have fP:=ak.aW w);refine bodyPost_ret (v:=aK z fl) (by simp[results,Tryz.results135,go_sem,fP]) rfl ⟨z,fl,hr,rfl,?_⟩;exact Gr.g
theorem Ub(f mode a b ca sa xa ga cb sb xb gb:Int)(HF:fO f mode a b true)(gU:bD f a ca sa xa ga)(iQ:bD f b cb sb xb gb)(lN:bI ca sa xa ga E)(tJ:bI cb sb xb gb E)(e1:ca=1)(e2:cb=1)(sp:Int)(a0:0<=sa)(a1:sa<=1)(b0:0<=sb)(b1:sb<=1)(hm1:(sa+sb).tmod 2=sp)(hm2:(sa+sb)%2=sp)(xq:Int)(rest:Bool)(m:Nat)(HM:Hid (∀w,CT 108 #[J f,eX 1 sa xa ga,eX 1 sb xb gb] w fun e w'=>∃bq kq qq,aF 8 w' (aB bq kq qq) m/\e=X (O #[J sp,aB bq kq qq,J xq,V rest])/\Gb w w'))(Q:Int->Int->Prop)(HR:Hid (∀v w,aF 8 w v m->CT 85 #[J f,J mode,O #[J sp,v,J xq,V rest]] w (EX Q w)))(w:World):
  CT 45 #[J f,J mode,Y Z a,Y Z b] w (EX Q w):=by
 subst e1 e2;go_enter func45,ntmps45;go_wp2_with (first
  |(go_at_call 94;refine kw (HF _) ?_)
  |(go_at_call 57;first|(with_reducible refine ku (gU.out _) fun w1 ak=>?_;have ig:=ak.aW w;have hz0:=au ig.1)|(with_reducible refine ku (iQ.out _) fun w2 aA=>?_;have jE:=aA.aW w;have:=aA.I9 w1;have hz1:=au jE.1))
  |(go_at_call 95;first|(with_reducible refine ku (lN.out _) fun va aT=>?_;have:=aT.aW w;have:=aT.dX w1;have:=aT.dX w2)|(with_reducible refine ku (tJ.out _) fun vb bZ=>?_;have:=bZ.aW w;have:=bZ.dX w1;have:=bZ.dX w2))
  |(go_at_call 108;refine(HM _).mono ?_;rintro e wm ⟨bq,kq,qq,hbq,rfl,lF⟩;have:=lF.aW w)
  |(go_at_call 85;refine(HR _ _ hbq).mono ?_;rintro e w9 ⟨z,fl,hq,rfl,aU⟩;have h_:=aU.aW w))
 refine bodyPost_ret (v:=aK z fl) (by simp[results,Tryz.results45,go_sem,h_]) rfl ⟨z,fl,hq,rfl,?_⟩;exact Gb.g
theorem aCP(h:aF K w (aB b k c) N)(hN:0<N):0<k:=by
 obtain⟨n,hn,hb⟩:=h;obtain⟨b',cap,e,_⟩:=hb.shape;have h2:=hb.1.iff;injection e with _ e2 _;have:n≠0:=fun h=>by have:=h2.1 h;omega
 omega
theorem LH{P:Prop}(h:P:=by
 go_enter func36,ntmps36;go_wp2_with (first
   |(go_at_call 80;first|(refine(HX _).mono ?_;rintro e w1 ⟨b,k,c,hb,rfl,ak⟩;have Ee:=ak.aW w;have hz1:=au Ee.1;have hk1:=aCP hb hM)|(refine(HX _).mono ?_;rintro e w1 ⟨b,k,c,hb,rfl,ak⟩;have Ee:=ak.aW w;have hz1:=au Ee.1;have hk1:=aCQ hb)|(refine(HX _).mono ?_;rintro e w1 ⟨b,k,c,hb,rfl,ak⟩;have Ee:=ak.aW w;have hz1:=au Ee.1))
   |(go_at_call 81;refine kw (HFm _) ?_)
   |(go_at_call 82;refine kw (HWy _) ?_)
   |(go_at_call 85;refine(HR _ _ (aF.gb hb Gb.g)).mono ?_;rintro e w4 ⟨z,fl,hq,rfl,aH⟩;have h_:=aH.aW w)
   |(go_at_call 83;refine ku (HL _) fun w9 aU=>?_;have h_:=aU.aW w)
   |(go_at_call 84;refine ku (HL _) fun w9 aU=>?_;have h_:=aU.aW w))
 first
   |(refine bodyPost_ret (v:=aK z fl) (by simp[results,Tryz.results36,go_sem,h_]) rfl ⟨z,fl,hq,rfl,?_⟩;exact Gb.g)
   |(exact dB (by simp[results,Tryz.results36,go_sem,h_]))):P:=h
theorem Ie(f mode kind a s:Int)(M:Nat)(hM:0<M)(HX:Hid (∀w,CT 80 #[J kind,Y Z a] w fun e w'=>∃b k c,aF 2 w' (aB b k c) M/\e=X (.tuple #[O #[J s,aB b k c,J 0,V E],V true])/\Gb w w'))(HFm:KW 81 #[J f] (V true))(HWy:KW 82 #[J mode] (V true))(Q:Int->Int->Prop)(HR:Hid (∀v w,aF 2 w v M->CT 85 #[J f,J mode,O #[J s,v,J 0,V E]] w (EX Q w)))(w:World):
  CT 36 #[J f,J mode,J kind,Y Z a] w (EX Q w):=by
 exact LH
theorem aCQ(h:aF K w (aB b k c) 0):((k:Nat):Int)=0:=by
 obtain⟨n,hn,hb⟩:=h;obtain⟨b',cap,e,_⟩:=hb.shape;have:=hb.none rfl;injection e with _ e2 _;omega
theorem EK(f mode kind a s z fl:Int)(M:Nat)(HX:Hid (∀w,CT 80 #[J kind,Y Z a] w fun e w'=>∃b k c,aF 2 w' (aB b k c) M/\e=X (.tuple #[O #[J s,aB b k c,J 0,V E],V E])/\Gb w w'))(HL:nY f z fl)(w:World):
  QB 36 #[J f,J mode,J kind,Y Z a] w (aK z fl):=by
 exact LH
theorem Qr(f mode kind a s z fl:Int)(M:Nat)(HX:Hid (∀w,CT 80 #[J kind,Y Z a] w fun e w'=>∃b k c,aF 2 w' (aB b k c) M/\e=X (.tuple #[O #[J s,aB b k c,J 0,V E],V true])/\Gb w w'))(HFm:KW 81 #[J f] (V E))(HL:nY f z fl)(w:World):
  QB 36 #[J f,J mode,J kind,Y Z a] w (aK z fl):=by
 exact LH
theorem Qq(f mode kind a s z fl:Int)(M:Nat)(HX:Hid (∀w,CT 80 #[J kind,Y Z a] w fun e w'=>∃b k c,aF 2 w' (aB b k c) M/\e=X (.tuple #[O #[J s,aB b k c,J 0,V E],V true])/\Gb w w'))(HFm:KW 81 #[J f] (V true))(HWy:KW 82 #[J mode] (V E))(HL:nY f z fl)(w:World):
  QB 36 #[J f,J mode,J kind,Y Z a] w (aK z fl):=by
 exact LH
theorem Qp(f mode kind a s z fl:Int)(M:Nat)(hM:M=0)(HX:Hid (∀w,CT 80 #[J kind,Y Z a] w fun e w'=>∃b k c,aF 2 w' (aB b k c) M/\e=X (.tuple #[O #[J s,aB b k c,J 0,V E],V true])/\Gb w w'))(HFm:KW 81 #[J f] (V true))(HWy:KW 82 #[J mode] (V true))(HL:nR f 0 z fl)(w:World):
  QB 36 #[J f,J mode,J kind,Y Z a] w (aK z fl):=by
 subst hM;exact LH
