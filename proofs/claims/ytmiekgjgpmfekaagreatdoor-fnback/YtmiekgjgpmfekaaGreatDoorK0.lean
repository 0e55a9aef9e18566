import Derived.Test.YtmiekgjgpmfekaaGreatDoorG9
import Derived.Test.YtmiekgjgpmfekaaGreatDoorF2D
set_option linter.all false
set_option maxRecDepth 1000000
set_option maxHeartbeats 40000000
open Bool renaming false → E
open Go.Proofs.YtmiekgjgpmfekaaGreatDoor renaming vI → J
open Go.Value renaming int → Y, agg → O, bool → V
open Go.IntKind renaming u64 → Z
open Go.Ending renaming returned → X
open Go.Proofs.Tryz
namespace Go.Proofs.YtmiekgjgpmfekaaGreatDoor
open Go.RowKit
variable{w:World}{p mn mx fb sp one inf sg nan:Int}{K b k c N:Nat}
theorem aDv{P:Prop}(h:P:=by
 refine bodyPost_ret (v:=O #[J sx,aB b4 k4 c4,J ey,V E]) (by simp[results,Tryz.results204,go_sem,uo]) rfl ⟨b4,k4,c4,?_,rfl,?_⟩
 ·exact hb4.Uw uo.1 uo.2.2.1 uo.2.2.2.2.1 uo.2.2.2.2.2.2.1
 ·exact Gb.g):P:=h
theorem aDw{P:Prop}(h:P:=by
 refine bodyPost_ret (v:=O #[J sx,aB b4 k4 c4,J ex,V E]) (by simp[results,Tryz.results204,go_sem,uo]) rfl ⟨b4,k4,c4,?_,rfl,?_⟩
 ·exact hb4.Uw uo.1 uo.2.2.1 uo.2.2.2.2.1 uo.2.2.2.2.2.2.1
 ·exact Gb.g):P:=h
attribute [local go_sem] aj
def aEd(sx sy:Int)(a b:Nat)(sT:Int)(MT:Nat):Prop:=sx=sy/\sT=sx/\MT=a+b\/sx≠sy/\b<=a/\sT=sx/\MT=a-b\/sx≠sy/\a<b/\sT=sy/\MT=b-a
structure TC:Prop where
 shl:∀v (N:Nat) (z:Int) (s:Nat) w,aC 4 w v N->z=(s:Int)->s<=10000->CT 99 #[v,J z] w (qh 400 (N*2^s) w)
 add:∀v v' (N N':Nat) w,aC 400 w v N->aC 400 w v' N'->CT 163 #[v,v'] w (qh 1000 (N+N') w)
 sub:∀v v' (N N':Nat) w,aC 400 w v N->aC 400 w v' N'->N'<=N->CT 176 #[v,v'] w (qh 1000 (N-N') w)
 cmp:∀v v' (N N':Nat) w,aC 400 w v N->aC 400 w v' N'->QB 102 #[v,v'] w (J (fH N N'))
theorem tc:TC where
 shl:=fun v N z s w ⟨n,a1,a2⟩ hz hs=>by subst hz;exact dV ((fV a2 om s om).mono (fun e w' ⟨v,k,c1,c2,c3,c4⟩=>⟨v,k,c1,c2,om,c4⟩))
 add:=fun v v' N N' w ⟨n,a1,a2⟩ ⟨n',b1,b2⟩=>dV ((AA a2 om b2 om).mono (fun e w' ⟨v,k,c1,c2,c3,c4⟩=>⟨v,k,c1,c2,om,c4⟩))
 sub:=fun v v' N N' w ⟨n,a1,a2⟩ ⟨n',b1,b2⟩ h=>dV ((lK a2 om b2 om h).mono (fun e w' ⟨v,k,c1,c2,c3,c4⟩=>⟨v,k,c1,c2,om,c4⟩))
 cmp:=fun v v' N N' w ⟨n,a1,a2⟩ ⟨n',b1,b2⟩=>gV a2 om b2 om
theorem Gt(sx sy ex ey:Int)(bx kx cx gy ky cy:Nat)(Mx My A B:Nat)(HX:Hid (aC 4 w (aB bx kx cx) Mx))(HY:Hid (aC 4 w (aB gy ky cy) My))(x0:-4000<=ex)(x1:ex<=4000)(y0:-4000<=ey)(y1:ey<=4000)(hle:ex<=ey)(d:Nat)(hd:ey-ex=(d:Int))(hA:A=Mx)(hB:B=My*2^d)(hs:sx=sy):
  CT 204 #[O #[J sx,aB bx kx cx,J ex,V E],O #[J sy,aB gy ky cy,J ey,V E]] w fun e w'=>∃b k c,aC 1000 w' (aB b k c) (A+B)/\e=X (O #[J sx,aB b k c,J ex,V E])/\Gb w w':=by
 have HT:Hid TC:=tc;obtain⟨dz,hdz⟩:∃dz:Int,ey-ex=dz:=⟨_,rfl⟩;have u1:IntKind.i64.wrap (ey-ex)=dz:=by rw[hdz,IntKind.wrap_i64];omega
 have hdn:Hid (dz=(d:Int)):=by show _=_;omega
 have hd9:Hid (d<=10000):=by show _<=_;omega
 have hA':Hid (A=Mx):=hA;have hB':Hid (B=My*2^d):=hB;clear hd hdz hA hB;subst hs;go_enter func204,ntmps204;go_wp2_with (first
  |(go_at_call 99;with_reducible refine(TC.shl HT.out _ _ _ 0 _ (aC.gb HX.out Gb.g) om om).mono ?_;rintro e w1 ⟨bx1,Zf,Fp,hb0,rfl,ak⟩;have hbx:aC 400 w1 (.slice (some ⟨bx1,0,none⟩) Zf Fp) A:=(by rw[hA'.out];simpa using hb0);clear hb0;have:=ak.dX w;have:=ak.Kq w;have:=ak.uj w)
  |(go_at_call 99;with_reducible refine(TC.shl HT.out _ _ _ d _ (aC.gb HY.out Gb.g) (by exact hdn.out) hd9.out).mono ?_;rintro e w2 ⟨RF,Ze,TP,hb0,rfl,aA⟩;have hby:aC 400 w2 (.slice (some ⟨RF,0,none⟩) Ze TP) B:=(by rw[hB'.out];exact hb0);clear hb0;have:=aA.dX w;have:=aA.Kq w;have:=aA.uj w))
 go_region_held3 (fun w'=>aj w' w.heap.size 0 (J sx)/\aj w' (w.heap.size+1) 0 (J sx))
  (exact kZ)
  (first|(go_at_call 163;refine(TC.add HT.out _ _ A B _ (aC.gb hbx Gb.g) (aC.gb hby Gb.g)).mono ?_;rintro e w4 ⟨b4,k4,c4,hb4,rfl,aI⟩;have uo:=aI.uj w))
 all_goals go_wp2
 all_goals
  exact aDw
theorem Jv(sx sy ex ey:Int)(bx kx cx gy ky cy:Nat)(Mx My A B:Nat)(HX:Hid (aC 4 w (aB bx kx cx) Mx))(HY:Hid (aC 4 w (aB gy ky cy) My))(x0:-4000<=ex)(x1:ex<=4000)(y0:-4000<=ey)(y1:ey<=4000)(hle:ex<=ey)(d:Nat)(hd:ey-ex=(d:Int))(hA:A=Mx)(hB:B=My*2^d)(hs:sx≠sy)(hab:B<=A):
  CT 204 #[O #[J sx,aB bx kx cx,J ex,V E],O #[J sy,aB gy ky cy,J ey,V E]] w fun e w'=>∃b k c,aC 1000 w' (aB b k c) (A-B)/\e=X (O #[J sx,aB b k c,J ex,V E])/\Gb w w':=by
 have HT:Hid TC:=tc;obtain⟨dz,hdz⟩:∃dz:Int,ey-ex=dz:=⟨_,rfl⟩;have u1:IntKind.i64.wrap (ey-ex)=dz:=by rw[hdz,IntKind.wrap_i64];omega
 have hdn:Hid (dz=(d:Int)):=by show _=_;omega
 have hd9:Hid (d<=10000):=by show _<=_;omega
 have hA':Hid (A=Mx):=hA;have hB':Hid (B=My*2^d):=hB;clear hd hdz hA hB;have c1:(sx==sy)=E:=by simp[hs]
 have c2:Hid (B<=A):=hab;clear hab hs;go_enter func204,ntmps204;have c3:0<=fH A B:=by have:=c2.out;unfold fH;split<;>(try split)<;>omega
 generalize hq:fH A B=q at*
 have hq':Hid (fH A B=q):=hq;clear hq;go_wp2_with (first
  |(go_at_call 99;with_reducible refine(TC.shl HT.out _ _ _ 0 _ (aC.gb HX.out Gb.g) om om).mono ?_;rintro e w1 ⟨bx1,Zf,Fp,hb0,rfl,ak⟩;have hbx:aC 400 w1 (.slice (some ⟨bx1,0,none⟩) Zf Fp) A:=(by rw[hA'.out];simpa using hb0);clear hb0;have:=ak.dX w;have:=ak.Kq w;have:=ak.uj w)
  |(go_at_call 99;with_reducible refine(TC.shl HT.out _ _ _ d _ (aC.gb HY.out Gb.g) (by exact hdn.out) hd9.out).mono ?_;rintro e w2 ⟨RF,Ze,TP,hb0,rfl,aA⟩;have hby:aC 400 w2 (.slice (some ⟨RF,0,none⟩) Ze TP) B:=(by rw[hB'.out];exact hb0);clear hb0;have:=aA.dX w;have:=aA.Kq w;have:=aA.uj w)
  |(go_at_call 102;refine(TC.cmp HT.out _ _ A B _ (aC.gb hbx Gb.g) (aC.gb hby Gb.g)).mono ?_;rintro e w3 ⟨he,aF⟩;rw[hq'.out]at he;subst he;have:=aF.dX w;have:=aF.Kq w;have:=aF.uj w))
 go_region_held3 (fun w'=>aj w' w.heap.size 0 (J sx)/\aj w' (w.heap.size+1) 0 (J sy))
  (exact kZ)
  (first|(go_at_call 176;refine(TC.sub HT.out _ _ A B _ (aC.gb hbx Gb.g) (aC.gb hby Gb.g) c2.out).mono ?_;rintro e w4 ⟨b4,k4,c4,hb4,rfl,aI⟩;have uo:=aI.uj w))
 all_goals go_wp2
 all_goals
  exact aDw
theorem Ju(sx sy ex ey:Int)(bx kx cx gy ky cy:Nat)(Mx My A B:Nat)(HX:Hid (aC 4 w (aB bx kx cx) Mx))(HY:Hid (aC 4 w (aB gy ky cy) My))(x0:-4000<=ex)(x1:ex<=4000)(y0:-4000<=ey)(y1:ey<=4000)(hle:ex<=ey)(d:Nat)(hd:ey-ex=(d:Int))(hA:A=Mx)(hB:B=My*2^d)(hs:sx≠sy)(hab:A<B):
  CT 204 #[O #[J sx,aB bx kx cx,J ex,V E],O #[J sy,aB gy ky cy,J ey,V E]] w fun e w'=>∃b k c,aC 1000 w' (aB b k c) (B-A)/\e=X (O #[J sy,aB b k c,J ex,V E])/\Gb w w':=by
 have HT:Hid TC:=tc;obtain⟨dz,hdz⟩:∃dz:Int,ey-ex=dz:=⟨_,rfl⟩;have u1:IntKind.i64.wrap (ey-ex)=dz:=by rw[hdz,IntKind.wrap_i64];omega
 have hdn:Hid (dz=(d:Int)):=by show _=_;omega
 have hd9:Hid (d<=10000):=by show _<=_;omega
 have hA':Hid (A=Mx):=hA;have hB':Hid (B=My*2^d):=hB;clear hd hdz hA hB;have c1:(sx==sy)=E:=by simp[hs]
 have c2:Hid (A<B):=hab;clear hab hs;go_enter func204,ntmps204;have c3:fH A B<0:=by have:=c2.out;unfold fH;rw[if_pos (by omega)];omega
 generalize hq:fH A B=q at*
 have hq':Hid (fH A B=q):=hq;clear hq;go_wp2_with (first
  |(go_at_call 99;with_reducible refine(TC.shl HT.out _ _ _ 0 _ (aC.gb HX.out Gb.g) om om).mono ?_;rintro e w1 ⟨bx1,Zf,Fp,hb0,rfl,ak⟩;have hbx:aC 400 w1 (.slice (some ⟨bx1,0,none⟩) Zf Fp) A:=(by rw[hA'.out];simpa using hb0);clear hb0;have:=ak.dX w;have:=ak.Kq w;have:=ak.uj w)
  |(go_at_call 99;with_reducible refine(TC.shl HT.out _ _ _ d _ (aC.gb HY.out Gb.g) (by exact hdn.out) hd9.out).mono ?_;rintro e w2 ⟨RF,Ze,TP,hb0,rfl,aA⟩;have hby:aC 400 w2 (.slice (some ⟨RF,0,none⟩) Ze TP) B:=(by rw[hB'.out];exact hb0);clear hb0;have:=aA.dX w;have:=aA.Kq w;have:=aA.uj w)
  |(go_at_call 102;refine(TC.cmp HT.out _ _ A B _ (aC.gb hbx Gb.g) (aC.gb hby Gb.g)).mono ?_;rintro e w3 ⟨he,aF⟩;rw[hq'.out]at he;subst he;have:=aF.dX w;have:=aF.Kq w;have:=aF.uj w))
 go_region_held3 (fun w'=>aj w' w.heap.size 0 (J sx)/\aj w' (w.heap.size+1) 0 (J sy))
  (exact kZ)
  (first|(go_at_call 176;refine(TC.sub HT.out _ _ B A _ (aC.gb hby Gb.g) (aC.gb hbx Gb.g) (Nat.le_of_lt c2.out)).mono ?_;rintro e w4 ⟨b4,k4,c4,hb4,rfl,aI⟩;have uo:=aI.uj w))
 all_goals go_wp2
 all_goals
  refine bodyPost_ret (v:=O #[J sy,aB b4 k4 c4,J ex,V E]) (by simp[results,Tryz.results204,go_sem,uo]) rfl ⟨b4,k4,c4,?_,rfl,?_⟩
  ·exact hb4.Uw uo.1 uo.2.2.1 uo.2.2.2.2.1 uo.2.2.2.2.2.2.1
  ·exact Gb.g
theorem Gs(sx sy ex ey:Int)(bx kx cx gy ky cy:Nat)(Mx My A B:Nat)(HX:Hid (aC 4 w (aB bx kx cx) Mx))(HY:Hid (aC 4 w (aB gy ky cy) My))(x0:-4000<=ex)(x1:ex<=4000)(y0:-4000<=ey)(y1:ey<=4000)(hlt:ey<ex)(d:Nat)(hd:ex-ey=(d:Int))(hA:A=Mx*2^d)(hB:B=My)(hs:sx=sy):
  CT 204 #[O #[J sx,aB bx kx cx,J ex,V E],O #[J sy,aB gy ky cy,J ey,V E]] w fun e w'=>∃b k c,aC 1000 w' (aB b k c) (A+B)/\e=X (O #[J sx,aB b k c,J ey,V E])/\Gb w w':=by
 have HT:Hid TC:=tc;obtain⟨dz,hdz⟩:∃dz:Int,ex-ey=dz:=⟨_,rfl⟩;have u1:IntKind.i64.wrap (ex-ey)=dz:=by rw[hdz,IntKind.wrap_i64];omega
 have hdn:Hid (dz=(d:Int)):=by show _=_;omega
 have hd9:Hid (d<=10000):=by show _<=_;omega
 have hA':Hid (A=Mx*2^d):=hA;have hB':Hid (B=My):=hB;clear hd hdz hA hB;subst hs;go_enter func204,ntmps204;go_wp2_with (first
  |(go_at_call 99;with_reducible refine(TC.shl HT.out _ _ _ d _ (aC.gb HX.out Gb.g) (by exact hdn.out) hd9.out).mono ?_;rintro e w1 ⟨bx1,Zf,Fp,hb0,rfl,ak⟩;have hbx:aC 400 w1 (.slice (some ⟨bx1,0,none⟩) Zf Fp) A:=(by rw[hA'.out];exact hb0);clear hb0;have:=ak.dX w;have:=ak.Kq w;have:=ak.uj w)
  |(go_at_call 99;with_reducible refine(TC.shl HT.out _ _ _ 0 _ (aC.gb HY.out Gb.g) om om).mono ?_;rintro e w2 ⟨RF,Ze,TP,hb0,rfl,aA⟩;have hby:aC 400 w2 (.slice (some ⟨RF,0,none⟩) Ze TP) B:=(by rw[hB'.out];simpa using hb0);clear hb0;have:=aA.dX w;have:=aA.Kq w;have:=aA.uj w))
 go_region_held3 (fun w'=>aj w' w.heap.size 0 (J sx)/\aj w' (w.heap.size+1) 0 (J sx))
  (exact kZ)
  (first|(go_at_call 163;refine(TC.add HT.out _ _ A B _ (aC.gb hbx Gb.g) (aC.gb hby Gb.g)).mono ?_;rintro e w4 ⟨b4,k4,c4,hb4,rfl,aI⟩;have uo:=aI.uj w))
 all_goals go_wp2
 all_goals
  exact aDv
theorem Jt(sx sy ex ey:Int)(bx kx cx gy ky cy:Nat)(Mx My A B:Nat)(HX:Hid (aC 4 w (aB bx kx cx) Mx))(HY:Hid (aC 4 w (aB gy ky cy) My))(x0:-4000<=ex)(x1:ex<=4000)(y0:-4000<=ey)(y1:ey<=4000)(hlt:ey<ex)(d:Nat)(hd:ex-ey=(d:Int))(hA:A=Mx*2^d)(hB:B=My)(hs:sx≠sy)(hab:B<=A):
  CT 204 #[O #[J sx,aB bx kx cx,J ex,V E],O #[J sy,aB gy ky cy,J ey,V E]] w fun e w'=>∃b k c,aC 1000 w' (aB b k c) (A-B)/\e=X (O #[J sx,aB b k c,J ey,V E])/\Gb w w':=by
 have HT:Hid TC:=tc;obtain⟨dz,hdz⟩:∃dz:Int,ex-ey=dz:=⟨_,rfl⟩;have u1:IntKind.i64.wrap (ex-ey)=dz:=by rw[hdz,IntKind.wrap_i64];omega
 have hdn:Hid (dz=(d:Int)):=by show _=_;omega
 have hd9:Hid (d<=10000):=by show _<=_;omega
 have hA':Hid (A=Mx*2^d):=hA;have hB':Hid (B=My):=hB;clear hd hdz hA hB;have c1:(sx==sy)=E:=by simp[hs]
 have c2:Hid (B<=A):=hab;clear hab hs;go_enter func204,ntmps204;have c3:0<=fH A B:=by have:=c2.out;unfold fH;split<;>(try split)<;>omega
 generalize hq:fH A B=q at*
 have hq':Hid (fH A B=q):=hq;clear hq;go_wp2_with (first
  |(go_at_call 99;with_reducible refine(TC.shl HT.out _ _ _ d _ (aC.gb HX.out Gb.g) (by exact hdn.out) hd9.out).mono ?_;rintro e w1 ⟨bx1,Zf,Fp,hb0,rfl,ak⟩;have hbx:aC 400 w1 (.slice (some ⟨bx1,0,none⟩) Zf Fp) A:=(by rw[hA'.out];exact hb0);clear hb0;have:=ak.dX w;have:=ak.Kq w;have:=ak.uj w)
  |(go_at_call 99;with_reducible refine(TC.shl HT.out _ _ _ 0 _ (aC.gb HY.out Gb.g) om om).mono ?_;rintro e w2 ⟨RF,Ze,TP,hb0,rfl,aA⟩;have hby:aC 400 w2 (.slice (some ⟨RF,0,none⟩) Ze TP) B:=(by rw[hB'.out];simpa using hb0);clear hb0;have:=aA.dX w;have:=aA.Kq w;have:=aA.uj w)
  |(go_at_call 102;refine(TC.cmp HT.out _ _ A B _ (aC.gb hbx Gb.g) (aC.gb hby Gb.g)).mono ?_;rintro e w3 ⟨he,aF⟩;rw[hq'.out]at he;subst he;have:=aF.dX w;have:=aF.Kq w;have:=aF.uj w))
 go_region_held3 (fun w'=>aj w' w.heap.size 0 (J sx)/\aj w' (w.heap.size+1) 0 (J sy))
  (exact kZ)
  (first|(go_at_call 176;refine(TC.sub HT.out _ _ A B _ (aC.gb hbx Gb.g) (aC.gb hby Gb.g) c2.out).mono ?_;rintro e w4 ⟨b4,k4,c4,hb4,rfl,aI⟩;have uo:=aI.uj w))
 all_goals go_wp2
 all_goals
  exact aDv
theorem Js(sx sy ex ey:Int)(bx kx cx gy ky cy:Nat)(Mx My A B:Nat)(HX:Hid (aC 4 w (aB bx kx cx) Mx))(HY:Hid (aC 4 w (aB gy ky cy) My))(x0:-4000<=ex)(x1:ex<=4000)(y0:-4000<=ey)(y1:ey<=4000)(hlt:ey<ex)(d:Nat)(hd:ex-ey=(d:Int))(hA:A=Mx*2^d)(hB:B=My)(hs:sx≠sy)(hab:A<B):
  CT 204 #[O #[J sx,aB bx kx cx,J ex,V E],O #[J sy,aB gy ky cy,J ey,V E]] w fun e w'=>∃b k c,aC 1000 w' (aB b k c) (B-A)/\e=X (O #[J sy,aB b k c,J ey,V E])/\Gb w w':=by
 have HT:Hid TC:=tc;obtain⟨dz,hdz⟩:∃dz:Int,ex-ey=dz:=⟨_,rfl⟩;have u1:IntKind.i64.wrap (ex-ey)=dz:=by rw[hdz,IntKind.wrap_i64];omega
 have hdn:Hid (dz=(d:Int)):=by show _=_;omega
 have hd9:Hid (d<=10000):=by show _<=_;omega
 have hA':Hid (A=Mx*2^d):=hA;have hB':Hid (B=My):=hB;clear hd hdz hA hB;have c1:(sx==sy)=E:=by simp[hs]
 have c2:Hid (A<B):=hab;clear hab hs;go_enter func204,ntmps204;have c3:fH A B<0:=by have:=c2.out;unfold fH;rw[if_pos (by omega)];omega
 generalize hq:fH A B=q at*
 have hq':Hid (fH A B=q):=hq;clear hq;go_wp2_with (first
  |(go_at_call 99;with_reducible refine(TC.shl HT.out _ _ _ d _ (aC.gb HX.out Gb.g) (by exact hdn.out) hd9.out).mono ?_;rintro e w1 ⟨bx1,Zf,Fp,hb0,rfl,ak⟩;have hbx:aC 400 w1 (.slice (some ⟨bx1,0,none⟩) Zf Fp) A:=(by rw[hA'.out];exact hb0);clear hb0;have:=ak.dX w;have:=ak.Kq w;have:=ak.uj w)
  |(go_at_call 99;with_reducible refine(TC.shl HT.out _ _ _ 0 _ (aC.gb HY.out Gb.g) om om).mono ?_;rintro e w2 ⟨RF,Ze,TP,hb0,rfl,aA⟩;have hby:aC 400 w2 (.slice (some ⟨RF,0,none⟩) Ze TP) B:=(by rw[hB'.out];simpa using hb0);clear hb0;have:=aA.dX w;have:=aA.Kq w;have:=aA.uj w)
  |(go_at_call 102;refine(TC.cmp HT.out _ _ A B _ (aC.gb hbx Gb.g) (aC.gb hby Gb.g)).mono ?_;rintro e w3 ⟨he,aF⟩;rw[hq'.out]at he;subst he;have:=aF.dX w;have:=aF.Kq w;have:=aF.uj w))
 go_region_held3 (fun w'=>aj w' w.heap.size 0 (J sx)/\aj w' (w.heap.size+1) 0 (J sy))
  (exact kZ)
  (first|(go_at_call 176;refine(TC.sub HT.out _ _ B A _ (aC.gb hby Gb.g) (aC.gb hbx Gb.g) (Nat.le_of_lt c2.out)).mono ?_;rintro e w4 ⟨b4,k4,c4,hb4,rfl,aI⟩;have uo:=aI.uj w))
 all_goals go_wp2
 all_goals
  refine bodyPost_ret (v:=O #[J sy,aB b4 k4 c4,J ey,V E]) (by simp[results,Tryz.results204,go_sem,uo]) rfl ⟨b4,k4,c4,?_,rfl,?_⟩
  ·exact hb4.Uw uo.1 uo.2.2.1 uo.2.2.2.2.1 uo.2.2.2.2.2.2.1
  ·exact Gb.g
theorem Nb(sx sy ex ey:Int)(bx kx cx gy ky cy:Nat)(Mx My:Nat)(HX:aC 4 w (aB bx kx cx) Mx)(HY:aC 4 w (aB gy ky cy) My)(x0:-4000<=ex)(x1:ex<=4000)(y0:-4000<=ey)(y1:ey<=4000)(sT:Int)(MT:Nat)(hT:aEd sx sy (Mx*2^(ex-min ex ey).toNat) (My*2^(ey-min ex ey).toNat) sT MT):
  CT 204 #[O #[J sx,aB bx kx cx,J ex,V E],O #[J sy,aB gy ky cy,J ey,V E]] w fun e w'=>∃b k c,aC 1000 w' (aB b k c) MT/\e=X (O #[J sT,aB b k c,J (min ex ey),V E])/\Gb w w':=by
 by_cases h:ex<=ey
 ·rw[show min ex ey=ex by omega]at hT⊢
  rw[show(ex-ex).toNat =0 by omega,Nat.pow_zero,Nat.mul_one]at hT;rcases hT with⟨hs,rfl,rfl⟩|⟨hs,hab,rfl,rfl⟩|⟨hs,hab,rfl,rfl⟩
  ·exact Gt _ sy ex ey bx kx cx gy ky cy Mx My _ _ HX HY x0 x1 y0 y1 h (ey-ex).toNat om rfl rfl hs
  ·exact Jv _ sy ex ey bx kx cx gy ky cy Mx My _ _ HX HY x0 x1 y0 y1 h (ey-ex).toNat om rfl rfl hs hab
  ·exact Ju sx _ ex ey bx kx cx gy ky cy Mx My _ _ HX HY x0 x1 y0 y1 h (ey-ex).toNat om rfl rfl hs hab
 ·rw[show min ex ey=ey by omega]at hT⊢
  rw[show(ey-ey).toNat =0 by omega,Nat.pow_zero,Nat.mul_one]at hT;rcases hT with⟨hs,rfl,rfl⟩|⟨hs,hab,rfl,rfl⟩|⟨hs,hab,rfl,rfl⟩
  ·exact Gs _ sy ex ey bx kx cx gy ky cy Mx My _ _ HX HY x0 x1 y0 y1 om (ex-ey).toNat om rfl rfl hs
  ·exact Jt _ sy ex ey bx kx cx gy ky cy Mx My _ _ HX HY x0 x1 y0 y1 om (ex-ey).toNat om rfl rfl hs hab
  ·exact Js sx _ ex ey bx kx cx gy ky cy Mx My _ _ HX HY x0 x1 y0 y1 om (ex-ey).toNat om rfl rfl hs hab
theorem MK(h:rZ p mn mx fb sp one inf sg nan)(W:Int)(h0:0<=W)(h1:W<2*sg)(w:World):
  CT 89 #[iQ p mn mx,Y Z W] w fun e w'=>∃c s x g:Int,dY p mx one inf sg nan W c s x g/\e=X (aU s x c 0 g E 0)/\Gr w w':=by
 have HU:Hid (∀w,CT 156 #[iQ p mn mx,Y Z W] w fun e w'=>∃c s x g:Int,dY p mx one inf sg nan W c s x g/\e=X (eH c s x g)/\Gr w w'):=fun w=>OZ h W h0 h1 w;clear h;go_enter func89,ntmps89;go_wp2_with (go_at_call 156;refine(HU _).mono ?_;rintro e w1 ⟨c,s,x,g,hu,rfl,ak⟩;obtain⟨fP,Ws,xJ,Wq,WV,aAp,ar3,aAo,ar4,aAn,ar5,aFF,ar6,aFE⟩:=ak.yo (w.heap.size+1);have aAv:=nS fP;have aHn:=Hq Ws;have aAu:=nS xJ;have aHm:=Hq Wq;have aAt:=nS WV;have aHl:=Hq aAp;have aAs:=nS ar3;have aHk:=Hq aAo;have aAr:=nS ar4;have aHj:=Hq aAn;have aFH:=nS ar5;have aJq:=Hq aFF;have aFG:=nS ar6;have aJp:=Hq aFE);refine bodyPost_ret (v:=aU s x c 0 g E 0) (by simp[results,Tryz.results89,go_sem,aAv,aAu,aAt,aAs,aAr,aFH,aFG]) rfl ⟨c,s,x,g,hu,rfl,?_⟩;exact Gr.g
theorem Jf(h:rZ p mn mx fb sp one inf sg nan)(W:Int)(h0:2*sg<=W)(h1:W<18446744073709551616)(w:World):
  QR 89 #[iQ p mn mx,Y Z W] w (aU 0 0 4 0 0 E 0):=by
 have HU:KR 156 #[iQ p mn mx,Y Z W] (eH 4 0 0 0):=fun w=>KJ h W h0 h1 w;clear h;go_enter func89,ntmps89;go_wp2_with (go_at_call 156;refine ku (HU _) fun w1 ak=>?_;obtain⟨fP,Ws,xJ,Wq,WV,aAp,ar3,aAo,ar4,aAn,ar5,aFF,ar6,aFE⟩:=ak.yo (w.heap.size+1);have aAv:=nS fP;have aHn:=Hq Ws;have aAu:=nS xJ;have aHm:=Hq Wq;have aAt:=nS WV;have aHl:=Hq aAp;have aAs:=nS ar3;have aHk:=Hq aAo;have aAr:=nS ar4;have aHj:=Hq aAn;have aFH:=nS ar5;have aJq:=Hq aFF;have aFG:=nS ar6;have aJp:=Hq aFE);exact bI (by simp[results,Tryz.results89,go_sem,aAv,aAu,aAt,aAs,aAr,aFH,aFG])
theorem jV(p mn mx md nan f mode a b:Int)(HF:Hid (∀w',Gr w w'->QR 86 #[J f,J mode] w' (.tuple #[O #[J p,J mn,J mx,J md,Value.nilFunc],V E])))
  (HN:Gy p mn mx nan 1) (own:Nat):
  QR 133 #[J f,J mode,.func (.func own) #[] #[],Y Z a,Y Z b] w (aK nan 1):=by
 go_enter func133,ntmps133;go_wp2_with (first
  |(go_at_call 86;refine ku (HF _ Gr.g) fun w1 ak=>?_;have:=ak.aZ w)
  |(go_at_call 178;refine ku (HN _) fun w2 aA=>?_;have jk:=aA.aZ w))
 exact bI (by simp[results,Tryz.results133,go_sem,jk])
theorem JK(p mn mx md f:Int)(k own:Nat)(a b sx ex cx xh xl sy ey cy yh yl:Int)(tx ty:Bool)(HF:Hid (∀w',Gr w w'->mZ f md w' p mn mx k true))
  (HA:rY p mn mx a sx ex cx xh xl tx 0) (HB:rY p mn mx b sy ey cy yh yl ty 0) (Q:Int->Int->Int->Int->Int->Bool->Prop) (HC:Hid (∀w,CT 90 #[dP p mn mx md k,.func (.func own) #[] #[],aU sx ex cx xh xl tx 0,aU sy ey cy yh yl ty 0] w fun e w'=>∃os oe oc oh ol ot,Q os oe oc oh ol ot/\e=X (aU os oe oc oh ol ot 0)/\Gr w w'))
  (R:Int->Int->Prop) (HP:Hid (∀os oe oc oh ol ot w,Q os oe oc oh ol ot->CT 179 #[dP p mn mx md k,aU os oe oc oh ol ot 0] w (zW R w))):
  CT 133 #[J f,J md,.func (.func own) #[] #[],Y Z a,Y Z b] w (zW R w):=by
 go_enter func133,ntmps133;go_wp2_with (go_at_call 86;refine ku (HF _ Gr.g) fun w1 ak=>?_;have t_:=ak.aZ w;have hz1:=au t_.1);go_region_held3 (fun w'=>aj w' w1.heap.size 0 (J p)/\aj w' w1.heap.size 1 (J mn)/\aj w' w1.heap.size 2 (J mx)/\aj w' w1.heap.size 3 (J md)/\aj w' w1.heap.size 4 (.func (.func k) #[] #[]))
  (exact nR)
  (first
   |(go_at_call 89;first|(with_reducible refine ku (HA.out _) fun w2 aA=>?_;have:=aA.aZ w)|(with_reducible refine ku (HB.out _) fun w2 aA=>?_;have:=aA.aZ w))
   |(go_at_call 90;refine(HC _).mono ?_;rintro e w3 ⟨os,oe,oc,oh,ol,ot,hq,rfl,aF⟩;have:=aF.aZ w)
   |(go_at_call 179;refine(HP _ _ _ _ _ _ _ hq).mono ?_;rintro e w4 ⟨z,fl,hr,rfl,aI⟩;have NP:=aI.aZ w))
 all_goals go_wp2
 all_goals
  refine bodyPost_ret (v:=aK z fl) (by simp[results,Tryz.results133,go_sem,NP]) rfl ⟨z,fl,hr,rfl,?_⟩;exact Gr.g
theorem Q8(f mode a b:Int)(R:Int->Int->Prop)(HC:Hid (∀w',Gr w w'->CT 133 #[J f,J mode,.func (.func 209) #[] #[],Y Z a,Y Z b] w' (zW R w'))):
  CT 186 #[J f,J mode,Y Z a,Y Z b] w (zW R w):=by
 go_enter func186,ntmps186;go_wp2_with (go_at_call 133;refine(HC _ Gr.g).mono ?_;rintro e w1 ⟨z,fl,hr,rfl,ak⟩;have fP:=ak.aZ w);refine bodyPost_ret (v:=aK z fl) (by simp[results,Tryz.results186,go_sem,fP]) rfl ⟨z,fl,hr,rfl,?_⟩;exact Gr.g
theorem Q5(f mode a b:Int)(R:Int->Int->Prop)(HC:Hid (∀w',Gr w w'->CT 133 #[J f,J mode,.func (.func 181) #[] #[],Y Z a,Y Z b] w' (zW R w'))):
  CT 135 #[J f,J mode,Y Z a,Y Z b] w (zW R w):=by
 go_enter func135,ntmps135;go_wp2_with (go_at_call 133;refine(HC _ Gr.g).mono ?_;rintro e w1 ⟨z,fl,hr,rfl,ak⟩;have fP:=ak.aZ w);refine bodyPost_ret (v:=aK z fl) (by simp[results,Tryz.results135,go_sem,fP]) rfl ⟨z,fl,hr,rfl,?_⟩;exact Gr.g
theorem SV(f mode a b ca sa xa ga cb sb xb gb:Int)(HF:fM f mode a b true)(gJ:bC f a ca sa xa ga)(iJ:bC f b cb sb xb gb)(kY:bF ca sa xa ga E)(r_:bF cb sb xb gb E)(e1:ca=1)(e2:cb=1)(sp:Int)(a0:0<=sa)(a1:sa<=1)(b0:0<=sb)(b1:sb<=1)(hm1:(sa+sb).tmod 2=sp)(hm2:(sa+sb)%2=sp)(xq:Int)(rest:Bool)(m:Nat)(HM:Hid (∀w,CT 108 #[J f,eH 1 sa xa ga,eH 1 sb xb gb] w fun e w'=>∃bq kq qq,aC 8 w' (aB bq kq qq) m/\e=X (O #[J sp,aB bq kq qq,J xq,V rest])/\Gb w w'))(Q:Int->Int->Prop)(HR:Hid (∀v w,aC 8 w v m->CT 85 #[J f,J mode,O #[J sp,v,J xq,V rest]] w (Ey Q w)))(w:World):
  CT 45 #[J f,J mode,Y Z a,Y Z b] w (Ey Q w):=by
 subst e1 e2;go_enter func45,ntmps45;go_wp2_with (first
  |(go_at_call 94;refine kw (HF _) ?_)
  |(go_at_call 57;first|(with_reducible refine ku (gJ.out _) fun w1 ak=>?_;have gY:=ak.aZ w;have hz0:=au gY.1)|(with_reducible refine ku (iJ.out _) fun w2 aA=>?_;have jA:=aA.aZ w;have:=aA.J8 w1;have hz1:=au jA.1))
  |(go_at_call 95;first|(with_reducible refine ku (kY.out _) fun va aS=>?_;have:=aS.aZ w;have:=aS.dX w1;have:=aS.dX w2)|(with_reducible refine ku (r_.out _) fun vb bV=>?_;have:=bV.aZ w;have:=bV.dX w1;have:=bV.dX w2))
  |(go_at_call 108;refine(HM _).mono ?_;rintro e wm ⟨bq,kq,qq,hbq,rfl,kS⟩;have:=kS.aZ w)
  |(go_at_call 85;refine(HR _ _ hbq).mono ?_;rintro e w9 ⟨z,fl,hq,rfl,aV⟩;have iw:=aV.aZ w))
 refine bodyPost_ret (v:=aK z fl) (by simp[results,Tryz.results45,go_sem,iw]) rfl ⟨z,fl,hq,rfl,?_⟩;exact Gb.g
theorem aBY(h:aC K w (aB b k c) N)(hN:0<N):0<k:=by
 obtain⟨n,hn,hb⟩:=h;obtain⟨b',cap,e,_⟩:=hb.shape;have h2:=hb.1.iff;injection e with _ e2 _;have:n≠0:=fun h=>by have:=h2.1 h;omega
 omega
theorem KH{P:Prop}(h:P:=by
 go_enter func36,ntmps36;go_wp2_with (first
   |(go_at_call 80;first|(refine(HX _).mono ?_;rintro e w1 ⟨b,k,c,hb,rfl,ak⟩;have DK:=ak.aZ w;have hz1:=au DK.1;have hk1:=aBY hb hM)|(refine(HX _).mono ?_;rintro e w1 ⟨b,k,c,hb,rfl,ak⟩;have DK:=ak.aZ w;have hz1:=au DK.1;have hk1:=aBZ hb)|(refine(HX _).mono ?_;rintro e w1 ⟨b,k,c,hb,rfl,ak⟩;have DK:=ak.aZ w;have hz1:=au DK.1))
   |(go_at_call 81;refine kw (HFm _) ?_)
   |(go_at_call 82;refine kw (HWy _) ?_)
   |(go_at_call 85;refine(HR _ _ (aC.gb hb Gb.g)).mono ?_;rintro e w4 ⟨z,fl,hq,rfl,aI⟩;have iw:=aI.aZ w)
   |(go_at_call 83;refine ku (HL _) fun w9 aV=>?_;have iw:=aV.aZ w)
   |(go_at_call 84;refine ku (HL _) fun w9 aV=>?_;have iw:=aV.aZ w))
 first
   |(refine bodyPost_ret (v:=aK z fl) (by simp[results,Tryz.results36,go_sem,iw]) rfl ⟨z,fl,hq,rfl,?_⟩;exact Gb.g)
   |(exact dA (by simp[results,Tryz.results36,go_sem,iw]))):P:=h
theorem GN(f mode kind a s:Int)(M:Nat)(hM:0<M)(HX:Hid (∀w,CT 80 #[J kind,Y Z a] w fun e w'=>∃b k c,aC 2 w' (aB b k c) M/\e=X (.tuple #[O #[J s,aB b k c,J 0,V E],V true])/\Gb w w'))(HFm:KW 81 #[J f] (V true))(HWy:KW 82 #[J mode] (V true))(Q:Int->Int->Prop)(HR:Hid (∀v w,aC 2 w v M->CT 85 #[J f,J mode,O #[J s,v,J 0,V E]] w (Ey Q w)))(w:World):
  CT 36 #[J f,J mode,J kind,Y Z a] w (Ey Q w):=by
 exact KH
theorem aBZ(h:aC K w (aB b k c) 0):((k:Nat):Int)=0:=by
 obtain⟨n,hn,hb⟩:=h;obtain⟨b',cap,e,_⟩:=hb.shape;have:=hb.none rfl;injection e with _ e2 _;omega
theorem Ei(f mode kind a s z fl:Int)(M:Nat)(HX:Hid (∀w,CT 80 #[J kind,Y Z a] w fun e w'=>∃b k c,aC 2 w' (aB b k c) M/\e=X (.tuple #[O #[J s,aB b k c,J 0,V E],V E])/\Gb w w'))(HL:nH f z fl)(w:World):
  QB 36 #[J f,J mode,J kind,Y Z a] w (aK z fl):=by
 exact KH
theorem Py(f mode kind a s z fl:Int)(M:Nat)(HX:Hid (∀w,CT 80 #[J kind,Y Z a] w fun e w'=>∃b k c,aC 2 w' (aB b k c) M/\e=X (.tuple #[O #[J s,aB b k c,J 0,V E],V true])/\Gb w w'))(HFm:KW 81 #[J f] (V E))(HL:nH f z fl)(w:World):
  QB 36 #[J f,J mode,J kind,Y Z a] w (aK z fl):=by
 exact KH
theorem Px(f mode kind a s z fl:Int)(M:Nat)(HX:Hid (∀w,CT 80 #[J kind,Y Z a] w fun e w'=>∃b k c,aC 2 w' (aB b k c) M/\e=X (.tuple #[O #[J s,aB b k c,J 0,V E],V true])/\Gb w w'))(HFm:KW 81 #[J f] (V true))(HWy:KW 82 #[J mode] (V E))(HL:nH f z fl)(w:World):
  QB 36 #[J f,J mode,J kind,Y Z a] w (aK z fl):=by
 exact KH
theorem Pv(f mode kind a s z fl:Int)(M:Nat)(hM:M=0)(HX:Hid (∀w,CT 80 #[J kind,Y Z a] w fun e w'=>∃b k c,aC 2 w' (aB b k c) M/\e=X (.tuple #[O #[J s,aB b k c,J 0,V E],V true])/\Gb w w'))(HFm:KW 81 #[J f] (V true))(HWy:KW 82 #[J mode] (V true))(HL:m_ f 0 z fl)(w:World):
  QB 36 #[J f,J mode,J kind,Y Z a] w (aK z fl):=by
 subst hM;exact KH
