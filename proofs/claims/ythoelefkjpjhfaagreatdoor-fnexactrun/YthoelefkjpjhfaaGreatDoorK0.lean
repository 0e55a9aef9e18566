import Derived.Test.YthoelefkjpjhfaaGreatDoorG9
set_option linter.all false
set_option maxRecDepth 1000000
set_option maxHeartbeats 40000000
open Bool renaming false → E
open Go.Proofs.YthoelefkjpjhfaaGreatDoor renaming vI → J
open Go.Value renaming int → Y, agg → O, bool → V
open Go.IntKind renaming u64 → Z
open Go.Ending renaming returned → X
open Go.Proofs.Tryz
namespace Go.Proofs.YthoelefkjpjhfaaGreatDoor
open Go.RowKit
variable{w:World}{p mn mx fb sp one aI sg nan:Int}{K b k c N:Nat}
def aLl{P:Prop}(h:P:=by
 refine bodyPost_ret (v:=O #[J sx,aC b4 k4 c4,J ey,V E]) (by simp[results,Tryz.results226,go_sem,yJ]) rfl ⟨b4,k4,c4,?_,rfl,?_⟩
 .exact pz.st4 yJ.1 yJ.2.2.1 yJ.2.2.2.2.1 yJ.2.2.2.2.2.2.1
 .exact Gb.g):P:=h
def aLm{P:Prop}(h:P:=by
 refine bodyPost_ret (v:=O #[J sx,aC b4 k4 c4,J ex,V E]) (by simp[results,Tryz.results226,go_sem,yJ]) rfl ⟨b4,k4,c4,?_,rfl,?_⟩
 .exact pz.st4 yJ.1 yJ.2.2.1 yJ.2.2.2.2.1 yJ.2.2.2.2.2.2.1
 .exact Gb.g):P:=h
attribute [local go_sem] aA
def aL4(sx sy:Int)(a b:Nat)(sT:Int)(MT:Nat):Prop:=sx=sy/\sT=sx/\MT=a+b\/sx≠sy/\b<=a/\sT=sx/\MT=a-b\/sx≠sy/\a<b/\sT=sy/\MT=b-a
structure TC:Prop where
 shl:∀v (N:Nat) (z:Int) (s:Nat) w,aH 4 w v N->z=(s:Int)->s<=10000->CT 150 #[v,J z] w (sV 400 (N*2^s) w)
 add:∀v v' (N N':Nat) w,aH 400 w v N->aH 400 w v' N'->CT 227 #[v,v'] w (sV 1000 (N+N') w)
 sub:∀v v' (N N':Nat) w,aH 400 w v N->aH 400 w v' N'->N'<=N->CT 155 #[v,v'] w (sV 1000 (N-N') w)
 cmp:∀v v' (N N':Nat) w,aH 400 w v N->aH 400 w v' N'->QB 133 #[v,v'] w (J (iK N N'))
def tc:TC where
 shl:=λv N z s w ⟨n,a1,a2⟩ hz hs=>by subst hz;exact dY ((gX a2 om s om).mono (λe w' ⟨v,k,c1,c2,c3,c4⟩=>⟨v,k,c1,c2,om,c4⟩))
 add:=λv v' N N' w ⟨n,a1,a2⟩ ⟨n',b1,b2⟩=>dY ((FH a2 om b2 om).mono (λe w' ⟨v,k,c1,c2,c3,c4⟩=>⟨v,k,c1,c2,om,c4⟩))
 sub:=λv v' N N' w ⟨n,a1,a2⟩ ⟨n',b1,b2⟩ h=>dY ((nM a2 om b2 om h).mono (λe w' ⟨v,k,c1,c2,c3,c4⟩=>⟨v,k,c1,c2,om,c4⟩))
 cmp:=λv v' N N' w ⟨n,a1,a2⟩ ⟨n',b1,b2⟩=>jD a2 om b2 om
def Pm(sx sy ex ey:Int)(bx kx cx gy ky cy:Nat)(Mx My A B:Nat)(HX:Hid (aH 4 w (aC bx kx cx) Mx))(HY:Hid (aH 4 w (aC gy ky cy) My))(x0:-4000<=ex)(x1:ex<=4000)(y0:-4000<=ey)(y1:ey<=4000)(rG:ex<=ey)(d:Nat)(hd:ey-ex=(d:Int))(hA:A=Mx)(hB:B=My*2^d)(hs:sx=sy):
  CT 226 #[O #[J sx,aC bx kx cx,J ex,V E],O #[J sy,aC gy ky cy,J ey,V E]] w λe w'=>∃b k c,aH 1000 w' (aC b k c) (A+B)/\e=X (O #[J sx,aC b k c,J ex,V E])/\Gb w w':=by
 have HT:Hid TC:=tc;obtain⟨dz,D7⟩:=dK (ey-ex:Int);have u1:IntKind.i64.wrap (ey-ex)=dz:=by rw[D7,IntKind.wrap_i64];omega
 have hdn:Hid (dz=(d:Int)):=by show _=_;omega
 have hd9:Hid (d<=10000):=by show _<=_;omega
 have hA':Hid (A=Mx):=hA;have hB':Hid (B=My*2^d):=hB;clear hd D7 hA hB;subst hs;go_enter func226,ntmps226;go_wp2_with (first|(go_at_call 150;with_reducible refine(TC.shl HT.out _ _ _ 0 _ (aH.gb HX.out Gb.g) om om).mono ?_;rintro e w1 ⟨bx1,kx1,Uh,qV,rfl,ak⟩;have Qx:aH 400 w1 (.slice (some ⟨bx1,0,none⟩) kx1 Uh) A:=(by rw[hA'.out];simpa using qV);clear qV;have:=ak.fG w;have:=ak.Uc w;have:=ak.yF w)|(go_at_call 150;with_reducible refine(TC.shl HT.out _ _ _ d _ (aH.gb HY.out Gb.g) (by exact hdn.out) hd9.out).mono ?_;rintro e w2 ⟨XC,ky1,cy1,qV,rfl,aB⟩;have Dh:aH 400 w2 (.slice (some ⟨XC,0,none⟩) ky1 cy1) B:=(by rw[hB'.out];exact qV);clear qV;have:=aB.fG w;have:=aB.Uc w;have:=aB.yF w))
 go_region_held3 (λw'=>aA w' w.heap.size 0 (J sx)/\aA w' (w.heap.size+1) 0 (J sx))(exact nX)(first|(go_at_call 227;refine(TC.add HT.out _ _ A B _ (aH.gb Qx Gb.g) (aH.gb Dh Gb.g)).mono ?_;rintro e w4 ⟨b4,k4,c4,pz,rfl,aV⟩;have yJ:=aV.yF w))
 all_goals go_wp2
 all_goals
  exact aLm
def SV(sx sy ex ey:Int)(bx kx cx gy ky cy:Nat)(Mx My A B:Nat)(HX:Hid (aH 4 w (aC bx kx cx) Mx))(HY:Hid (aH 4 w (aC gy ky cy) My))(x0:-4000<=ex)(x1:ex<=4000)(y0:-4000<=ey)(y1:ey<=4000)(rG:ex<=ey)(d:Nat)(hd:ey-ex=(d:Int))(hA:A=Mx)(hB:B=My*2^d)(hs:sx≠sy)(xg:B<=A):
  CT 226 #[O #[J sx,aC bx kx cx,J ex,V E],O #[J sy,aC gy ky cy,J ey,V E]] w λe w'=>∃b k c,aH 1000 w' (aC b k c) (A-B)/\e=X (O #[J sx,aC b k c,J ex,V E])/\Gb w w':=by
 have HT:Hid TC:=tc;obtain⟨dz,D7⟩:=dK (ey-ex:Int);have u1:IntKind.i64.wrap (ey-ex)=dz:=by rw[D7,IntKind.wrap_i64];omega
 have hdn:Hid (dz=(d:Int)):=by show _=_;omega
 have hd9:Hid (d<=10000):=by show _<=_;omega
 have hA':Hid (A=Mx):=hA;have hB':Hid (B=My*2^d):=hB;clear hd D7 hA hB;have c1:(sx==sy)=E:=by simp[hs]
 have c2:Hid (B<=A):=xg;clear xg hs;go_enter func226,ntmps226;have c3:0<=iK A B:=by have:=c2.out;unfold iK;split<;>(try split)<;>omega
 generalize hq:iK A B=q at*
 have hq':Hid (iK A B=q):=hq;clear hq;go_wp2_with (first|(go_at_call 150;with_reducible refine(TC.shl HT.out _ _ _ 0 _ (aH.gb HX.out Gb.g) om om).mono ?_;rintro e w1 ⟨bx1,kx1,Uh,qV,rfl,ak⟩;have Qx:aH 400 w1 (.slice (some ⟨bx1,0,none⟩) kx1 Uh) A:=(by rw[hA'.out];simpa using qV);clear qV;have:=ak.fG w;have:=ak.Uc w;have:=ak.yF w)|(go_at_call 150;with_reducible refine(TC.shl HT.out _ _ _ d _ (aH.gb HY.out Gb.g) (by exact hdn.out) hd9.out).mono ?_;rintro e w2 ⟨XC,ky1,cy1,qV,rfl,aB⟩;have Dh:aH 400 w2 (.slice (some ⟨XC,0,none⟩) ky1 cy1) B:=(by rw[hB'.out];exact qV);clear qV;have:=aB.fG w;have:=aB.Uc w;have:=aB.yF w)|(go_at_call 133;refine(TC.cmp HT.out _ _ A B _ (aH.gb Qx Gb.g) (aH.gb Dh Gb.g)).mono ?_;rintro e w3 ⟨he,aK⟩;rw[hq'.out]at he;subst he;have:=aK.fG w;have:=aK.Uc w;have:=aK.yF w))
 go_region_held3 (λw'=>aA w' w.heap.size 0 (J sx)/\aA w' (w.heap.size+1) 0 (J sy))(exact nX)(first|(go_at_call 155;refine(TC.sub HT.out _ _ A B _ (aH.gb Qx Gb.g) (aH.gb Dh Gb.g) c2.out).mono ?_;rintro e w4 ⟨b4,k4,c4,pz,rfl,aV⟩;have yJ:=aV.yF w))
 all_goals go_wp2
 all_goals
  exact aLm
def SS(sx sy ex ey:Int)(bx kx cx gy ky cy:Nat)(Mx My A B:Nat)(HX:Hid (aH 4 w (aC bx kx cx) Mx))(HY:Hid (aH 4 w (aC gy ky cy) My))(x0:-4000<=ex)(x1:ex<=4000)(y0:-4000<=ey)(y1:ey<=4000)(rG:ex<=ey)(d:Nat)(hd:ey-ex=(d:Int))(hA:A=Mx)(hB:B=My*2^d)(hs:sx≠sy)(xg:A<B):
  CT 226 #[O #[J sx,aC bx kx cx,J ex,V E],O #[J sy,aC gy ky cy,J ey,V E]] w λe w'=>∃b k c,aH 1000 w' (aC b k c) (B-A)/\e=X (O #[J sy,aC b k c,J ex,V E])/\Gb w w':=by
 have HT:Hid TC:=tc;obtain⟨dz,D7⟩:=dK (ey-ex:Int);have u1:IntKind.i64.wrap (ey-ex)=dz:=by rw[D7,IntKind.wrap_i64];omega
 have hdn:Hid (dz=(d:Int)):=by show _=_;omega
 have hd9:Hid (d<=10000):=by show _<=_;omega
 have hA':Hid (A=Mx):=hA;have hB':Hid (B=My*2^d):=hB;clear hd D7 hA hB;have c1:(sx==sy)=E:=by simp[hs]
 have c2:Hid (A<B):=xg;clear xg hs;go_enter func226,ntmps226;have c3:iK A B<0:=by have:=c2.out;unfold iK;rw[if_pos (by omega)];omega
 generalize hq:iK A B=q at*
 have hq':Hid (iK A B=q):=hq;clear hq;go_wp2_with (first|(go_at_call 150;with_reducible refine(TC.shl HT.out _ _ _ 0 _ (aH.gb HX.out Gb.g) om om).mono ?_;rintro e w1 ⟨bx1,kx1,Uh,qV,rfl,ak⟩;have Qx:aH 400 w1 (.slice (some ⟨bx1,0,none⟩) kx1 Uh) A:=(by rw[hA'.out];simpa using qV);clear qV;have:=ak.fG w;have:=ak.Uc w;have:=ak.yF w)|(go_at_call 150;with_reducible refine(TC.shl HT.out _ _ _ d _ (aH.gb HY.out Gb.g) (by exact hdn.out) hd9.out).mono ?_;rintro e w2 ⟨XC,ky1,cy1,qV,rfl,aB⟩;have Dh:aH 400 w2 (.slice (some ⟨XC,0,none⟩) ky1 cy1) B:=(by rw[hB'.out];exact qV);clear qV;have:=aB.fG w;have:=aB.Uc w;have:=aB.yF w)|(go_at_call 133;refine(TC.cmp HT.out _ _ A B _ (aH.gb Qx Gb.g) (aH.gb Dh Gb.g)).mono ?_;rintro e w3 ⟨he,aK⟩;rw[hq'.out]at he;subst he;have:=aK.fG w;have:=aK.Uc w;have:=aK.yF w))
 go_region_held3 (λw'=>aA w' w.heap.size 0 (J sx)/\aA w' (w.heap.size+1) 0 (J sy))(exact nX)(first|(go_at_call 155;refine(TC.sub HT.out _ _ B A _ (aH.gb Dh Gb.g) (aH.gb Qx Gb.g) (Nat.le_of_lt c2.out)).mono ?_;rintro e w4 ⟨b4,k4,c4,pz,rfl,aV⟩;have yJ:=aV.yF w))
 all_goals go_wp2
 all_goals
  refine bodyPost_ret (v:=O #[J sy,aC b4 k4 c4,J ex,V E]) (by simp[results,Tryz.results226,go_sem,yJ]) rfl ⟨b4,k4,c4,?_,rfl,?_⟩
  .exact pz.st4 yJ.1 yJ.2.2.1 yJ.2.2.2.2.1 yJ.2.2.2.2.2.2.1
  .exact Gb.g
def Pj(sx sy ex ey:Int)(bx kx cx gy ky cy:Nat)(Mx My A B:Nat)(HX:Hid (aH 4 w (aC bx kx cx) Mx))(HY:Hid (aH 4 w (aC gy ky cy) My))(x0:-4000<=ex)(x1:ex<=4000)(y0:-4000<=ey)(y1:ey<=4000)(fF:ey<ex)(d:Nat)(hd:ex-ey=(d:Int))(hA:A=Mx*2^d)(hB:B=My)(hs:sx=sy):
  CT 226 #[O #[J sx,aC bx kx cx,J ex,V E],O #[J sy,aC gy ky cy,J ey,V E]] w λe w'=>∃b k c,aH 1000 w' (aC b k c) (A+B)/\e=X (O #[J sx,aC b k c,J ey,V E])/\Gb w w':=by
 have HT:Hid TC:=tc;obtain⟨dz,D7⟩:=dK (ex-ey:Int);have u1:IntKind.i64.wrap (ex-ey)=dz:=by rw[D7,IntKind.wrap_i64];omega
 have hdn:Hid (dz=(d:Int)):=by show _=_;omega
 have hd9:Hid (d<=10000):=by show _<=_;omega
 have hA':Hid (A=Mx*2^d):=hA;have hB':Hid (B=My):=hB;clear hd D7 hA hB;subst hs;go_enter func226,ntmps226;go_wp2_with (first|(go_at_call 150;with_reducible refine(TC.shl HT.out _ _ _ d _ (aH.gb HX.out Gb.g) (by exact hdn.out) hd9.out).mono ?_;rintro e w1 ⟨bx1,kx1,Uh,qV,rfl,ak⟩;have Qx:aH 400 w1 (.slice (some ⟨bx1,0,none⟩) kx1 Uh) A:=(by rw[hA'.out];exact qV);clear qV;have:=ak.fG w;have:=ak.Uc w;have:=ak.yF w)|(go_at_call 150;with_reducible refine(TC.shl HT.out _ _ _ 0 _ (aH.gb HY.out Gb.g) om om).mono ?_;rintro e w2 ⟨XC,ky1,cy1,qV,rfl,aB⟩;have Dh:aH 400 w2 (.slice (some ⟨XC,0,none⟩) ky1 cy1) B:=(by rw[hB'.out];simpa using qV);clear qV;have:=aB.fG w;have:=aB.Uc w;have:=aB.yF w))
 go_region_held3 (λw'=>aA w' w.heap.size 0 (J sx)/\aA w' (w.heap.size+1) 0 (J sx))(exact nX)(first|(go_at_call 227;refine(TC.add HT.out _ _ A B _ (aH.gb Qx Gb.g) (aH.gb Dh Gb.g)).mono ?_;rintro e w4 ⟨b4,k4,c4,pz,rfl,aV⟩;have yJ:=aV.yF w))
 all_goals go_wp2
 all_goals
  exact aLl
def SQ(sx sy ex ey:Int)(bx kx cx gy ky cy:Nat)(Mx My A B:Nat)(HX:Hid (aH 4 w (aC bx kx cx) Mx))(HY:Hid (aH 4 w (aC gy ky cy) My))(x0:-4000<=ex)(x1:ex<=4000)(y0:-4000<=ey)(y1:ey<=4000)(fF:ey<ex)(d:Nat)(hd:ex-ey=(d:Int))(hA:A=Mx*2^d)(hB:B=My)(hs:sx≠sy)(xg:B<=A):
  CT 226 #[O #[J sx,aC bx kx cx,J ex,V E],O #[J sy,aC gy ky cy,J ey,V E]] w λe w'=>∃b k c,aH 1000 w' (aC b k c) (A-B)/\e=X (O #[J sx,aC b k c,J ey,V E])/\Gb w w':=by
 have HT:Hid TC:=tc;obtain⟨dz,D7⟩:=dK (ex-ey:Int);have u1:IntKind.i64.wrap (ex-ey)=dz:=by rw[D7,IntKind.wrap_i64];omega
 have hdn:Hid (dz=(d:Int)):=by show _=_;omega
 have hd9:Hid (d<=10000):=by show _<=_;omega
 have hA':Hid (A=Mx*2^d):=hA;have hB':Hid (B=My):=hB;clear hd D7 hA hB;have c1:(sx==sy)=E:=by simp[hs]
 have c2:Hid (B<=A):=xg;clear xg hs;go_enter func226,ntmps226;have c3:0<=iK A B:=by have:=c2.out;unfold iK;split<;>(try split)<;>omega
 generalize hq:iK A B=q at*
 have hq':Hid (iK A B=q):=hq;clear hq;go_wp2_with (first|(go_at_call 150;with_reducible refine(TC.shl HT.out _ _ _ d _ (aH.gb HX.out Gb.g) (by exact hdn.out) hd9.out).mono ?_;rintro e w1 ⟨bx1,kx1,Uh,qV,rfl,ak⟩;have Qx:aH 400 w1 (.slice (some ⟨bx1,0,none⟩) kx1 Uh) A:=(by rw[hA'.out];exact qV);clear qV;have:=ak.fG w;have:=ak.Uc w;have:=ak.yF w)|(go_at_call 150;with_reducible refine(TC.shl HT.out _ _ _ 0 _ (aH.gb HY.out Gb.g) om om).mono ?_;rintro e w2 ⟨XC,ky1,cy1,qV,rfl,aB⟩;have Dh:aH 400 w2 (.slice (some ⟨XC,0,none⟩) ky1 cy1) B:=(by rw[hB'.out];simpa using qV);clear qV;have:=aB.fG w;have:=aB.Uc w;have:=aB.yF w)|(go_at_call 133;refine(TC.cmp HT.out _ _ A B _ (aH.gb Qx Gb.g) (aH.gb Dh Gb.g)).mono ?_;rintro e w3 ⟨he,aK⟩;rw[hq'.out]at he;subst he;have:=aK.fG w;have:=aK.Uc w;have:=aK.yF w))
 go_region_held3 (λw'=>aA w' w.heap.size 0 (J sx)/\aA w' (w.heap.size+1) 0 (J sy))(exact nX)(first|(go_at_call 155;refine(TC.sub HT.out _ _ A B _ (aH.gb Qx Gb.g) (aH.gb Dh Gb.g) c2.out).mono ?_;rintro e w4 ⟨b4,k4,c4,pz,rfl,aV⟩;have yJ:=aV.yF w))
 all_goals go_wp2
 all_goals
  exact aLl
def SN(sx sy ex ey:Int)(bx kx cx gy ky cy:Nat)(Mx My A B:Nat)(HX:Hid (aH 4 w (aC bx kx cx) Mx))(HY:Hid (aH 4 w (aC gy ky cy) My))(x0:-4000<=ex)(x1:ex<=4000)(y0:-4000<=ey)(y1:ey<=4000)(fF:ey<ex)(d:Nat)(hd:ex-ey=(d:Int))(hA:A=Mx*2^d)(hB:B=My)(hs:sx≠sy)(xg:A<B):
  CT 226 #[O #[J sx,aC bx kx cx,J ex,V E],O #[J sy,aC gy ky cy,J ey,V E]] w λe w'=>∃b k c,aH 1000 w' (aC b k c) (B-A)/\e=X (O #[J sy,aC b k c,J ey,V E])/\Gb w w':=by
 have HT:Hid TC:=tc;obtain⟨dz,D7⟩:=dK (ex-ey:Int);have u1:IntKind.i64.wrap (ex-ey)=dz:=by rw[D7,IntKind.wrap_i64];omega
 have hdn:Hid (dz=(d:Int)):=by show _=_;omega
 have hd9:Hid (d<=10000):=by show _<=_;omega
 have hA':Hid (A=Mx*2^d):=hA;have hB':Hid (B=My):=hB;clear hd D7 hA hB;have c1:(sx==sy)=E:=by simp[hs]
 have c2:Hid (A<B):=xg;clear xg hs;go_enter func226,ntmps226;have c3:iK A B<0:=by have:=c2.out;unfold iK;rw[if_pos (by omega)];omega
 generalize hq:iK A B=q at*
 have hq':Hid (iK A B=q):=hq;clear hq;go_wp2_with (first|(go_at_call 150;with_reducible refine(TC.shl HT.out _ _ _ d _ (aH.gb HX.out Gb.g) (by exact hdn.out) hd9.out).mono ?_;rintro e w1 ⟨bx1,kx1,Uh,qV,rfl,ak⟩;have Qx:aH 400 w1 (.slice (some ⟨bx1,0,none⟩) kx1 Uh) A:=(by rw[hA'.out];exact qV);clear qV;have:=ak.fG w;have:=ak.Uc w;have:=ak.yF w)|(go_at_call 150;with_reducible refine(TC.shl HT.out _ _ _ 0 _ (aH.gb HY.out Gb.g) om om).mono ?_;rintro e w2 ⟨XC,ky1,cy1,qV,rfl,aB⟩;have Dh:aH 400 w2 (.slice (some ⟨XC,0,none⟩) ky1 cy1) B:=(by rw[hB'.out];simpa using qV);clear qV;have:=aB.fG w;have:=aB.Uc w;have:=aB.yF w)|(go_at_call 133;refine(TC.cmp HT.out _ _ A B _ (aH.gb Qx Gb.g) (aH.gb Dh Gb.g)).mono ?_;rintro e w3 ⟨he,aK⟩;rw[hq'.out]at he;subst he;have:=aK.fG w;have:=aK.Uc w;have:=aK.yF w))
 go_region_held3 (λw'=>aA w' w.heap.size 0 (J sx)/\aA w' (w.heap.size+1) 0 (J sy))(exact nX)(first|(go_at_call 155;refine(TC.sub HT.out _ _ B A _ (aH.gb Dh Gb.g) (aH.gb Qx Gb.g) (Nat.le_of_lt c2.out)).mono ?_;rintro e w4 ⟨b4,k4,c4,pz,rfl,aV⟩;have yJ:=aV.yF w))
 all_goals go_wp2
 all_goals
  refine bodyPost_ret (v:=O #[J sy,aC b4 k4 c4,J ey,V E]) (by simp[results,Tryz.results226,go_sem,yJ]) rfl ⟨b4,k4,c4,?_,rfl,?_⟩
  .exact pz.st4 yJ.1 yJ.2.2.1 yJ.2.2.2.2.1 yJ.2.2.2.2.2.2.1
  .exact Gb.g
def Wy(sx sy ex ey:Int)(bx kx cx gy ky cy:Nat)(Mx My:Nat)(HX:aH 4 w (aC bx kx cx) Mx)(HY:aH 4 w (aC gy ky cy) My)(x0:-4000<=ex)(x1:ex<=4000)(y0:-4000<=ey)(y1:ey<=4000)(sT:Int)(MT:Nat)(hT:aL4 sx sy (Mx*2^(ex-min ex ey).toNat) (My*2^(ey-min ex ey).toNat) sT MT):
  CT 226 #[O #[J sx,aC bx kx cx,J ex,V E],O #[J sy,aC gy ky cy,J ey,V E]] w λe w'=>∃b k c,aH 1000 w' (aC b k c) MT/\e=X (O #[J sT,aC b k c,J (min ex ey),V E])/\Gb w w':=by
 by_cases h:ex<=ey
 .rw[(om:min ex ey=ex)]at hT⊢
  rw[(om:(ex-ex).toNat =0),Nat.pow_zero,Nat.mul_one]at hT;rcases hT with⟨hs,rfl,rfl⟩|⟨hs,xg,rfl,rfl⟩|⟨hs,xg,rfl,rfl⟩
  .exact Pm _ sy ex ey bx kx cx gy ky cy Mx My _ _ HX HY x0 x1 y0 y1 h (ey-ex).toNat om rfl rfl hs
  .exact SV _ sy ex ey bx kx cx gy ky cy Mx My _ _ HX HY x0 x1 y0 y1 h (ey-ex).toNat om rfl rfl hs xg
  .exact SS sx _ ex ey bx kx cx gy ky cy Mx My _ _ HX HY x0 x1 y0 y1 h (ey-ex).toNat om rfl rfl hs xg
 .rw[(om:min ex ey=ey)]at hT⊢
  rw[(om:(ey-ey).toNat =0),Nat.pow_zero,Nat.mul_one]at hT;rcases hT with⟨hs,rfl,rfl⟩|⟨hs,xg,rfl,rfl⟩|⟨hs,xg,rfl,rfl⟩
  .exact Pj _ sy ex ey bx kx cx gy ky cy Mx My _ _ HX HY x0 x1 y0 y1 om (ex-ey).toNat om rfl rfl hs
  .exact SQ _ sy ex ey bx kx cx gy ky cy Mx My _ _ HX HY x0 x1 y0 y1 om (ex-ey).toNat om rfl rfl hs xg
  .exact SN sx _ ex ey bx kx cx gy ky cy Mx My _ _ HX HY x0 x1 y0 y1 om (ex-ey).toNat om rfl rfl hs xg
def VX(h:wQ p mn mx fb sp one aI sg nan)(W:Int)(h0:0<=W)(h1:W<2*sg)(w:World):
  CT 174 #[jX p mn mx,Y Z W] w λe w'=>∃c s x g:Int,fV p mx one aI sg nan W c s x g/\e=X (aU s x c 0 g E 0)/\Gr w w':=by
 have HU:Hid (∀w,CT 241 #[jX p mn mx,Y Z W] w λe w'=>∃c s x g:Int,fV p mx one aI sg nan W c s x g/\e=X (d_ c s x g)/\Gr w w'):=λw=>Yl h W h0 h1 w;clear h;go_enter func174,ntmps174;go_wp2_with (go_at_call 241;refine(HU _).mono ?_;rintro e w1 ⟨c,s,x,g,hu,rfl,ak⟩;obtain⟨gG,aHH,Di,aHG,ar2,aHF,ar3,aHE,ar4,aHD,ar5,aN3,ar6,aN2⟩:=ak.yo (w.heap.size+1);have aHM:=dU gG;have aQt:=Qm aHH;have aHL:=dU Di;have aQs:=Qm aHG;have aHK:=dU ar2;have aQr:=Qm aHF;have aHJ:=dU ar3;have aQq:=Qm aHE;have aHI:=dU ar4;have aQp:=Qm aHD;have aN5:=dU ar5;have aTa:=Qm aN3;have aN4:=dU ar6;have aS9:=Qm aN2);refine bodyPost_ret (v:=aU s x c 0 g E 0) (by simp[results,Tryz.results174,go_sem,aHM,aHL,aHK,aHJ,aHI,aN5,aN4]) rfl ⟨c,s,x,g,hu,rfl,?_⟩;exact Gr.g
def Sl(h:wQ p mn mx fb sp one aI sg nan)(W:Int)(h0:2*sg<=W)(h1:aG W)(w:World):
  QR 174 #[jX p mn mx,Y Z W] w (aU 0 0 4 0 0 E 0):=by
 have HU:KR 241 #[jX p mn mx,Y Z W] (d_ 4 0 0 0):=λw=>Ux h W h0 h1 w;clear h;go_enter func174,ntmps174;go_wp2_with (go_at_call 241;refine ku (HU _) λw1 ak=>?_;obtain⟨gG,aHH,Di,aHG,ar2,aHF,ar3,aHE,ar4,aHD,ar5,aN3,ar6,aN2⟩:=ak.yo (w.heap.size+1);have aHM:=dU gG;have aQt:=Qm aHH;have aHL:=dU Di;have aQs:=Qm aHG;have aHK:=dU ar2;have aQr:=Qm aHF;have aHJ:=dU ar3;have aQq:=Qm aHE;have aHI:=dU ar4;have aQp:=Qm aHD;have aN5:=dU ar5;have aTa:=Qm aN3;have aN4:=dU ar6;have aS9:=Qm aN2);exact bW (by simp[results,Tryz.results174,go_sem,aHM,aHL,aHK,aHJ,aHI,aN5,aN4])
def j_(p mn mx md nan f aj a b:Int)(HF:Hid (∀w',Gr w w'->QR 170 #[J f,J aj] w' (.tuple #[O #[J p,J mn,J mx,J md,Value.nilFunc],V E])))
  (HN:F8 p mn mx nan 1) (own:Nat):
  QR 81 #[J f,J aj,.func (.func own) #[] #[],Y Z a,Y Z b] w (aP nan 1):=by
 go_enter func81,ntmps81;go_wp2_with (first|(go_at_call 170;refine ku (HF _ Gr.g) λw1 ak=>?_;have:=ak.bG w)|(go_at_call 171;refine ku (HN _) λw2 aB=>?_;have jT:=aB.bG w))
 exact bW (by simp[results,Tryz.results81,go_sem,jT])
def TS(p mn mx md f:Int)(k own:Nat)(a b sx ex cx xh xl sy ey cy yh yl:Int)(tx ty:Bool)(HF:Hid (∀w',Gr w w'->rV f md w' p mn mx k true))
  (HA:pJ p mn mx a sx ex cx xh xl tx 0) (HB:pJ p mn mx b sy ey cy yh yl ty 0) (Q:Int->Int->Int->Int->Int->Bool->Prop) (HC:Hid (∀w,CT 173 #[dN p mn mx md k,.func (.func own) #[] #[],aU sx ex cx xh xl tx 0,aU sy ey cy yh yl ty 0] w λe w'=>∃os oe oc oh ol ot,Q os oe oc oh ol ot/\e=X (aU os oe oc oh ol ot 0)/\Gr w w'))
  (R:Int->Int->Prop) (HP:Hid (∀os oe oc oh ol ot w,Q os oe oc oh ol ot->CT 172 #[dN p mn mx md k,aU os oe oc oh ol ot 0] w (vS R w))):
  CT 81 #[J f,J md,.func (.func own) #[] #[],Y Z a,Y Z b] w (vS R w):=by
 go_enter func81,ntmps81;go_wp2_with (go_at_call 170;refine ku (HF _ Gr.g) λw1 ak=>?_;have wC:=ak.bG w;have iR:=au wC.1);go_region_held3 (λw'=>rC w' w1.heap.size 0 1 2 3 4 (J p) (J mn) (J mx) (J md) (.func (.func k) #[] #[]))(exact o8)(first|(go_at_call 174;first|(with_reducible refine ku (HA.out _) λw2 aB=>?_;have:=aB.bG w)|(with_reducible refine ku (HB.out _) λw2 aB=>?_;have:=aB.bG w))|(go_at_call 173;refine(HC _).mono ?_;rintro e w3 ⟨os,oe,oc,oh,ol,ot,hq,rfl,aK⟩;have:=aK.bG w)|(go_at_call 172;refine(HP _ _ _ _ _ _ _ hq).mono ?_;rintro e w4 ⟨z,fl,hr,rfl,aV⟩;have PE:=aV.bG w))
 all_goals go_wp2
 all_goals
  refine bodyPost_ret (v:=aP z fl) (by simp[results,Tryz.results81,go_sem,PE]) rfl ⟨z,fl,hr,rfl,?_⟩;exact Gr.g
def ZR(f aj a b:Int)(R:Int->Int->Prop)(HC:Hid (∀w',Gr w w'->CT 81 #[J f,J aj,.func (.func 82) #[] #[],Y Z a,Y Z b] w' (vS R w'))):
  CT 26 #[J f,J aj,Y Z a,Y Z b] w (vS R w):=by
 go_enter func26,ntmps26;go_wp2_with (go_at_call 81;refine(HC _ Gr.g).mono ?_;rintro e w1 ⟨z,fl,hr,rfl,ak⟩;have gG:=ak.bG w);refine bodyPost_ret (v:=aP z fl) (by simp[results,Tryz.results26,go_sem,gG]) rfl ⟨z,fl,hr,rfl,?_⟩;exact Gr.g
def ZP(f aj a b:Int)(R:Int->Int->Prop)(HC:Hid (∀w',Gr w w'->CT 81 #[J f,J aj,.func (.func 84) #[] #[],Y Z a,Y Z b] w' (vS R w'))):
  CT 28 #[J f,J aj,Y Z a,Y Z b] w (vS R w):=by
 go_enter func28,ntmps28;go_wp2_with (go_at_call 81;refine(HC _ Gr.g).mono ?_;rintro e w1 ⟨z,fl,hr,rfl,ak⟩;have gG:=ak.bG w);refine bodyPost_ret (v:=aP z fl) (by simp[results,Tryz.results28,go_sem,gG]) rfl ⟨z,fl,hr,rfl,?_⟩;exact Gr.g
def aAY(f aj a b ca sa xa ga cb sb xb gb:Int)(HF:dG f aj a b true)(eH:bP f a ca sa xa ga)(fP:bP f b cb sb xb gb)(jk:bQ ca sa xa ga E)(lD:bQ cb sb xb gb E)(e1:ca=1)(e2:cb=1)(sp:Int)(a0:0<=sa)(a1:sa<=1)(b0:0<=sb)(b1:sb<=1)(AU:(sa+sb).tmod 2=sp)(JI:(sa+sb)%2=sp)(xq:Int)(rest:Bool)(m:Nat)(HM:Hid (∀w,CT 149 #[J f,d_ 1 sa xa ga,d_ 1 sb xb gb] w λe w'=>∃bq kq qq,aH 8 w' (aC bq kq qq) m/\e=X (O #[J sp,aC bq kq qq,J xq,V rest])/\Gb w w'))(Q:Int->Int->Prop)(HR:Hid (∀v w,aH 8 w v m->CT 138 #[J f,J aj,O #[J sp,v,J xq,V rest]] w (Dy Q w)))(w:World):
  CT 66 #[J f,J aj,Y Z a,Y Z b] w (Dy Q w):=by
 subst e1 e2;go_enter func66,ntmps66;go_wp2_with (first|(go_at_call 139;refine kw (HF _) ?_)|(go_at_call 126;first|(with_reducible refine ku (eH.out _) λw1 ak=>?_;have iO:=ak.bG w;have lF:=au iO.1)|(with_reducible refine ku (fP.out _) λw2 aB=>?_;have jw:=aB.bG w;have:=aB.Ko w1;have iR:=au jw.1))|(go_at_call 140;first|(with_reducible refine ku (jk.out _) λva aO=>?_;have:=aO.bG w;have:=aO.fG w1;have:=aO.fG w2)|(with_reducible refine ku (lD.out _) λvb bC=>?_;have:=bC.bG w;have:=bC.fG w1;have:=bC.fG w2))|(go_at_call 149;refine(HM _).mono ?_;rintro e wm ⟨bq,kq,qq,hbq,rfl,fE⟩;have:=fE.bG w)|(go_at_call 138;refine(HR _ _ hbq).mono ?_;rintro e w9 ⟨z,fl,hq,rfl,bM⟩;have iQ:=bM.bG w))
 refine bodyPost_ret (v:=aP z fl) (by simp[results,Tryz.results66,go_sem,iQ]) rfl ⟨z,fl,hq,rfl,?_⟩;exact Gb.g
def aJx(h:aH K w (aC b k c) N)(hN:0<N):0<k:=by
 obtain⟨n,hn,hb⟩:=h;obtain⟨b',cap,e,_⟩:=hb.shape;have h2:=hb.1.iff;injection e with _ e2 _;have:n≠0:=λh=>by have:=h2.1 h;omega
 omega
def Uu{P:Prop}(h:P:=by
 go_enter func60,ntmps60;go_wp2_with (first|(go_at_call 58;first|(refine(HX _).mono ?_;rintro e w1 ⟨b,k,c,hb,rfl,ak⟩;have Jp:=ak.bG w;have iR:=au Jp.1;have jB:=aJx hb hM)|(refine(HX _).mono ?_;rintro e w1 ⟨b,k,c,hb,rfl,ak⟩;have Jp:=ak.bG w;have iR:=au Jp.1;have jB:=aJy hb)|(refine(HX _).mono ?_;rintro e w1 ⟨b,k,c,hb,rfl,ak⟩;have Jp:=ak.bG w;have iR:=au Jp.1))|(go_at_call 50;refine kw (Kq _) ?_)|(go_at_call 135;refine kw (QM _) ?_)|(go_at_call 138;refine(HR _ _ (aH.gb hb Gb.g)).mono ?_;rintro e w4 ⟨z,fl,hq,rfl,aV⟩;have iQ:=aV.bG w)|(go_at_call 136;refine ku (HL _) λw9 bM=>?_;have iQ:=bM.bG w)|(go_at_call 137;refine ku (HL _) λw9 bM=>?_;have iQ:=bM.bG w))
 first|(refine bodyPost_ret (v:=aP z fl) (by simp[results,Tryz.results60,go_sem,iQ]) rfl ⟨z,fl,hq,rfl,?_⟩;exact Gb.g)|(exact dI (by simp[results,Tryz.results60,go_sem,iQ]))):P:=h
def aCo(f aj aF a s:Int)(M:Nat)(hM:0<M)(HX:Hid (∀w,CT 58 #[J aF,Y Z a] w λe w'=>∃b k c,aH 2 w' (aC b k c) M/\e=X (.tuple #[O #[J s,aC b k c,J 0,V E],V true])/\Gb w w'))(Kq:KW 50 #[J f] (V true))(QM:lV aj true)(Q:Int->Int->Prop)(HR:Hid (∀v w,aH 2 w v M->CT 138 #[J f,J aj,O #[J s,v,J 0,V E]] w (Dy Q w)))(w:World):
  CT 60 #[J f,J aj,J aF,Y Z a] w (Dy Q w):=by
 exact Uu
def aJy(h:aH K w (aC b k c) 0):((k:Nat):Int)=0:=by
 obtain⟨n,hn,hb⟩:=h;obtain⟨b',cap,e,_⟩:=hb.shape;have:=hb.none rfl;injection e with _ e2 _;omega
def LC(f aj aF a s z fl:Int)(M:Nat)(HX:Hid (∀w,CT 58 #[J aF,Y Z a] w λe w'=>∃b k c,aH 2 w' (aC b k c) M/\e=X (.tuple #[O #[J s,aC b k c,J 0,V E],V E])/\Gb w w'))(HL:oJ f z fl)(w:World):
  QB 60 #[J f,J aj,J aF,Y Z a] w (aP z fl):=by
 exact Uu
def YX(f aj aF a s z fl:Int)(M:Nat)(HX:Hid (∀w,CT 58 #[J aF,Y Z a] w λe w'=>∃b k c,aH 2 w' (aC b k c) M/\e=X (.tuple #[O #[J s,aC b k c,J 0,V E],V true])/\Gb w w'))(Kq:KW 50 #[J f] (V E))(HL:oJ f z fl)(w:World):
  QB 60 #[J f,J aj,J aF,Y Z a] w (aP z fl):=by
 exact Uu
def YW(f aj aF a s z fl:Int)(M:Nat)(HX:Hid (∀w,CT 58 #[J aF,Y Z a] w λe w'=>∃b k c,aH 2 w' (aC b k c) M/\e=X (.tuple #[O #[J s,aC b k c,J 0,V E],V true])/\Gb w w'))(Kq:KW 50 #[J f] (V true))(QM:lV aj E)(HL:oJ f z fl)(w:World):
  QB 60 #[J f,J aj,J aF,Y Z a] w (aP z fl):=by
 exact Uu
def YV(f aj aF a s z fl:Int)(M:Nat)(hM:M=0)(HX:Hid (∀w,CT 58 #[J aF,Y Z a] w λe w'=>∃b k c,aH 2 w' (aC b k c) M/\e=X (.tuple #[O #[J s,aC b k c,J 0,V E],V true])/\Gb w w'))(Kq:KW 50 #[J f] (V true))(QM:lV aj true)(HL:yG f 0 z fl)(w:World):
  QB 60 #[J f,J aj,J aF,Y Z a] w (aP z fl):=by
 subst hM;exact Uu
