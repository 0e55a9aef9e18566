import Derived.Test.YthoelefkjpjhfaaGreatDoorG9
set_option linter.all false
set_option maxRecDepth 1000000
set_option maxHeartbeats 40000000
open Bool renaming false → E
open Go.Proofs.YthoelefkjpjhfaaGreatDoor renaming vI → J
open Go.Value renaming int → Y, agg → O, bool → V
open Go.IntKind renaming u64 → Z
open Go.Ending renaming returned → X
open Go.Proofs.Tryz
namespace Go.Proofs.YthoelefkjpjhfaaGreatDoor
open Go.RowKit
variable {w:ak}{p mn mx fb sp one aN sg nan:Int}{K b k c N:Nat}
def aMR{P:Prop}(h:P:=by
 refine gY (v:=O #[J sx,aF b4 k4 c4,J ey,V E]) (by simp[results,results226,go_sem,AB]) rfl ⟨b4,k4,c4,?_,rfl,?_⟩
 .exact rE.st4 AB.1 AB.2.2.1 AB.2.2.2.2.1 AB.2.2.2.2.2.2.1
 .exact Gb.g):P:=h
def aMS{P:Prop}(h:P:=by
 refine gY (v:=O #[J sx,aF b4 k4 c4,J ex,V E]) (by simp[results,results226,go_sem,AB]) rfl ⟨b4,k4,c4,?_,rfl,?_⟩
 .exact rE.st4 AB.1 AB.2.2.1 AB.2.2.2.2.1 AB.2.2.2.2.2.2.1
 .exact Gb.g):P:=h
attribute [local go_sem] aB
def aNE(sx sy:Int)(a b:Nat)(sT:Int)(MT:Nat):Prop:=sx=sy/\sT=sx/\MT=a+b\/sx≠sy/\b<=a/\sT=sx/\MT=a-b\/sx≠sy/\a<b/\sT=sy/\MT=b-a
structure TC:Prop where
 shl:∀v (N:Nat) (z:Int) (s:Nat) w,aK 4 w v N->z=(s:Int)->s<=10000->CT 150 #[v,J z] w (vO 400 (N*2^s) w)
 add:∀v v' (N N':Nat) w,aK 400 w v N->aK 400 w v' N'->CT 227 #[v,v'] w (vO 1000 (N+N') w)
 sub:∀v v' (N N':Nat) w,aK 400 w v N->aK 400 w v' N'->N'<=N->CT 155 #[v,v'] w (vO 1000 (N-N') w)
 cmp:∀v v' (N N':Nat) w,aK 400 w v N->aK 400 w v' N'->QB 133 #[v,v'] w (J (jl N N'))
def tc:TC where
 shl:=λv N z s w ⟨n,a1,a2⟩ hz hs=>by subst hz;exact fE ((iM a2 om s om).mono (λe w' ⟨v,k,c1,c2,c3,c4⟩=>⟨v,k,c1,c2,om,c4⟩))
 add:=λv v' N N' w ⟨n,a1,a2⟩ ⟨n',b1,b2⟩=>fE ((Ik a2 om b2 om).mono (λe w' ⟨v,k,c1,c2,c3,c4⟩=>⟨v,k,c1,c2,om,c4⟩))
 sub:=λv v' N N' w ⟨n,a1,a2⟩ ⟨n',b1,b2⟩ h=>fE ((pJ a2 om b2 om h).mono (λe w' ⟨v,k,c1,c2,c3,c4⟩=>⟨v,k,c1,c2,om,c4⟩))
 cmp:=λv v' N N' w ⟨n,a1,a2⟩ ⟨n',b1,b2⟩=>kM a2 om b2 om
def Rh(sx sy ex ey:Int)(bx kx cx gy ky cy:Nat)(Mx My A B:Nat)(HX:Hid (aK 4 w (aF bx kx cx) Mx))(HY:Hid (aK 4 w (aF gy ky cy) My))(x0:-4000<=ex)(x1:ex<=4000)(y0:-4000<=ey)(y1:ey<=4000)(uz:ex<=ey)(d:Nat)(hd:ey-ex=(d:Int))(hA:A=Mx)(hB:B=My*2^d)(hs:sx=sy):
  CT 226 #[O #[J sx,aF bx kx cx,J ex,V E],O #[J sy,aF gy ky cy,J ey,V E]] w λe w'=>∃b k c,aK 1000 w' (aF b k c) (A+B)/\e=X (O #[J sx,aF b k c,J ex,V E])/\Gb w w':=by
 have HT:Hid TC:=tc;obtain⟨dz,FP⟩:=dP (ey-ex:Int);have u1:IntKind.i64.wrap (ey-ex)=dz:=by rw[FP,dI];omega
 have hdn:Hid (dz=(d:Int)):=by show _=_;omega
 have hd9:Hid (d<=10000):=by show _<=_;omega
 have hA':Hid (A=Mx):=hA;have ZN:Hid (B=My*2^d):=hB;clear hd FP hA hB;subst hs;go_enter func226,ntmps226;go_wp2_with (first|(go_at_call 150;with_reducible refine(TC.shl HT.out _ _ _ 0 _ (aK.gb HX.out Gb.g) om om).mono ?_;rintro e w1 ⟨bx1,kx1,V7,t_,rfl,au⟩;have Tf:aK 400 w1 (.slice (some ⟨bx1,0,none⟩) kx1 V7) A:=(by rw[hA'.out];simpa using t_);clear t_;have:=au.f_ w;have:=au.VZ w;have:=au.Aq w)|(go_at_call 150;with_reducible refine(TC.shl HT.out _ _ _ d _ (aK.gb HY.out Gb.g) (by exact hdn.out) hd9.out).mono ?_;rintro e w2 ⟨Zf,ky1,cy1,t_,rfl,aC⟩;have EL:aK 400 w2 (.slice (some ⟨Zf,0,none⟩) ky1 cy1) B:=(by rw[ZN.out];exact t_);clear t_;have:=aC.f_ w;have:=aC.VZ w;have:=aC.Aq w))
 go_region_held3 (λw'=>aB w' w.heap.size 0 (J sx)/\aB w' (w.heap.size+1) 0 (J sx))(exact qj)(first|(go_at_call 227;refine(TC.add HT.out _ _ A B _ (aK.gb Tf Gb.g) (aK.gb EL Gb.g)).mono ?_;rintro e w4 ⟨b4,k4,c4,rE,rfl,bg⟩;have AB:=bg.Aq w))
 all_goals go_wp2
 all_goals
  exact aMS
def Ve(sx sy ex ey:Int)(bx kx cx gy ky cy:Nat)(Mx My A B:Nat)(HX:Hid (aK 4 w (aF bx kx cx) Mx))(HY:Hid (aK 4 w (aF gy ky cy) My))(x0:-4000<=ex)(x1:ex<=4000)(y0:-4000<=ey)(y1:ey<=4000)(uz:ex<=ey)(d:Nat)(hd:ey-ex=(d:Int))(hA:A=Mx)(hB:B=My*2^d)(hs:sx≠sy)(zB:B<=A):
  CT 226 #[O #[J sx,aF bx kx cx,J ex,V E],O #[J sy,aF gy ky cy,J ey,V E]] w λe w'=>∃b k c,aK 1000 w' (aF b k c) (A-B)/\e=X (O #[J sx,aF b k c,J ex,V E])/\Gb w w':=by
 have HT:Hid TC:=tc;obtain⟨dz,FP⟩:=dP (ey-ex:Int);have u1:IntKind.i64.wrap (ey-ex)=dz:=by rw[FP,dI];omega
 have hdn:Hid (dz=(d:Int)):=by show _=_;omega
 have hd9:Hid (d<=10000):=by show _<=_;omega
 have hA':Hid (A=Mx):=hA;have ZN:Hid (B=My*2^d):=hB;clear hd FP hA hB;have c1:(sx==sy)=E:=by simp[hs]
 have c2:Hid (B<=A):=zB;clear zB hs;go_enter func226,ntmps226;have c3:0<=jl A B:=by have:=c2.out;unfold jl;split<;>(try split)<;>omega
 generalize hq:jl A B=q at*
 have hq':Hid (jl A B=q):=hq;clear hq;go_wp2_with (first|(go_at_call 150;with_reducible refine(TC.shl HT.out _ _ _ 0 _ (aK.gb HX.out Gb.g) om om).mono ?_;rintro e w1 ⟨bx1,kx1,V7,t_,rfl,au⟩;have Tf:aK 400 w1 (.slice (some ⟨bx1,0,none⟩) kx1 V7) A:=(by rw[hA'.out];simpa using t_);clear t_;have:=au.f_ w;have:=au.VZ w;have:=au.Aq w)|(go_at_call 150;with_reducible refine(TC.shl HT.out _ _ _ d _ (aK.gb HY.out Gb.g) (by exact hdn.out) hd9.out).mono ?_;rintro e w2 ⟨Zf,ky1,cy1,t_,rfl,aC⟩;have EL:aK 400 w2 (.slice (some ⟨Zf,0,none⟩) ky1 cy1) B:=(by rw[ZN.out];exact t_);clear t_;have:=aC.f_ w;have:=aC.VZ w;have:=aC.Aq w)|(go_at_call 133;refine(TC.cmp HT.out _ _ A B _ (aK.gb Tf Gb.g) (aK.gb EL Gb.g)).mono ?_;rintro e w3 ⟨he,aO⟩;rw[hq'.out]at he;subst he;have:=aO.f_ w;have:=aO.VZ w;have:=aO.Aq w))
 go_region_held3 (λw'=>aB w' w.heap.size 0 (J sx)/\aB w' (w.heap.size+1) 0 (J sy))(exact qj)(first|(go_at_call 155;refine(TC.sub HT.out _ _ A B _ (aK.gb Tf Gb.g) (aK.gb EL Gb.g) c2.out).mono ?_;rintro e w4 ⟨b4,k4,c4,rE,rfl,bg⟩;have AB:=bg.Aq w))
 all_goals go_wp2
 all_goals
  exact aMS
def Vd(sx sy ex ey:Int)(bx kx cx gy ky cy:Nat)(Mx My A B:Nat)(HX:Hid (aK 4 w (aF bx kx cx) Mx))(HY:Hid (aK 4 w (aF gy ky cy) My))(x0:-4000<=ex)(x1:ex<=4000)(y0:-4000<=ey)(y1:ey<=4000)(uz:ex<=ey)(d:Nat)(hd:ey-ex=(d:Int))(hA:A=Mx)(hB:B=My*2^d)(hs:sx≠sy)(zB:A<B):
  CT 226 #[O #[J sx,aF bx kx cx,J ex,V E],O #[J sy,aF gy ky cy,J ey,V E]] w λe w'=>∃b k c,aK 1000 w' (aF b k c) (B-A)/\e=X (O #[J sy,aF b k c,J ex,V E])/\Gb w w':=by
 have HT:Hid TC:=tc;obtain⟨dz,FP⟩:=dP (ey-ex:Int);have u1:IntKind.i64.wrap (ey-ex)=dz:=by rw[FP,dI];omega
 have hdn:Hid (dz=(d:Int)):=by show _=_;omega
 have hd9:Hid (d<=10000):=by show _<=_;omega
 have hA':Hid (A=Mx):=hA;have ZN:Hid (B=My*2^d):=hB;clear hd FP hA hB;have c1:(sx==sy)=E:=by simp[hs]
 have c2:Hid (A<B):=zB;clear zB hs;go_enter func226,ntmps226;have c3:jl A B<0:=by have:=c2.out;unfold jl;rw[aQ (by omega)];omega
 generalize hq:jl A B=q at*
 have hq':Hid (jl A B=q):=hq;clear hq;go_wp2_with (first|(go_at_call 150;with_reducible refine(TC.shl HT.out _ _ _ 0 _ (aK.gb HX.out Gb.g) om om).mono ?_;rintro e w1 ⟨bx1,kx1,V7,t_,rfl,au⟩;have Tf:aK 400 w1 (.slice (some ⟨bx1,0,none⟩) kx1 V7) A:=(by rw[hA'.out];simpa using t_);clear t_;have:=au.f_ w;have:=au.VZ w;have:=au.Aq w)|(go_at_call 150;with_reducible refine(TC.shl HT.out _ _ _ d _ (aK.gb HY.out Gb.g) (by exact hdn.out) hd9.out).mono ?_;rintro e w2 ⟨Zf,ky1,cy1,t_,rfl,aC⟩;have EL:aK 400 w2 (.slice (some ⟨Zf,0,none⟩) ky1 cy1) B:=(by rw[ZN.out];exact t_);clear t_;have:=aC.f_ w;have:=aC.VZ w;have:=aC.Aq w)|(go_at_call 133;refine(TC.cmp HT.out _ _ A B _ (aK.gb Tf Gb.g) (aK.gb EL Gb.g)).mono ?_;rintro e w3 ⟨he,aO⟩;rw[hq'.out]at he;subst he;have:=aO.f_ w;have:=aO.VZ w;have:=aO.Aq w))
 go_region_held3 (λw'=>aB w' w.heap.size 0 (J sx)/\aB w' (w.heap.size+1) 0 (J sy))(exact qj)(first|(go_at_call 155;refine(TC.sub HT.out _ _ B A _ (aK.gb EL Gb.g) (aK.gb Tf Gb.g) (Nat.le_of_lt c2.out)).mono ?_;rintro e w4 ⟨b4,k4,c4,rE,rfl,bg⟩;have AB:=bg.Aq w))
 all_goals go_wp2
 all_goals
  refine gY (v:=O #[J sy,aF b4 k4 c4,J ex,V E]) (by simp[results,results226,go_sem,AB]) rfl ⟨b4,k4,c4,?_,rfl,?_⟩
  .exact rE.st4 AB.1 AB.2.2.1 AB.2.2.2.2.1 AB.2.2.2.2.2.2.1
  .exact Gb.g
def Rf(sx sy ex ey:Int)(bx kx cx gy ky cy:Nat)(Mx My A B:Nat)(HX:Hid (aK 4 w (aF bx kx cx) Mx))(HY:Hid (aK 4 w (aF gy ky cy) My))(x0:-4000<=ex)(x1:ex<=4000)(y0:-4000<=ey)(y1:ey<=4000)(fJ:ey<ex)(d:Nat)(hd:ex-ey=(d:Int))(hA:A=Mx*2^d)(hB:B=My)(hs:sx=sy):
  CT 226 #[O #[J sx,aF bx kx cx,J ex,V E],O #[J sy,aF gy ky cy,J ey,V E]] w λe w'=>∃b k c,aK 1000 w' (aF b k c) (A+B)/\e=X (O #[J sx,aF b k c,J ey,V E])/\Gb w w':=by
 have HT:Hid TC:=tc;obtain⟨dz,FP⟩:=dP (ex-ey:Int);have u1:IntKind.i64.wrap (ex-ey)=dz:=by rw[FP,dI];omega
 have hdn:Hid (dz=(d:Int)):=by show _=_;omega
 have hd9:Hid (d<=10000):=by show _<=_;omega
 have hA':Hid (A=Mx*2^d):=hA;have ZN:Hid (B=My):=hB;clear hd FP hA hB;subst hs;go_enter func226,ntmps226;go_wp2_with (first|(go_at_call 150;with_reducible refine(TC.shl HT.out _ _ _ d _ (aK.gb HX.out Gb.g) (by exact hdn.out) hd9.out).mono ?_;rintro e w1 ⟨bx1,kx1,V7,t_,rfl,au⟩;have Tf:aK 400 w1 (.slice (some ⟨bx1,0,none⟩) kx1 V7) A:=(by rw[hA'.out];exact t_);clear t_;have:=au.f_ w;have:=au.VZ w;have:=au.Aq w)|(go_at_call 150;with_reducible refine(TC.shl HT.out _ _ _ 0 _ (aK.gb HY.out Gb.g) om om).mono ?_;rintro e w2 ⟨Zf,ky1,cy1,t_,rfl,aC⟩;have EL:aK 400 w2 (.slice (some ⟨Zf,0,none⟩) ky1 cy1) B:=(by rw[ZN.out];simpa using t_);clear t_;have:=aC.f_ w;have:=aC.VZ w;have:=aC.Aq w))
 go_region_held3 (λw'=>aB w' w.heap.size 0 (J sx)/\aB w' (w.heap.size+1) 0 (J sx))(exact qj)(first|(go_at_call 227;refine(TC.add HT.out _ _ A B _ (aK.gb Tf Gb.g) (aK.gb EL Gb.g)).mono ?_;rintro e w4 ⟨b4,k4,c4,rE,rfl,bg⟩;have AB:=bg.Aq w))
 all_goals go_wp2
 all_goals
  exact aMR
def Vb(sx sy ex ey:Int)(bx kx cx gy ky cy:Nat)(Mx My A B:Nat)(HX:Hid (aK 4 w (aF bx kx cx) Mx))(HY:Hid (aK 4 w (aF gy ky cy) My))(x0:-4000<=ex)(x1:ex<=4000)(y0:-4000<=ey)(y1:ey<=4000)(fJ:ey<ex)(d:Nat)(hd:ex-ey=(d:Int))(hA:A=Mx*2^d)(hB:B=My)(hs:sx≠sy)(zB:B<=A):
  CT 226 #[O #[J sx,aF bx kx cx,J ex,V E],O #[J sy,aF gy ky cy,J ey,V E]] w λe w'=>∃b k c,aK 1000 w' (aF b k c) (A-B)/\e=X (O #[J sx,aF b k c,J ey,V E])/\Gb w w':=by
 have HT:Hid TC:=tc;obtain⟨dz,FP⟩:=dP (ex-ey:Int);have u1:IntKind.i64.wrap (ex-ey)=dz:=by rw[FP,dI];omega
 have hdn:Hid (dz=(d:Int)):=by show _=_;omega
 have hd9:Hid (d<=10000):=by show _<=_;omega
 have hA':Hid (A=Mx*2^d):=hA;have ZN:Hid (B=My):=hB;clear hd FP hA hB;have c1:(sx==sy)=E:=by simp[hs]
 have c2:Hid (B<=A):=zB;clear zB hs;go_enter func226,ntmps226;have c3:0<=jl A B:=by have:=c2.out;unfold jl;split<;>(try split)<;>omega
 generalize hq:jl A B=q at*
 have hq':Hid (jl A B=q):=hq;clear hq;go_wp2_with (first|(go_at_call 150;with_reducible refine(TC.shl HT.out _ _ _ d _ (aK.gb HX.out Gb.g) (by exact hdn.out) hd9.out).mono ?_;rintro e w1 ⟨bx1,kx1,V7,t_,rfl,au⟩;have Tf:aK 400 w1 (.slice (some ⟨bx1,0,none⟩) kx1 V7) A:=(by rw[hA'.out];exact t_);clear t_;have:=au.f_ w;have:=au.VZ w;have:=au.Aq w)|(go_at_call 150;with_reducible refine(TC.shl HT.out _ _ _ 0 _ (aK.gb HY.out Gb.g) om om).mono ?_;rintro e w2 ⟨Zf,ky1,cy1,t_,rfl,aC⟩;have EL:aK 400 w2 (.slice (some ⟨Zf,0,none⟩) ky1 cy1) B:=(by rw[ZN.out];simpa using t_);clear t_;have:=aC.f_ w;have:=aC.VZ w;have:=aC.Aq w)|(go_at_call 133;refine(TC.cmp HT.out _ _ A B _ (aK.gb Tf Gb.g) (aK.gb EL Gb.g)).mono ?_;rintro e w3 ⟨he,aO⟩;rw[hq'.out]at he;subst he;have:=aO.f_ w;have:=aO.VZ w;have:=aO.Aq w))
 go_region_held3 (λw'=>aB w' w.heap.size 0 (J sx)/\aB w' (w.heap.size+1) 0 (J sy))(exact qj)(first|(go_at_call 155;refine(TC.sub HT.out _ _ A B _ (aK.gb Tf Gb.g) (aK.gb EL Gb.g) c2.out).mono ?_;rintro e w4 ⟨b4,k4,c4,rE,rfl,bg⟩;have AB:=bg.Aq w))
 all_goals go_wp2
 all_goals
  exact aMR
def Va(sx sy ex ey:Int)(bx kx cx gy ky cy:Nat)(Mx My A B:Nat)(HX:Hid (aK 4 w (aF bx kx cx) Mx))(HY:Hid (aK 4 w (aF gy ky cy) My))(x0:-4000<=ex)(x1:ex<=4000)(y0:-4000<=ey)(y1:ey<=4000)(fJ:ey<ex)(d:Nat)(hd:ex-ey=(d:Int))(hA:A=Mx*2^d)(hB:B=My)(hs:sx≠sy)(zB:A<B):
  CT 226 #[O #[J sx,aF bx kx cx,J ex,V E],O #[J sy,aF gy ky cy,J ey,V E]] w λe w'=>∃b k c,aK 1000 w' (aF b k c) (B-A)/\e=X (O #[J sy,aF b k c,J ey,V E])/\Gb w w':=by
 have HT:Hid TC:=tc;obtain⟨dz,FP⟩:=dP (ex-ey:Int);have u1:IntKind.i64.wrap (ex-ey)=dz:=by rw[FP,dI];omega
 have hdn:Hid (dz=(d:Int)):=by show _=_;omega
 have hd9:Hid (d<=10000):=by show _<=_;omega
 have hA':Hid (A=Mx*2^d):=hA;have ZN:Hid (B=My):=hB;clear hd FP hA hB;have c1:(sx==sy)=E:=by simp[hs]
 have c2:Hid (A<B):=zB;clear zB hs;go_enter func226,ntmps226;have c3:jl A B<0:=by have:=c2.out;unfold jl;rw[aQ (by omega)];omega
 generalize hq:jl A B=q at*
 have hq':Hid (jl A B=q):=hq;clear hq;go_wp2_with (first|(go_at_call 150;with_reducible refine(TC.shl HT.out _ _ _ d _ (aK.gb HX.out Gb.g) (by exact hdn.out) hd9.out).mono ?_;rintro e w1 ⟨bx1,kx1,V7,t_,rfl,au⟩;have Tf:aK 400 w1 (.slice (some ⟨bx1,0,none⟩) kx1 V7) A:=(by rw[hA'.out];exact t_);clear t_;have:=au.f_ w;have:=au.VZ w;have:=au.Aq w)|(go_at_call 150;with_reducible refine(TC.shl HT.out _ _ _ 0 _ (aK.gb HY.out Gb.g) om om).mono ?_;rintro e w2 ⟨Zf,ky1,cy1,t_,rfl,aC⟩;have EL:aK 400 w2 (.slice (some ⟨Zf,0,none⟩) ky1 cy1) B:=(by rw[ZN.out];simpa using t_);clear t_;have:=aC.f_ w;have:=aC.VZ w;have:=aC.Aq w)|(go_at_call 133;refine(TC.cmp HT.out _ _ A B _ (aK.gb Tf Gb.g) (aK.gb EL Gb.g)).mono ?_;rintro e w3 ⟨he,aO⟩;rw[hq'.out]at he;subst he;have:=aO.f_ w;have:=aO.VZ w;have:=aO.Aq w))
 go_region_held3 (λw'=>aB w' w.heap.size 0 (J sx)/\aB w' (w.heap.size+1) 0 (J sy))(exact qj)(first|(go_at_call 155;refine(TC.sub HT.out _ _ B A _ (aK.gb EL Gb.g) (aK.gb Tf Gb.g) (Nat.le_of_lt c2.out)).mono ?_;rintro e w4 ⟨b4,k4,c4,rE,rfl,bg⟩;have AB:=bg.Aq w))
 all_goals go_wp2
 all_goals
  refine gY (v:=O #[J sy,aF b4 k4 c4,J ey,V E]) (by simp[results,results226,go_sem,AB]) rfl ⟨b4,k4,c4,?_,rfl,?_⟩
  .exact rE.st4 AB.1 AB.2.2.1 AB.2.2.2.2.1 AB.2.2.2.2.2.2.1
  .exact Gb.g
def Yi(sx sy ex ey:Int)(bx kx cx gy ky cy:Nat)(Mx My:Nat)(HX:aK 4 w (aF bx kx cx) Mx)(HY:aK 4 w (aF gy ky cy) My)(x0:-4000<=ex)(x1:ex<=4000)(y0:-4000<=ey)(y1:ey<=4000)(sT:Int)(MT:Nat)(hT:aNE sx sy (Mx*2^(ex-min ex ey).toNat) (My*2^(ey-min ex ey).toNat) sT MT):
  CT 226 #[O #[J sx,aF bx kx cx,J ex,V E],O #[J sy,aF gy ky cy,J ey,V E]] w λe w'=>∃b k c,aK 1000 w' (aF b k c) MT/\e=X (O #[J sT,aF b k c,J (min ex ey),V E])/\Gb w w':=by
 by_cases h:ex<=ey
 .rw[(om:min ex ey=ex)]at hT⊢
  rw[(om:(ex-ex).toNat =0),wP,kW]at hT;rcases hT with⟨hs,rfl,rfl⟩|⟨hs,zB,rfl,rfl⟩|⟨hs,zB,rfl,rfl⟩
  .exact Rh _ sy ex ey bx kx cx gy ky cy Mx My _ _ HX HY x0 x1 y0 y1 h (ey-ex).toNat om rfl rfl hs
  .exact Ve _ sy ex ey bx kx cx gy ky cy Mx My _ _ HX HY x0 x1 y0 y1 h (ey-ex).toNat om rfl rfl hs zB
  .exact Vd sx _ ex ey bx kx cx gy ky cy Mx My _ _ HX HY x0 x1 y0 y1 h (ey-ex).toNat om rfl rfl hs zB
 .rw[(om:min ex ey=ey)]at hT⊢
  rw[(om:(ey-ey).toNat =0),wP,kW]at hT;rcases hT with⟨hs,rfl,rfl⟩|⟨hs,zB,rfl,rfl⟩|⟨hs,zB,rfl,rfl⟩
  .exact Rf _ sy ex ey bx kx cx gy ky cy Mx My _ _ HX HY x0 x1 y0 y1 om (ex-ey).toNat om rfl rfl hs
  .exact Vb _ sy ex ey bx kx cx gy ky cy Mx My _ _ HX HY x0 x1 y0 y1 om (ex-ey).toNat om rfl rfl hs zB
  .exact Va sx _ ex ey bx kx cx gy ky cy Mx My _ _ HX HY x0 x1 y0 y1 om (ex-ey).toNat om rfl rfl hs zB
def XW(h:zo p mn mx fb sp one aN sg nan)(W:Int)(h0:0<=W)(h1:W<2*sg)(w:ak):
  CT 174 #[lT p mn mx,Y Z W] w λe w'=>∃c s x g:Int,gX p mx one aN sg nan W c s x g/\e=X (bP s x c 0 g E 0)/\Gr w w':=by
 have HU:Hid (∀w,CT 241 #[lT p mn mx,Y Z W] w λe w'=>∃c s x g:Int,gX p mx one aN sg nan W c s x g/\e=X (fG c s x g)/\Gr w w'):=λw=>Z4 h W h0 h1 w;clear h;go_enter func174,ntmps174;go_wp2_with (go_at_call 241;refine(HU _).mono ?_;rintro e w1 ⟨c,s,x,g,hu,rfl,au⟩;obtain⟨iy,aI5,EM,aI4,ar2,aI3,ar3,aI2,ar4,aI1,ar5,aPK,ar6,aPJ⟩:=au.yo (w.heap.size+1);have aJa:=eU iy;have aSa:=SN aI5;have aI9:=eU EM;have aR9:=SN aI4;have aI8:=eU ar2;have aR8:=SN aI3;have aI7:=eU ar3;have aR7:=SN aI2;have aI6:=eU ar4;have aR6:=SN aI1;have aPM:=eU ar5;have aUK:=SN aPK;have aPL:=eU ar6;have aUJ:=SN aPJ);refine gY (v:=bP s x c 0 g E 0) (by simp[results,results174,go_sem,aJa,aI9,aI8,aI7,aI6,aPM,aPL]) rfl ⟨c,s,x,g,hu,rfl,?_⟩;exact Gr.g
def UQ(h:zo p mn mx fb sp one aN sg nan)(W:Int)(h0:2*sg<=W)(h1:aI W)(w:ak):
  QR 174 #[lT p mn mx,Y Z W] w (bP 0 0 4 0 0 E 0):=by
 have HU:KR 241 #[lT p mn mx,Y Z W] (fG 4 0 0 0):=λw=>Wv h W h0 h1 w;clear h;go_enter func174,ntmps174;go_wp2_with (go_at_call 241;refine ku (HU _) λw1 au=>?_;obtain⟨iy,aI5,EM,aI4,ar2,aI3,ar3,aI2,ar4,aI1,ar5,aPK,ar6,aPJ⟩:=au.yo (w.heap.size+1);have aJa:=eU iy;have aSa:=SN aI5;have aI9:=eU EM;have aR9:=SN aI4;have aI8:=eU ar2;have aR8:=SN aI3;have aI7:=eU ar3;have aR7:=SN aI2;have aI6:=eU ar4;have aR6:=SN aI1;have aPM:=eU ar5;have aUK:=SN aPK;have aPL:=eU ar6;have aUJ:=SN aPJ);exact cO (by simp[results,results174,go_sem,aJa,aI9,aI8,aI7,aI6,aPM,aPL])
def lV(p mn mx md nan f aj a b:Int)(HF:Hid (∀w',Gr w w'->QR 170 #[J f,J aj] w' (.tuple #[O #[J p,J mn,J mx,J md,Value.nilFunc],V E])))
  (HN:IL p mn mx nan 1) (own:Nat):
  QR 81 #[J f,J aj,.func (.func own) #[] #[],Y Z a,Y Z b] w (aU nan 1):=by
 go_enter func81,ntmps81;go_wp2_with (first|(go_at_call 170;refine ku (HF _ Gr.g) λw1 au=>?_;have:=au.bK w)|(go_at_call 171;refine ku (HN _) λw2 aC=>?_;have lJ:=aC.bK w))
 exact cO (by simp[results,results81,go_sem,lJ])
def VN(p mn mx md f:Int)(k own:Nat)(a b sx ex cx xh xl sy ey cy yh yl:Int)(tx ty:Bool)(HF:Hid (∀w',Gr w w'->uO f md w' p mn mx k true))
  (HA:rH p mn mx a sx ex cx xh xl tx 0) (HB:rH p mn mx b sy ey cy yh yl ty 0) (Q:Int->Int->Int->Int->Int->Bool->Prop) (HC:Hid (∀w,CT 173 #[eu p mn mx md k,.func (.func own) #[] #[],bP sx ex cx xh xl tx 0,bP sy ey cy yh yl ty 0] w λe w'=>∃os oe oc oh ol ot,Q os oe oc oh ol ot/\e=X (bP os oe oc oh ol ot 0)/\Gr w w'))
  (R:Int->Int->Prop) (HP:Hid (∀os oe oc oh ol ot w,Q os oe oc oh ol ot->CT 172 #[eu p mn mx md k,bP os oe oc oh ol ot 0] w (yG R w))):
  CT 81 #[J f,J md,.func (.func own) #[] #[],Y Z a,Y Z b] w (yG R w):=by
 go_enter func81,ntmps81;go_wp2_with (go_at_call 170;refine ku (HF _ Gr.g) λw1 au=>?_;have yS:=au.bK w;have jB:=aA yS.1);go_region_held3 (λw'=>uj w' w1.heap.size 0 1 2 3 4 (J p) (J mn) (J mx) (J md) (.func (.func k) #[] #[]))(exact qX)(first|(go_at_call 174;first|(with_reducible refine ku (HA.out _) λw2 aC=>?_;have:=aC.bK w)|(with_reducible refine ku (HB.out _) λw2 aC=>?_;have:=aC.bK w))|(go_at_call 173;refine(HC _).mono ?_;rintro e w3 ⟨os,oe,oc,oh,ol,ot,hq,rfl,aO⟩;have:=aO.bK w)|(go_at_call 172;refine(HP _ _ _ _ _ _ _ hq).mono ?_;rintro e w4 ⟨z,fl,hr,rfl,bg⟩;have Rx:=bg.bK w))
 all_goals go_wp2
 all_goals
  refine gY (v:=aU z fl) (by simp[results,results81,go_sem,Rx]) rfl ⟨z,fl,hr,rfl,?_⟩;exact Gr.g
def aBu(f aj a b:Int)(R:Int->Int->Prop)(HC:Hid (∀w',Gr w w'->CT 81 #[J f,J aj,.func (.func 82) #[] #[],Y Z a,Y Z b] w' (yG R w'))):
  CT 26 #[J f,J aj,Y Z a,Y Z b] w (yG R w):=by
 go_enter func26,ntmps26;go_wp2_with (go_at_call 81;refine(HC _ Gr.g).mono ?_;rintro e w1 ⟨z,fl,hr,rfl,au⟩;have iy:=au.bK w);refine gY (v:=aU z fl) (by simp[results,results26,go_sem,iy]) rfl ⟨z,fl,hr,rfl,?_⟩;exact Gr.g
def aBs(f aj a b:Int)(R:Int->Int->Prop)(HC:Hid (∀w',Gr w w'->CT 81 #[J f,J aj,.func (.func 84) #[] #[],Y Z a,Y Z b] w' (yG R w'))):
  CT 28 #[J f,J aj,Y Z a,Y Z b] w (yG R w):=by
 go_enter func28,ntmps28;go_wp2_with (go_at_call 81;refine(HC _ Gr.g).mono ?_;rintro e w1 ⟨z,fl,hr,rfl,au⟩;have iy:=au.bK w);refine gY (v:=aU z fl) (by simp[results,results28,go_sem,iy]) rfl ⟨z,fl,hr,rfl,?_⟩;exact Gr.g
def aCn(f aj a b ca sa xa ga cb sb xb gb:Int)(HF:dU f aj a b true)(fM:bW f a ca sa xa ga)(gK:bW f b cb sb xb gb)(jV:bY ca sa xa ga E)(mZ:bY cb sb xb gb E)(e1:ca=1)(e2:cb=1)(sp:Int)(a0:0<=sa)(a1:sa<=1)(b0:0<=sb)(b1:sb<=1)(Dp:(sa+sb).tmod 2=sp)(LY:(sa+sb)%2=sp)(xq:Int)(rest:Bool)(m:Nat)(HM:Hid (∀w,CT 149 #[J f,fG 1 sa xa ga,fG 1 sb xb gb] w λe w'=>∃bq kq qq,aK 8 w' (aF bq kq qq) m/\e=X (O #[J sp,aF bq kq qq,J xq,V rest])/\Gb w w'))(Q:Int->Int->Prop)(HR:Hid (∀v w,aK 8 w v m->CT 138 #[J f,J aj,O #[J sp,v,J xq,V rest]] w (E8 Q w)))(w:ak):
  CT 66 #[J f,J aj,Y Z a,Y Z b] w (E8 Q w):=by
 subst e1 e2;go_enter func66,ntmps66;go_wp2_with (first|(go_at_call 139;refine kw (HF _) ?_)|(go_at_call 126;first|(with_reducible refine ku (fM.out _) λw1 au=>?_;have jy:=au.bK w;have mD:=aA jy.1)|(with_reducible refine ku (gK.out _) λw2 aC=>?_;have kH:=aC.bK w;have:=aC.MS w1;have jB:=aA kH.1))|(go_at_call 140;first|(with_reducible refine ku (jV.out _) λva aT=>?_;have:=aT.bK w;have:=aT.f_ w1;have:=aT.f_ w2)|(with_reducible refine ku (mZ.out _) λvb bJ=>?_;have:=bJ.bK w;have:=bJ.f_ w1;have:=bJ.f_ w2))|(go_at_call 149;refine(HM _).mono ?_;rintro e wm ⟨bq,kq,qq,hbq,rfl,fZ⟩;have:=fZ.bK w)|(go_at_call 138;refine(HR _ _ hbq).mono ?_;rintro e w9 ⟨z,fl,hq,rfl,bV⟩;have jD:=bV.bK w))
 refine gY (v:=aU z fl) (by simp[results,results66,go_sem,jD]) rfl ⟨z,fl,hq,rfl,?_⟩;exact Gb.g
def aK1(h:aK K w (aF b k c) N)(hN:0<N):0<k:=by
 obtain⟨n,hn,hb⟩:=h;obtain⟨b',cap,e,_⟩:=hb.shape;have h2:=hb.1.iff;injection e with _ e2 _;have:n≠0:=λh=>by have:=h2.1 h;omega
 omega
def Ws{P:Prop}(h:P:=by
 go_enter func60,ntmps60;go_wp2_with (first|(go_at_call 58;first|(refine(HX _).mono ?_;rintro e w1 ⟨b,k,c,hb,rfl,au⟩;have KZ:=au.bK w;have jB:=aA KZ.1;have kF:=aK1 hb hM)|(refine(HX _).mono ?_;rintro e w1 ⟨b,k,c,hb,rfl,au⟩;have KZ:=au.bK w;have jB:=aA KZ.1;have kF:=aK2 hb)|(refine(HX _).mono ?_;rintro e w1 ⟨b,k,c,hb,rfl,au⟩;have KZ:=au.bK w;have jB:=aA KZ.1))|(go_at_call 50;refine kw (MV _) ?_)|(go_at_call 135;refine kw (TM _) ?_)|(go_at_call 138;refine(HR _ _ (aK.gb hb Gb.g)).mono ?_;rintro e w4 ⟨z,fl,hq,rfl,bg⟩;have jD:=bg.bK w)|(go_at_call 136;refine ku (HL _) λw9 bV=>?_;have jD:=bV.bK w)|(go_at_call 137;refine ku (HL _) λw9 bV=>?_;have jD:=bV.bK w))
 first|(refine gY (v:=aU z fl) (by simp[results,results60,go_sem,jD]) rfl ⟨z,fl,hq,rfl,?_⟩;exact Gb.g)|(exact dX (by simp[results,results60,go_sem,jD]))):P:=h
def aDN(f aj aG a s:Int)(M:Nat)(hM:0<M)(HX:Hid (∀w,CT 58 #[J aG,Y Z a] w λe w'=>∃b k c,aK 2 w' (aF b k c) M/\e=X (.tuple #[O #[J s,aF b k c,J 0,V E],V true])/\Gb w w'))(MV:KW 50 #[J f] (V true))(TM:nV aj true)(Q:Int->Int->Prop)(HR:Hid (∀v w,aK 2 w v M->CT 138 #[J f,J aj,O #[J s,v,J 0,V E]] w (E8 Q w)))(w:ak):
  CT 60 #[J f,J aj,J aG,Y Z a] w (E8 Q w):=by
 exact Ws
def aK2(h:aK K w (aF b k c) 0):((k:Nat):Int)=0:=by
 obtain⟨n,hn,hb⟩:=h;obtain⟨b',cap,e,_⟩:=hb.shape;have:=hb.none rfl;injection e with _ e2 _;omega
def NV(f aj aG a s z fl:Int)(M:Nat)(HX:Hid (∀w,CT 58 #[J aG,Y Z a] w λe w'=>∃b k c,aK 2 w' (aF b k c) M/\e=X (.tuple #[O #[J s,aF b k c,J 0,V E],V E])/\Gb w w'))(HL:qJ f z fl)(w:ak):
  QB 60 #[J f,J aj,J aG,Y Z a] w (aU z fl):=by
 exact Ws
def aAG(f aj aG a s z fl:Int)(M:Nat)(HX:Hid (∀w,CT 58 #[J aG,Y Z a] w λe w'=>∃b k c,aK 2 w' (aF b k c) M/\e=X (.tuple #[O #[J s,aF b k c,J 0,V E],V true])/\Gb w w'))(MV:KW 50 #[J f] (V E))(HL:qJ f z fl)(w:ak):
  QB 60 #[J f,J aj,J aG,Y Z a] w (aU z fl):=by
 exact Ws
def aAF(f aj aG a s z fl:Int)(M:Nat)(HX:Hid (∀w,CT 58 #[J aG,Y Z a] w λe w'=>∃b k c,aK 2 w' (aF b k c) M/\e=X (.tuple #[O #[J s,aF b k c,J 0,V E],V true])/\Gb w w'))(MV:KW 50 #[J f] (V true))(TM:nV aj E)(HL:qJ f z fl)(w:ak):
  QB 60 #[J f,J aj,J aG,Y Z a] w (aU z fl):=by
 exact Ws
def aAE(f aj aG a s z fl:Int)(M:Nat)(hM:M=0)(HX:Hid (∀w,CT 58 #[J aG,Y Z a] w λe w'=>∃b k c,aK 2 w' (aF b k c) M/\e=X (.tuple #[O #[J s,aF b k c,J 0,V E],V true])/\Gb w w'))(MV:KW 50 #[J f] (V true))(TM:nV aj true)(HL:Ar f 0 z fl)(w:ak):
  QB 60 #[J f,J aj,J aG,Y Z a] w (aU z fl):=by
 subst hM;exact Ws
