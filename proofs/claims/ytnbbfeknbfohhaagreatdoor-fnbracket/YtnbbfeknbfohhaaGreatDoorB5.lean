import Derived.Test.YtnbbfeknbfohhaaGreatDoorB7
import Derived.Test.YtnbbfeknbfohhaaGreatDoorA6
import Derived.Test.YtnbbfeknbfohhaaGreatDoorA4
import Derived.Deep.DeepCutAuto
set_option linter.unusedVariables false
set_option linter.unusedSimpArgs false
set_option maxRecDepth 1000000
set_option maxHeartbeats 40000000
open Go.Value renaming int → J, agg → O, bool → X
open Go.IntKind renaming i64 → Y, u64 → Z
open Go.Proofs.Tryz
namespace Go.Proofs.YtnbbfeknbfohhaaGreatDoor
open Go.RowKit
theorem xg(p mn mx md:Int)(k:Nat)(w:World):
  QR 217 #[O #[J Y p,J Y mn,J Y mx,J Y md,.func (.func k) #[] #[]]] w (O #[J Y (if md=4 then 1 else 0),J Y 0,J Y 0,J Z 0,J Z 0,X false,J Y 0]):=by
 by_cases c:md=4
 ·subst c
  go_enter func217,ntmps217
  go_wp2
  go_returns
  exact⟨rfl,Gr.g⟩
 ·have c1:(md==4)=false:=by simp;omega
  rw[if_neg c]
  go_enter func217,ntmps217
  go_wp2
  go_returns
  exact⟨rfl,Gr.g⟩
theorem aDd(M:Nat)(hM:M<340282366920938463463374607431768211456)(n:Nat)(hn:n≤128)(h:M*2^n<340282366920938463463374607431768211456)(w:World):
  QR 162 #[O #[J Z ((M/18446744073709551616:Nat):Int),J Z ((M%18446744073709551616:Nat):Int)],J Y n] w (O #[J Z ((M*2^n/18446744073709551616:Nat):Int),J Z ((M*2^n%18446744073709551616:Nat):Int)]):=by
 have e0:((M/18446744073709551616:Nat):Int)*18446744073709551616+((M%18446744073709551616:Nat):Int)=(M:Int):=om
 have hk:(bnd (n:Int)).toNat =n:=by unfold bnd;rw[if_neg om,if_neg (by omega)];simp
 refine(nZ _ _ (n:Int) om om om om w).mono ?_
 rintro e w' ⟨rfl,hg⟩
 refine⟨uP ?_ ?_,hg⟩
 ·unfold kN;rw[hk,e0,cast_mul];omega
 ·unfold kM;rw[hk,e0,cast_mul];omega
theorem aC1(A B:Nat)(hA:A<340282366920938463463374607431768211456)(hB:B<340282366920938463463374607431768211456)(h:A+B<340282366920938463463374607431768211456)(w:World):
  CT 238 #[O #[J Z ((A/18446744073709551616:Nat):Int),J Z ((A%18446744073709551616:Nat):Int)],O #[J Z ((B/18446744073709551616:Nat):Int),J Z ((B%18446744073709551616:Nat):Int)]] w fun e w'=>∃b,e=.returned (.tuple #[O #[J Z (((A+B)/18446744073709551616:Nat):Int),J Z (((A+B)%18446744073709551616:Nat):Int)],X b])∧Gr w w':=by
 refine(Ii _ _ _ _ om om om om om om om om w).mono ?_
 rintro e w' ⟨rfl,hg⟩
 exact⟨_,zA (by first|omega|(unfold Em;split<;>omega)) om rfl,hg⟩
theorem aAm(A B:Nat)(hA:A<340282366920938463463374607431768211456)(hB:B≤A)(w:World):
  CT 239 #[O #[J Z ((A/18446744073709551616:Nat):Int),J Z ((A%18446744073709551616:Nat):Int)],O #[J Z ((B/18446744073709551616:Nat):Int),J Z ((B%18446744073709551616:Nat):Int)]] w fun e w'=>∃b,e=.returned (.tuple #[O #[J Z (((A-B)/18446744073709551616:Nat):Int),J Z (((A-B)%18446744073709551616:Nat):Int)],X b])∧Gr w w':=by
 refine(wW _ _ _ _ om om om om om om om om w).mono ?_
 rintro e w' ⟨rfl,hg⟩
 exact⟨_,zA (by first|omega|(unfold Em;split<;>omega)) om rfl,hg⟩
theorem Xc(A B:Nat)(hA:A<340282366920938463463374607431768211456)(hB:B<340282366920938463463374607431768211456)(w:World):
  CT 239 #[O #[J Z ((A/18446744073709551616:Nat):Int),J Z ((A%18446744073709551616:Nat):Int)],O #[J Z ((B/18446744073709551616:Nat):Int),J Z ((B%18446744073709551616:Nat):Int)]] w fun e w'=>∃x y,e=.returned (.tuple #[O #[J Z x,J Z y],X (decide (A<B))])∧Gr w w':=by
 refine(wW _ _ _ _ om om om om om om om om w).mono ?_
 rintro e w' ⟨rfl,hg⟩
 refine⟨_,_,zA rfl rfl ?_,hg⟩
 first
  |(rw[XR _ _ _ _ om om om (by omega)];rw[decide_eq_decide];omega)
  |(rw[decide_eq_decide];omega)
theorem zL(s e c:Int)(M:Nat)(st:Bool)(h0:0<M)(hn:nb M≤106)(e0:-50000≤e)(e1:e≤50000)(w:World):
  QR 236 #[O #[J Y s,J Y e,J Y c,J Z (((M/18446744073709551616:Nat):Int)),J Z (((M%18446744073709551616:Nat):Int)),X st,J Y 0]] w (O #[J Y s,J Y (e-(127-nb M:Nat)),J Y c,J Z (((M*2^(127-nb M)/18446744073709551616:Nat):Int)),J Z (((M*2^(127-nb M)%18446744073709551616:Nat):Int)),X st,J Y 0]):=by
 have hb:=jf M h0 hn
 have hM:M<340282366920938463463374607431768211456:=by
  have h1:=pY M
  have h2:=aW (show nb M≤128 by omega)
  have h3:(2:Nat)^128=340282366920938463463374607431768211456:=de
  omega
 have HZ:KR 224 #[O #[J Z ((M/18446744073709551616:Nat):Int),J Z ((M%18446744073709551616:Nat):Int)]] (J Y (128-(nb M:Int))):=fun w=>RY M hM w
 have HL:KR 162 #[O #[J Z ((M/18446744073709551616:Nat):Int),J Z ((M%18446744073709551616:Nat):Int)],J Y ((127-nb M:Nat):Int)] (O #[J Z ((M*2^(127-nb M)/18446744073709551616:Nat):Int),J Z ((M*2^(127-nb M)%18446744073709551616:Nat):Int)]):=fun w=>aDd M hM (127-nb M) om om w
 obtain⟨L,hL⟩:∃L:Int,((127-nb M:Nat):Int)=L:=⟨_,rfl⟩
 obtain⟨u,hu⟩:∃u:Int,128-(nb M:Int)=u:=⟨_,rfl⟩
 obtain⟨y,hy⟩:∃y:Int,e-L=y:=⟨_,rfl⟩
 rw[hL]at HL
 rw[hu]at HZ
 rw[hL,hy]
 have u1:IntKind.i64.wrap (u-1)=L:=wi
 have u2:IntKind.i64.wrap (e-L)=y:=wi
 generalize((M*2^(127-nb M)/18446744073709551616:Nat):Int)=Ah at*
 generalize((M*2^(127-nb M)%18446744073709551616:Nat):Int)=Al at*
 generalize((M/18446744073709551616:Nat):Int)=mh at*
 generalize((M%18446744073709551616:Nat):Int)=ml at*
 clear hb hu hL hy
 go_enter func236,ntmps236
 go_wp2_with (first
  |(go_at_call 224;refine(HZ.out _).mono ?_;rintro x w1 ⟨rfl,aj⟩;obtain⟨AY,Ri,AX,Rh,oQ,Rf,Ih,Q_,yI,Q9,ax5,Q8,ax6,Q7⟩:=aj.y7 w.heap.size 0 1 2 3 4 5 6 (J Y s) (J Y e) (J Y c) (J Z mh) (J Z ml) (X st) (J Y 0);obtain⟨bG,bK,cO,bJ,iW,d_,ar3,dZ,lW,gV,mX,iM,mW,iK⟩:=aj.y7 (w.heap.size+1) 0 1 2 3 4 5 6 (J Y 0) (J Y 0) (J Y 0) (J Z 0) (J Z 0) (X false) (J Y 0))
  |(go_at_call 162;refine(HL.out _).mono ?_;rintro x w2 ⟨rfl,ak⟩;obtain⟨bx0,Ia,bx1,H_,ug,H9,IC,Hw,Ib,Hu,bx5,Ht,YB,Hr⟩:=ak.y7 w.heap.size 0 1 2 3 4 5 6 (J Y s) (J Y y) (J Y c) (J Z mh) (J Z ml) (X st) (J Y 0);obtain⟨iF,h_,jh,g_,lZ,jM,lY,jL,vS,oP,yF,qC,yE,qB⟩:=ak.y7 (w.heap.size+1) 0 1 2 3 4 5 6 (J Y 0) (J Y 0) (J Y 0) (J Z 0) (J Z 0) (X false) (J Y 0)))
 refine bodyPost_ret (v:=O #[J Y s,J Y y,J Y c,J Z Ah,J Z Al,X st,J Y 0]) (by simp[results,Tryz.results236,go_sem,iF,jh,lZ,lY,vS,yF,yE]) rfl ⟨rfl,?_⟩
 exact Gr.g
theorem DN(s e c s' e' c':Int)(A B:Nat)(st st' b:Bool)(hA:A<340282366920938463463374607431768211456)(hB:B<340282366920938463463374607431768211456)(hb:b=decide (e<e'∨e=e'∧A<B))(w:World):
  QR 237 #[O #[J Y s,J Y e,J Y c,J Z (((A/18446744073709551616:Nat):Int)),J Z (((A%18446744073709551616:Nat):Int)),X st,J Y 0],O #[J Y (s'),J Y (e'),J Y (c'),J Z (((B/18446744073709551616:Nat):Int)),J Z (((B%18446744073709551616:Nat):Int)),X (st'),J Y 0]] w (X b):=by
 have HS:Hid (∀w,CT 239 #[O #[J Z ((A/18446744073709551616:Nat):Int),J Z ((A%18446744073709551616:Nat):Int)],O #[J Z ((B/18446744073709551616:Nat):Int),J Z ((B%18446744073709551616:Nat):Int)]] w fun e w'=>∃x y,e=.returned (.tuple #[O #[J Z x,J Z y],X (decide (A<B))])∧Gr w w'):=fun w=>Xc A B hA hB w
 have hB':Hid (b=decide (e<e'∨e=e'∧A<B)):=hb
 obtain⟨t,ht⟩:∃t:Bool,decide (A<B)=t:=⟨_,rfl⟩
 rw[ht]at HS
 have ht':Hid (decide (A<B)=t):=ht
 clear hb ht
 generalize((A/18446744073709551616:Nat):Int)=ah at*
 generalize((A%18446744073709551616:Nat):Int)=al at*
 generalize((B/18446744073709551616:Nat):Int)=bh at*
 generalize((B%18446744073709551616:Nat):Int)=bl' at*
 by_cases ce:e=e'
 ·subst ce
  go_enter func237,ntmps237
  go_wp2_with (go_at_call 239;refine(HS.out _).mono ?_;rintro z w1 ⟨x,y,rfl,aj⟩)
  go_returns
  exact⟨aU (congrArg Value.bool (by rw[hB'.out,←ht'.out];simp)),Gr.g⟩
 ·have c1:(e==e')=false:=by simp[ce]
  go_enter func237,ntmps237
  go_wp2
  go_returns
  exact⟨aU (congrArg Value.bool (by rw[hB'.out];simp[ce])),Gr.g⟩
theorem YO(s t:Int)(hs:s=0∨s=1)(ht:t=0∨t=1):bits .xor Y s t=mulS s t:=by
 rcases hs with rfl|rfl<;>rcases ht with rfl|rfl<;>decide+kernel
theorem times_any(s e s' e':Int)(hs:s=0∨s=1)(ht:s'=0∨s'=1)(e0:-50000≤e)(e1:e≤50000)(f0:-50000≤e')(f1:e'≤50000)(w:World):
  QR 218 #[O #[J Y s,J Y e],O #[J Y s',J Y e']] w (O #[J Y (mulS s s'),J Y (e+e')]):=by
 have u1:=YO s s' hs ht
 have u2:IntKind.i64.wrap (e+e')=e+e':=wi
 generalize mulS s s'=z at*
 go_enter func218,ntmps218
 go_wp2
 go_returns
 exact⟨aU (by simp[u1,u2]),Gr.g⟩
theorem aDF(A B:Nat)(hA:A<18446744073709551616)(hB:B<18446744073709551616)(w:World):
  QR 193 #[J Z (A:Nat),J Z (B:Nat)] w (O #[J Z ((A*B/18446744073709551616:Nat):Int),J Z ((A*B%18446744073709551616:Nat):Int)]):=by
 refine(F7 _ _ om om om om w).mono ?_
 rintro e w' ⟨rfl,hg⟩
 refine⟨uP ?_ ?_,hg⟩
 ·rw[←Int.natCast_mul];omega
 ·rw[←Int.natCast_mul];omega
structure aAd (p mn mx md:Int) (k:Nat) (w wx:World) (sx ax Ah Al sy ay Bh Bl:Int):Prop where
 g:Gr w wx:=by exact kr
 s0:wx.cell? ⟨w.heap.size,0,none⟩=some (J Y p):=by exact kl
 s1:wx.cell? ⟨w.heap.size,1,none⟩=some (J Y mn):=by exact kl
 s2:wx.cell? ⟨w.heap.size,2,none⟩=some (J Y mx):=by exact kl
 s3:wx.cell? ⟨w.heap.size,3,none⟩=some (J Y md):=by exact kl
 s4:wx.cell? ⟨w.heap.size,4,none⟩=some (.func (.func k) #[] #[]):=by exact kl
 x0:wx.cell? ⟨w.heap.size+1,0,none⟩=some (J Y sx):=by exact kl
 xz0:wx.frozen? ⟨w.heap.size+1,0,none⟩=false:=by exact kl
 x1:wx.cell? ⟨w.heap.size+1,1,none⟩=some (J Y ax):=by exact kl
 xz1:wx.frozen? ⟨w.heap.size+1,1,none⟩=false:=by exact kl
 x2:wx.cell? ⟨w.heap.size+1,2,none⟩=some (J Y 1):=by exact kl
 xz2:wx.frozen? ⟨w.heap.size+1,2,none⟩=false:=by exact kl
 x3:wx.cell? ⟨w.heap.size+1,3,none⟩=some (J Z Ah):=by exact kl
 xz3:wx.frozen? ⟨w.heap.size+1,3,none⟩=false:=by exact kl
 x4:wx.cell? ⟨w.heap.size+1,4,none⟩=some (J Z Al):=by exact kl
 xz4:wx.frozen? ⟨w.heap.size+1,4,none⟩=false:=by exact kl
 x5:wx.cell? ⟨w.heap.size+1,5,none⟩=some (X false):=by exact kl
 xz5:wx.frozen? ⟨w.heap.size+1,5,none⟩=false:=by exact kl
 x6:wx.cell? ⟨w.heap.size+1,6,none⟩=some (J Y 0):=by exact kl
 xz6:wx.frozen? ⟨w.heap.size+1,6,none⟩=false:=by exact kl
 y0:wx.cell? ⟨w.heap.size+1+1,0,none⟩=some (J Y sy):=by exact kl
 yz0:wx.frozen? ⟨w.heap.size+1+1,0,none⟩=false:=by exact kl
 y1:wx.cell? ⟨w.heap.size+1+1,1,none⟩=some (J Y ay):=by exact kl
 yz1:wx.frozen? ⟨w.heap.size+1+1,1,none⟩=false:=by exact kl
 y2:wx.cell? ⟨w.heap.size+1+1,2,none⟩=some (J Y 1):=by exact kl
 yz2:wx.frozen? ⟨w.heap.size+1+1,2,none⟩=false:=by exact kl
 y3:wx.cell? ⟨w.heap.size+1+1,3,none⟩=some (J Z Bh):=by exact kl
 yz3:wx.frozen? ⟨w.heap.size+1+1,3,none⟩=false:=by exact kl
 y4:wx.cell? ⟨w.heap.size+1+1,4,none⟩=some (J Z Bl):=by exact kl
 yz4:wx.frozen? ⟨w.heap.size+1+1,4,none⟩=false:=by exact kl
 y5:wx.cell? ⟨w.heap.size+1+1,5,none⟩=some (X false):=by exact kl
 yz5:wx.frozen? ⟨w.heap.size+1+1,5,none⟩=false:=by exact kl
 y6:wx.cell? ⟨w.heap.size+1+1,6,none⟩=some (J Y 0):=by exact kl
 yz6:wx.frozen? ⟨w.heap.size+1+1,6,none⟩=false:=by exact kl
 r0:wx.cell? ⟨w.heap.size+1+1+1,0,none⟩=some (J Y 0):=by exact kl
 rz0:wx.frozen? ⟨w.heap.size+1+1+1,0,none⟩=false:=by exact kl
 r1:wx.cell? ⟨w.heap.size+1+1+1,1,none⟩=some (J Y 0):=by exact kl
 rz1:wx.frozen? ⟨w.heap.size+1+1+1,1,none⟩=false:=by exact kl
 r2:wx.cell? ⟨w.heap.size+1+1+1,2,none⟩=some (J Y 0):=by exact kl
 rz2:wx.frozen? ⟨w.heap.size+1+1+1,2,none⟩=false:=by exact kl
 r3:wx.cell? ⟨w.heap.size+1+1+1,3,none⟩=some (J Z 0):=by exact kl
 rz3:wx.frozen? ⟨w.heap.size+1+1+1,3,none⟩=false:=by exact kl
 r4:wx.cell? ⟨w.heap.size+1+1+1,4,none⟩=some (J Z 0):=by exact kl
 rz4:wx.frozen? ⟨w.heap.size+1+1+1,4,none⟩=false:=by exact kl
 r5:wx.cell? ⟨w.heap.size+1+1+1,5,none⟩=some (X false):=by exact kl
 rz5:wx.frozen? ⟨w.heap.size+1+1+1,5,none⟩=false:=by exact kl
 r6:wx.cell? ⟨w.heap.size+1+1+1,6,none⟩=some (J Y 0):=by exact kl
 rz6:wx.frozen? ⟨w.heap.size+1+1+1,6,none⟩=false:=by exact kl
