import Derived.Test.YthoelefkjpjhfaaGreatDoorK4
import Derived.Test.YthoelefkjpjhfaaGreatDoorM6
set_option linter.all false
set_option maxRecDepth 1000000
set_option maxHeartbeats 40000000
open Option renaming none → O, some → V
open Bool renaming false → X
open Go.Proofs.YthoelefkjpjhfaaGreatDoor renaming vI → J, vU → Y
open Go.Value renaming bool → Z
open Go.Proofs.Tryz
namespace Go.Proofs.YthoelefkjpjhfaaGreatDoor
open Go.RowKit
def aCc{P:Prop}(h:P:=by
 go_enter func82,ntmps82;go_wp2;go_returns;exact⟨rfl,Gr.g⟩):P:=h
attribute [local go_sem] aB dL
def aNU(p mn mx md:Int)(k:Nat)(sx ex cx xh xl sy ey cy yh yl:Int)(tx ty:Bool)(h:cy<cx)(w:ak):
  Zv p mn mx md k sx ex cx xh xl tx 0 sy ey cy yh yl ty 0 w sx ex cx xh xl tx 0:=by
 exact aCc
def sum_lt(p mn mx md:Int)(k:Nat)(sx ex cx xh xl sy ey cy yh yl:Int)(tx ty:Bool)(h:cx<cy)(w:ak):
  Zv p mn mx md k sx ex cx xh xl tx 0 sy ey cy yh yl ty 0 w sy ey cy yh yl ty 0:=by
 exact aCc
def aNT(p mn mx md:Int)(k:Nat)(sx ex cx xh xl sy ey cy yh yl:Int)(tx ty:Bool)(h1:cx=cy)(h2:(cx==1)=X)(h3:sx=sy)(w:ak):
  Zv p mn mx md k sx ex cx xh xl tx 0 sy ey cy yh yl ty 0 w sx ex cx xh xl tx 0:=by
 subst h1 h3;exact aCc
def aJD(p mn mx md:Int)(k:Nat)(sx ex cx xh xl sy ey cy yh yl:Int)(tx ty:Bool)(h1:cx=2)(h2:cy=2)(h3:(sx==sy)=X)(w:ak):
  Zv p mn mx md k sx ex cx xh xl tx 0 sy ey cy yh yl ty 0 w 0 0 4 0 0 X 0:=by
 subst h1 h2;exact aCc
def sum_nil(p mn mx md:Int)(k:Nat)(sx ex cx xh xl sy ey cy yh yl:Int)(tx ty:Bool)(h1:cx=0)(h2:cy=0)(h3:(sx==sy)=X)(os oe oc oh ol:Int)(ot:Bool)(HN:KR 176 #[eu p mn mx md k] (bP os oe oc oh ol ot 0))(w:ak):
  Zv p mn mx md k sx ex cx xh xl tx 0 sy ey cy yh yl ty 0 w os oe oc oh ol ot 0:=by
 subst h1 h2;go_enter func82,ntmps82;go_wp2_with (go_at_call 176;refine ku (HN _) λw1 au=>?_;have iy:=au.ql w);exact cO (by simp[results,results82,go_sem,iy])
def aJC(p mn mx md:Int)(k:Nat)(sx ex cx xh xl sy ey cy yh yl:Int)(tx ty:Bool)(h1:cx=1)(h2:cy=1)(Q:Int->Int->Int->Int->Int->Bool->Prop)(HT:Hid (∀w,CT 175 #[eu p mn mx md k,bP sx ex 1 xh xl tx 0,bP sy ey 1 yh yl ty 0] w λe w'=>∃os oe oc oh ol ot,Q os oe oc oh ol ot/\e=.returned (bP os oe oc oh ol ot 0)/\Gr w w'))(w:ak):
  CT 82 #[eu p mn mx md k,bP sx ex cx xh xl tx 0,bP sy ey cy yh yl ty 0] w λe w'=>∃os oe oc oh ol ot,Q os oe oc oh ol ot/\e=.returned (bP os oe oc oh ol ot 0)/\Gr w w':=by
 subst h1 h2;go_enter func82,ntmps82;go_wp2_with (go_at_call 175;refine(HT _).mono ?_;rintro e w1 ⟨os,oe,oc,oh,ol,ot,hq,rfl,au⟩;have iy:=au.ql w);refine gY (v:=bP os oe oc oh ol ot 0) (by simp[results,results82,go_sem,iy]) rfl ⟨os,oe,oc,oh,ol,ot,hq,rfl,?_⟩;exact Gr.g
def I5{P:Prop}(h:P:=by
 obtain⟨rfl,rfl,rfl,⟨qg,qx4,qy4,qo0,aS3,qo1,aS2,qo2,aS1,qo3,aS0,qo4,aSZ,qo5,aSY,qo6,aSX,XF,aKc,qr1,aKb,qr2,aOg,qr3,aOf,qr4,aOe,qr5,aOd,qr6,aOc⟩⟩:=hcut;have hzo:=aA qo0;have hzr:=aA XF;go_wp2;exact cO (by simp[results,results84,go_sem,XF,qr1,qr2,qr3,qr4,qr5,qr6])):P:=h
structure zS (w wx:ak) (o:Nat) (xl yl zs ze:Int):Prop where
 g:Gr w wx:=by exact kr
 x4:aB wx (w.heap.size+1) 4 (Y xl):=by exact kl
 y4:aB wx (w.heap.size+1+1) 4 (Y yl):=by exact kl
 o0:aB wx o 0 (J zs):=by exact kl
 oz0:dL wx o 0:=by exact kl
 o1:aB wx o 1 (J ze):=by exact kl
 oz1:dL wx o 1:=by exact kl
 o2:aB wx o 2 (J 1):=by exact kl
 oz2:dL wx o 2:=by exact kl
 o3:aB wx o 3 (Y 0):=by exact kl
 oz3:dL wx o 3:=by exact kl
 o4:aB wx o 4 (Y 0):=by exact kl
 oz4:dL wx o 4:=by exact kl
 o5:aB wx o 5 (Z X):=by exact kl
 oz5:dL wx o 5:=by exact kl
 o6:aB wx o 6 (J 0):=by exact kl
 oz6:dL wx o 6:=by exact kl
 r0:aB wx (w.heap.size+1+1+1) 0 (J 0):=by exact kl
 rz0:dL wx (w.heap.size+1+1+1) 0:=by exact kl
 r1:aB wx (w.heap.size+1+1+1) 1 (J 0):=by exact kl
 rz1:dL wx (w.heap.size+1+1+1) 1:=by exact kl
 r2:aB wx (w.heap.size+1+1+1) 2 (J 0):=by exact kl
 rz2:dL wx (w.heap.size+1+1+1) 2:=by exact kl
 r3:aB wx (w.heap.size+1+1+1) 3 (Y 0):=by exact kl
 rz3:dL wx (w.heap.size+1+1+1) 3:=by exact kl
 r4:aB wx (w.heap.size+1+1+1) 4 (Y 0):=by exact kl
 rz4:dL wx (w.heap.size+1+1+1) 4:=by exact kl
 r5:aB wx (w.heap.size+1+1+1) 5 (Z X):=by exact kl
 rz5:dL wx (w.heap.size+1+1+1) 5:=by exact kl
 r6:aB wx (w.heap.size+1+1+1) 6 (J 0):=by exact kl
 rz6:dL wx (w.heap.size+1+1+1) 6:=by exact kl
def aAW(p mn mx md:Int)(k:Nat)(sx ex xh xl sy ey yh yl:Int)(tx ty:Bool)(zs ze:Int)(HT:Gz sx ex sy ey zs ze)(w:ak):
  DL p mn mx md k sx ex 0 xh xl tx 0 sy ey 0 yh yl ty 0 w zs ze 0 0 0 X 0:=by
 go_enter func84,ntmps84;go_wp2_with (go_at_call 177;refine ku (HT _) λw1 au=>?_;have:=au.e2 (w.heap.size+1) 2 4 _ _;have:=au.e2 (w.heap.size+1+1) 2 4 _ _;have iy:=au.ql w;have jB:=aA iy.1);go_cut [7,8,9] (λs7 s8 s9 wx=>s7=.pointer (V ⟨w1.heap.size,0,O⟩)/\s8=J 0/\s9=J 0/\zS w wx w1.heap.size xl yl zs ze)
 case first=>
  go_region_held3 (λw'=>aB w' (w.heap.size+1) 2 (J 0)/\aB w' (w.heap.size+1+1) 2 (J 0))(exact qj)(fail)
  all_goals (go_wp2;go_meet)<;>exact⟨rfl,rfl,rfl,{}⟩
 case rest=>
  exact I5
def aAV(p mn mx md:Int)(k:Nat)(sx ex xh xl sy ey yh yl:Int)(tx ty:Bool)(zs ze:Int)(HT:Gz sx ex sy ey zs ze)(w:ak):
  DL p mn mx md k sx ex 0 xh xl tx 0 sy ey 1 yh yl ty 0 w zs ze 0 0 0 X 0:=by
 go_enter func84,ntmps84;go_wp2_with (go_at_call 177;refine ku (HT _) λw1 au=>?_;have:=au.e2 (w.heap.size+1) 2 4 _ _;have:=au.e2 (w.heap.size+1+1) 2 4 _ _;have iy:=au.ql w;have jB:=aA iy.1);go_cut [7,8,9] (λs7 s8 s9 wx=>s7=.pointer (V ⟨w1.heap.size,0,O⟩)/\s8=J 0/\s9=J 1/\zS w wx w1.heap.size xl yl zs ze)
 case first=>
  go_region_held3 (λw'=>aB w' (w.heap.size+1) 2 (J 0)/\aB w' (w.heap.size+1+1) 2 (J 1))(exact qj)(fail)
  all_goals (go_wp2;go_meet)<;>exact⟨rfl,rfl,rfl,{}⟩
 case rest=>
  exact I5
def aAU(p mn mx md:Int)(k:Nat)(sx ex xh xl sy ey yh yl:Int)(tx ty:Bool)(zs ze:Int)(HT:Gz sx ex sy ey zs ze)(w:ak):
  DL p mn mx md k sx ex 0 xh xl tx 0 sy ey 2 yh yl ty 0 w zs ze 4 0 0 X 0:=by
 go_enter func84,ntmps84;go_wp2_with (go_at_call 177;refine ku (HT _) λw1 au=>?_;have:=au.e2 (w.heap.size+1) 2 4 _ _;have:=au.e2 (w.heap.size+1+1) 2 4 _ _;have iy:=au.ql w;have jB:=aA iy.1);go_cut [7,8,9] (λs7 s8 s9 wx=>s7=.pointer (V ⟨w1.heap.size,0,O⟩)/\s8=J 0/\s9=J 2/\zS w wx w1.heap.size xl yl zs ze)
 case first=>
  go_region_held3 (λw'=>aB w' (w.heap.size+1) 2 (J 0)/\aB w' (w.heap.size+1+1) 2 (J 2))(exact qj)(fail)
  all_goals (go_wp2;go_meet)<;>exact⟨rfl,rfl,rfl,{}⟩
 case rest=>
  exact I5
def aAT(p mn mx md:Int)(k:Nat)(sx ex xh xl sy ey yh yl:Int)(tx ty:Bool)(zs ze:Int)(HT:Gz sx ex sy ey zs ze)(w:ak):
  DL p mn mx md k sx ex 1 xh xl tx 0 sy ey 0 yh yl ty 0 w zs ze 0 0 0 X 0:=by
 go_enter func84,ntmps84;go_wp2_with (go_at_call 177;refine ku (HT _) λw1 au=>?_;have:=au.e2 (w.heap.size+1) 2 4 _ _;have:=au.e2 (w.heap.size+1+1) 2 4 _ _;have iy:=au.ql w;have jB:=aA iy.1);go_cut [7,8,9] (λs7 s8 s9 wx=>s7=.pointer (V ⟨w1.heap.size,0,O⟩)/\s8=J 0/\s9=J 1/\zS w wx w1.heap.size xl yl zs ze)
 case first=>
  go_region_held3 (λw'=>aB w' (w.heap.size+1) 2 (J 1)/\aB w' (w.heap.size+1+1) 2 (J 0))(exact qj)(fail)
  all_goals (go_wp2;go_meet)<;>exact⟨rfl,rfl,rfl,{}⟩
 case rest=>
  exact I5
def aAS(p mn mx md:Int)(k:Nat)(sx ex xh xl sy ey yh yl:Int)(tx ty:Bool)(zs ze:Int)(HT:Gz sx ex sy ey zs ze)(mh ml:Int)(HM:KR 178 #[Y xl,Y yl] (aS mh ml))(w:ak):
  DL p mn mx md k sx ex 1 xh xl tx 0 sy ey 1 yh yl ty 0 w zs ze 1 mh ml X 0:=by
 go_enter func84,ntmps84;go_wp2_with (go_at_call 177;refine ku (HT _) λw1 au=>?_;have:=au.e2 (w.heap.size+1) 2 4 _ _;have:=au.e2 (w.heap.size+1+1) 2 4 _ _;have iy:=au.ql w;have jB:=aA iy.1);go_cut [7,8,9] (λs7 s8 s9 wx=>s7=.pointer (V ⟨w1.heap.size,0,O⟩)/\s8=J 1/\s9=J 1/\zS w wx w1.heap.size xl yl zs ze)
 case first=>
  go_region_held3 (λw'=>aB w' (w.heap.size+1) 2 (J 1)/\aB w' (w.heap.size+1+1) 2 (J 1))(exact qj)(fail)
  all_goals (go_wp2;go_meet)<;>exact⟨rfl,rfl,rfl,{}⟩
 case rest=>
  obtain⟨rfl,rfl,rfl,⟨qg,qx4,qy4,qo0,aS3,qo1,aS2,qo2,aS1,qo3,aS0,qo4,aSZ,qo5,aSY,qo6,aSX,XF,aKc,qr1,aKb,qr2,aOg,qr3,aOf,qr4,aOe,qr5,aOd,qr6,aOc⟩⟩:=hcut;have hzo:=aA qo0;have hzr:=aA XF;go_wp2_with (go_at_call 178;refine ku (HM _) λw2 aC=>?_;have lJ:=aC.ql w;have bo0:=aC.Y70 w1;have mG:=aA lJ.1;have Rj:=aA bo0.1);exact cO (by simp[results,results84,go_sem,lJ])
def aAR(p mn mx md:Int)(k:Nat)(sx ex xh xl sy ey yh yl:Int)(tx ty:Bool)(zs ze:Int)(HT:Gz sx ex sy ey zs ze)(w:ak):
  DL p mn mx md k sx ex 1 xh xl tx 0 sy ey 2 yh yl ty 0 w zs ze 2 0 0 X 0:=by
 go_enter func84,ntmps84;go_wp2_with (go_at_call 177;refine ku (HT _) λw1 au=>?_;have:=au.e2 (w.heap.size+1) 2 4 _ _;have:=au.e2 (w.heap.size+1+1) 2 4 _ _;have iy:=au.ql w;have jB:=aA iy.1);go_cut [7,8,9] (λs7 s8 s9 wx=>s7=.pointer (V ⟨w1.heap.size,0,O⟩)/\s8=J 1/\s9=J 2/\zS w wx w1.heap.size xl yl zs ze)
 case first=>
  go_region_held3 (λw'=>aB w' (w.heap.size+1) 2 (J 1)/\aB w' (w.heap.size+1+1) 2 (J 2))(exact qj)(fail)
  all_goals (go_wp2;go_meet)<;>exact⟨rfl,rfl,rfl,{}⟩
 case rest=>
  exact I5
def aAQ(p mn mx md:Int)(k:Nat)(sx ex xh xl sy ey yh yl:Int)(tx ty:Bool)(zs ze:Int)(HT:Gz sx ex sy ey zs ze)(w:ak):
  DL p mn mx md k sx ex 2 xh xl tx 0 sy ey 0 yh yl ty 0 w zs ze 4 0 0 X 0:=by
 go_enter func84,ntmps84;go_wp2_with (go_at_call 177;refine ku (HT _) λw1 au=>?_;have:=au.e2 (w.heap.size+1) 2 4 _ _;have:=au.e2 (w.heap.size+1+1) 2 4 _ _;have iy:=au.ql w;have jB:=aA iy.1);go_cut [7,8,9] (λs7 s8 s9 wx=>s7=.pointer (V ⟨w1.heap.size,0,O⟩)/\s8=J 0/\s9=J 2/\zS w wx w1.heap.size xl yl zs ze)
 case first=>
  go_region_held3 (λw'=>aB w' (w.heap.size+1) 2 (J 2)/\aB w' (w.heap.size+1+1) 2 (J 0))(exact qj)(fail)
  all_goals (go_wp2;go_meet)<;>exact⟨rfl,rfl,rfl,{}⟩
 case rest=>
  exact I5
def aAP(p mn mx md:Int)(k:Nat)(sx ex xh xl sy ey yh yl:Int)(tx ty:Bool)(zs ze:Int)(HT:Gz sx ex sy ey zs ze)(w:ak):
  DL p mn mx md k sx ex 2 xh xl tx 0 sy ey 1 yh yl ty 0 w zs ze 2 0 0 X 0:=by
 go_enter func84,ntmps84;go_wp2_with (go_at_call 177;refine ku (HT _) λw1 au=>?_;have:=au.e2 (w.heap.size+1) 2 4 _ _;have:=au.e2 (w.heap.size+1+1) 2 4 _ _;have iy:=au.ql w;have jB:=aA iy.1);go_cut [7,8,9] (λs7 s8 s9 wx=>s7=.pointer (V ⟨w1.heap.size,0,O⟩)/\s8=J 1/\s9=J 2/\zS w wx w1.heap.size xl yl zs ze)
 case first=>
  go_region_held3 (λw'=>aB w' (w.heap.size+1) 2 (J 2)/\aB w' (w.heap.size+1+1) 2 (J 1))(exact qj)(fail)
  all_goals (go_wp2;go_meet)<;>exact⟨rfl,rfl,rfl,{}⟩
 case rest=>
  exact I5
def aAO(p mn mx md:Int)(k:Nat)(sx ex xh xl sy ey yh yl:Int)(tx ty:Bool)(zs ze:Int)(HT:Gz sx ex sy ey zs ze)(w:ak):
  DL p mn mx md k sx ex 2 xh xl tx 0 sy ey 2 yh yl ty 0 w zs ze 2 0 0 X 0:=by
 go_enter func84,ntmps84;go_wp2_with (go_at_call 177;refine ku (HT _) λw1 au=>?_;have:=au.e2 (w.heap.size+1) 2 4 _ _;have:=au.e2 (w.heap.size+1+1) 2 4 _ _;have iy:=au.ql w;have jB:=aA iy.1);go_cut [7,8,9] (λs7 s8 s9 wx=>s7=.pointer (V ⟨w1.heap.size,0,O⟩)/\s8=J 2/\s9=J 2/\zS w wx w1.heap.size xl yl zs ze)
 case first=>
  go_region_held3 (λw'=>aB w' (w.heap.size+1) 2 (J 2)/\aB w' (w.heap.size+1+1) 2 (J 2))(exact qj)(fail)
  all_goals (go_wp2;go_meet)<;>exact⟨rfl,rfl,rfl,{}⟩
 case rest=>
  exact I5
def I7{P:Prop}(h:P:=by
 go_enter func86,ntmps86;go_upto_region 2 with(go_at_call 179;refine ku (HT _) λw1 au=>?_;have:=au.qM w;have:=au.e2 (w.heap.size+1) 2 4 _ _;have:=au.e2 (w.heap.size+1+1) 2 4 _ _;have iy:=au.ql w;have jB:=aA iy.1);obtain⟨w2,kK⟩:=dP (w1.alloc (.cells #[J zs,J ze] 183));have aC:Gr w1 w2:=by rw[<-kK];exact(Gr.refl _).alloc _ _
 have at0:w2.cell? ⟨w1.heap.size,0,O⟩=V (J zs):=by rw[<-kK];simp[go_sem]
 have at1:w2.cell? ⟨w1.heap.size,1,O⟩=V (J ze):=by rw[<-kK];simp[go_sem]
 have mG:w1.heap.size<w2.heap.size:=by rw[<-kK];simp
 rw[kK];clear kK;have:=aC.qM w;have:=aC.e2 (w.heap.size+1) 2 4 _ _;have:=aC.e2 (w.heap.size+1+1) 2 4 _ _;have lJ:=aC.ql w;go_wp2;exact cO (by simp[results,results86,go_sem,lJ])):P:=h
def WW(s e s' e':Int)(hs:s=0\/s=1)(ht:s'=0\/s'=1)(e0:-50000<=e)(e1:e<=50000)(f0:-50000<=e')(f1:e'<=50000)(w:ak):
  QR 179 #[kV s e,kV s' e'] w (kV (mulS s s') (e-e')):=by
 have u1:=aFl s s' hs ht;have u2:IntKind.i64.wrap (e-e')=e-e':=by rw[dI];omega
 generalize mulS s s'=z at*
 go_enter func179,ntmps179;go_wp2;go_returns;exact⟨b_ (by simp[u1,u2]),Gr.g⟩
def XE(p mn mx md:Int)(k:Nat)(sx ex xh xl sy ey yh yl:Int)(tx ty:Bool)(zs ze:Int)(HT:Gy sx ex sy ey zs ze)(w:ak):
  Gt p mn mx md k sx ex 0 xh xl tx 0 sy ey 0 yh yl ty 0 w 0 0 4 0 0 X 0:=by
 exact I7
def XD(p mn mx md:Int)(k:Nat)(sx ex xh xl sy ey yh yl:Int)(tx ty:Bool)(zs ze:Int)(HT:Gy sx ex sy ey zs ze)(w:ak):
  Gt p mn mx md k sx ex 0 xh xl tx 0 sy ey 1 yh yl ty 0 w zs ze 0 0 0 X 0:=by
 exact I7
def XC(p mn mx md:Int)(k:Nat)(sx ex xh xl sy ey yh yl:Int)(tx ty:Bool)(zs ze:Int)(HT:Gy sx ex sy ey zs ze)(w:ak):
  Gt p mn mx md k sx ex 0 xh xl tx 0 sy ey 2 yh yl ty 0 w zs ze 0 0 0 X 0:=by
 exact I7
def XB(p mn mx md:Int)(k:Nat)(sx ex xh xl sy ey yh yl:Int)(tx ty:Bool)(zs ze:Int)(HT:Gy sx ex sy ey zs ze)(w:ak):
  Gt p mn mx md k sx ex 1 xh xl tx 0 sy ey 0 yh yl ty 0 w zs ze 2 0 0 X 2:=by
 exact I7
def Xz(p mn mx md:Int)(k:Nat)(sx ex xh xl sy ey yh yl:Int)(tx ty:Bool)(zs ze:Int)(HT:Gy sx ex sy ey zs ze)(w:ak):
  Gt p mn mx md k sx ex 1 xh xl tx 0 sy ey 2 yh yl ty 0 w zs ze 0 0 0 X 0:=by
 exact I7
def Xy(p mn mx md:Int)(k:Nat)(sx ex xh xl sy ey yh yl:Int)(tx ty:Bool)(zs ze:Int)(HT:Gy sx ex sy ey zs ze)(w:ak):
  Gt p mn mx md k sx ex 2 xh xl tx 0 sy ey 0 yh yl ty 0 w zs ze 2 0 0 X 0:=by
 exact I7
def Xx(p mn mx md:Int)(k:Nat)(sx ex xh xl sy ey yh yl:Int)(tx ty:Bool)(zs ze:Int)(HT:Gy sx ex sy ey zs ze)(w:ak):
  Gt p mn mx md k sx ex 2 xh xl tx 0 sy ey 1 yh yl ty 0 w zs ze 2 0 0 X 0:=by
 exact I7
def Xw(p mn mx md:Int)(k:Nat)(sx ex xh xl sy ey yh yl:Int)(tx ty:Bool)(zs ze:Int)(HT:Gy sx ex sy ey zs ze)(w:ak):
  Gt p mn mx md k sx ex 2 xh xl tx 0 sy ey 2 yh yl ty 0 w 0 0 4 0 0 X 0:=by
 exact I7
def XA(p mn mx md:Int)(k:Nat)(sx ex xh xl sy ey yh yl:Int)(tx ty:Bool)(zs ze:Int)(HT:Gy sx ex sy ey zs ze)(A B:Nat)(hA:xl=(A:Int))(hB:yl=(B:Int))(hA1:aI A)(hB1:aI B)(os oe oc oh ol:Int)(ot:Bool)
  (HC:Hid (∀w v,zU (λ_ _=>B) A w v->QR 180 #[eu p mn mx md k,kV zs ze,v] w (bP os oe oc oh ol ot 0))) (w:ak):
  Gt p mn mx md k sx ex 1 xh xl tx 0 sy ey 1 yh yl ty 0 w os oe oc oh ol ot 0:=by
 subst hA hB;have HQ:Hid (∀w,CT 181 #[Y (A:Int),Y (B:Int)] w λe w'=>∃b1 b2,e=.returned (.func (.func 306) #[] #[.pointer (V ⟨b1,0,O⟩),.pointer (V ⟨b2,0,O⟩)])/\zU (λ_ _=>B) A w' (.func (.func 306) #[] #[.pointer (V ⟨b1,0,O⟩),.pointer (V ⟨b2,0,O⟩)])/\Gr w w'):=λw=>(xQ A B hA1 hB1 w).mono (by
  rintro e w' ⟨v,rfl,hd,hg⟩;obtain⟨b1,b2,rfl,hh⟩:=hd;exact⟨b1,b2,rfl,⟨b1,b2,rfl,hh⟩,hg⟩)
 go_enter func86,ntmps86;go_upto_region 2 with(go_at_call 179;refine ku (HT _) λw1 au=>?_;have:=au.qM w;have:=au.e2 (w.heap.size+1) 2 4 _ _;have:=au.e2 (w.heap.size+1+1) 2 4 _ _;have iy:=au.ql w;have jB:=aA iy.1);obtain⟨w2,kK⟩:=dP (w1.alloc (.cells #[J zs,J ze] 183));have aC:Gr w1 w2:=by rw[<-kK];exact(Gr.refl _).alloc _ _
 have at0:w2.cell? ⟨w1.heap.size,0,O⟩=V (J zs):=by rw[<-kK];simp[go_sem]
 have at1:w2.cell? ⟨w1.heap.size,1,O⟩=V (J ze):=by rw[<-kK];simp[go_sem]
 have mG:w1.heap.size<w2.heap.size:=by rw[<-kK];simp
 rw[kK];clear kK;have:=aC.qM w;have:=aC.e2 (w.heap.size+1) 2 4 _ _;have:=aC.e2 (w.heap.size+1+1) 2 4 _ _;have:=aC.ql w;go_wp2;go_region_held3 (λw'=>uj w' w.heap.size 0 1 2 3 4 (J p) (J mn) (J mx) (J md) (.func (.func k) #[] #[])/\aB w' (w.heap.size+1) 4 (Y (A:Int))/\aB w' (w.heap.size+1+1) 4 (Y (B:Int))/\lW w' w1.heap.size 0 1 (J zs) (J ze))(exact qX)(first|(go_at_call 181;refine(HQ _).mono ?_;rintro e w4 ⟨b1,b2,rfl,hdg,bg⟩;have:=bg.ql w)|(go_at_call 180;refine ku (HC _ _ (zU.gr hdg Gr.g)) λw3 aO=>?_;have yZ:=aO.ql w))
 all_goals go_wp2
 all_goals
  exact cO (by simp[results,results86,go_sem,yZ])
def aCb{P:Prop}(h:P:=by
 go_enter func88,ntmps88;go_wp2;go_returns;exact⟨rfl,Gr.g⟩):P:=h
def K_(p mn mx md:Int)(k:Nat)(sx ex cx xh xl sy ey cy yh yl:Int)(tx ty:Bool)(w:ak):
  Zu p mn mx md k sx ex 0 xh xl tx 0 sy ey cy yh yl ty 0 w sx ex 0 xh xl tx 0:=by
 exact aCb
def Le(p mn mx md:Int)(k:Nat)(sx ex cx xh xl sy ey cy yh yl:Int)(tx ty:Bool)(w:ak):
  Zu p mn mx md k 1 ex 1 xh xl tx 0 sy ey cy yh yl ty 0 w 0 0 4 0 0 X 0:=by
 exact aCb
def Ld(p mn mx md:Int)(k:Nat)(sx ex cx xh xl sy ey cy yh yl:Int)(tx ty:Bool)(w:ak):
  Zu p mn mx md k 1 ex 2 xh xl tx 0 sy ey cy yh yl ty 0 w 0 0 4 0 0 X 0:=by
 exact aCb
def NG(p mn mx md:Int)(k:Nat)(sx ex cx xh xl sy ey cy yh yl:Int)(tx ty:Bool)(w:ak):
  Zu p mn mx md k 0 ex 2 xh xl tx 0 sy ey cy yh yl ty 0 w 0 ex 2 xh xl tx 0:=by
 exact aCb
structure aSp (w wx:ak) (p mn mx md:Int) (k:Nat) (xl:Int):Prop where
 g:Gr w wx:=by exact kr
 s0:aB wx w.heap.size 0 (J p):=by exact kl
 s1:aB wx w.heap.size 1 (J mn):=by exact kl
 s2:aB wx w.heap.size 2 (J mx):=by exact kl
 s3:aB wx w.heap.size 3 (J md):=by exact kl
 s4:aB wx w.heap.size 4 (.func (.func k) #[] #[]):=by exact kl
 x4:aB wx (w.heap.size+1) 4 (Y xl):=by exact kl
 r0:aB wx (w.heap.size+1+1+1) 0 (J 0):=by exact kl
 r0z:dL wx (w.heap.size+1+1+1) 0:=by exact kl
 r1:aB wx (w.heap.size+1+1+1) 1 (J 0):=by exact kl
 r1z:dL wx (w.heap.size+1+1+1) 1:=by exact kl
 r2:aB wx (w.heap.size+1+1+1) 2 (J 0):=by exact kl
 r2z:dL wx (w.heap.size+1+1+1) 2:=by exact kl
 r3:aB wx (w.heap.size+1+1+1) 3 (Y 0):=by exact kl
 r3z:dL wx (w.heap.size+1+1+1) 3:=by exact kl
 r4:aB wx (w.heap.size+1+1+1) 4 (Y 0):=by exact kl
 r4z:dL wx (w.heap.size+1+1+1) 4:=by exact kl
 r5:aB wx (w.heap.size+1+1+1) 5 (Z X):=by exact kl
 r5z:dL wx (w.heap.size+1+1+1) 5:=by exact kl
 r6:aB wx (w.heap.size+1+1+1) 6 (J 0):=by exact kl
 r6z:dL wx (w.heap.size+1+1+1) 6:=by exact kl
def ND(p mn mx md:Int)(k:Nat)(ex xh xl sy ey cy yh yl:Int)(tx ty:Bool)(fb hi od t sh hq:Int)(Nn:Nat)(hN:aI Nn)(b0:0<=fb)(b1:fb<=60)(e0:-50000<=ex)(e1:ex<=50000)(h1:IntKind.i64.wrap (ex+fb)=hi)(h2:bits .and .i64 hi 1=od)(h3:IntKind.i64.wrap (60-fb)=t)(h4:IntKind.i64.wrap (t+od)=sh)(s0:0<=sh)(s1:sh<=62)(h5:IntKind.u64.wrap (xl*2^sh.toNat)=(Nn:Int))(h6:hi/2=hq)(q0:-100000<=hq)(q1:hq<=100000)(o0:0<=od)(o1:od<=1)
  (HF:Gx p mn mx fb) (os oe oc oh ol:Int) (ot:Bool)
  (HC:Hid (∀w v,zU dB Nn w v->QR 180 #[eu p mn mx md k,kV 0 hq,v] w (bP os oe oc oh ol ot 0))) (w:ak):
  Zu p mn mx md k 0 ex 1 xh xl tx 0 sy ey cy yh yl ty 0 w os oe oc oh ol ot 0:=by
 have HQ:Hid (∀w,CT 183 #[Y (Nn:Int)] w λe w'=>∃b1 b2,e=.returned (.func (.func 306) #[] #[.pointer (V ⟨b1,0,O⟩),.pointer (V ⟨b2,0,O⟩)])/\zU dB Nn w' (.func (.func 306) #[] #[.pointer (V ⟨b1,0,O⟩),.pointer (V ⟨b2,0,O⟩)])/\Gr w w'):=λw=>(Oa Nn hN w).mono (by
  rintro e w' ⟨v,rfl,hd,hg⟩;obtain⟨b1,b2,rfl,hh⟩:=hd;exact⟨b1,b2,rfl,⟨b1,b2,rfl,hh⟩,hg⟩)
 go_enter func88,ntmps88;go_wp2;go_cut [7] (λs7 wx=>s7=J hi/\aSp w wx p mn mx md k xl)
 case first=>
  go_region_held3 (λw'=>jU w' w.heap.size 0 1 2 (J p) (J mn) (J mx)/\aB w' (w.heap.size+1) 1 (J ex))(exact qX)(first|(go_at_call 182;refine ku (HF _) λw1 au=>?_))
  all_goals (go_wp2;go_meet)<;>exact⟨rfl,{}⟩
 case rest=>
  obtain⟨rfl,⟨qg,qs0,qs1,qs2,qs3,qs4,qx4,XF,aKe,qr1,aKd,qr2,aQu,qr3,aQt,qr4,aQs,qr5,aQr,qr6,aQq⟩⟩:=hcut;go_wp2;go_cut [8] (λs8 wy=>s8=Y (Nn:Int)/\aSp w wy p mn mx md k xl)
  case first=>
   go_region_held3 (λw'=>jU w' w.heap.size 0 1 2 (J p) (J mn) (J mx)/\aB w' (w.heap.size+1) 4 (Y xl))(exact qX)(first|(go_at_call 182;refine ku (HF _) λw2 aC=>?_))
   all_goals (go_wp2;go_meet)<;>exact⟨rfl,{}⟩
  case rest=>
   clear qs0 qs1 qs2 qs3 qs4 qx4 XF aKe qr1 aKd qr2 aQu qr3 aQt qr4 aQs qr5 aQr qr6 aQq;obtain⟨rfl,⟨vg,vs0,vs1,vs2,vs3,vs4,vx4,vr0,aSz,vr1,aSy,vr2,aVa,vr3,aU9,vr4,aU8,vr5,aU7,vr6,aU6⟩⟩:=hcut;go_wp2;go_region_held3 (λw'=>uj w' w.heap.size 0 1 2 3 4 (J p) (J mn) (J mx) (J md) (.func (.func k) #[] #[]))(exact qX)(first|(go_at_call 183;refine(HQ _).mono ?_;rintro e w4 ⟨b1,b2,rfl,hdg,bg⟩;have:=bg.ql w)|(go_at_call 180;refine ku (HC _ _ (zU.gr hdg Gr.g)) λw3 aO=>?_;have yZ:=aO.ql w))
   all_goals go_wp2
   all_goals
    exact cO (by simp[results,results88,go_sem,yZ])
def WE{P:Prop}(h:P:=by
 go_enter func90,ntmps90;go_wp2;go_returns;exact⟨rfl,Gr.g⟩):P:=h
def aMw{P:Prop}(h:P:=by
 have HQ:Hid (∀w,CT 181 #[Y (A:Int),Y (B:Int)] w λe w'=>∃b1 b2,e=.returned (.func (.func 306) #[] #[.pointer (V ⟨b1,0,O⟩),.pointer (V ⟨b2,0,O⟩)])/\zU (λ_ _=>B) A w' (.func (.func 306) #[] #[.pointer (V ⟨b1,0,O⟩),.pointer (V ⟨b2,0,O⟩)])/\Gr w w'):=λw=>(xQ A B hA1 hB1 w).mono (by
  rintro e w' ⟨v,rfl,hd,hg⟩;obtain⟨b1,b2,rfl,hh⟩:=hd;exact⟨b1,b2,rfl,⟨b1,b2,rfl,hh⟩,hg⟩)
 exact aMx):P:=h
def aMx{P:Prop}(h:P:=by
 go_enter func90,ntmps90;go_upto_region 11 with(first|(go_at_call 181;refine(HQ _).mono ?_;rintro e w1 ⟨b1,b2,rfl,hdg,au⟩)|(go_at_call 184;refine ku (HF _ _ hdg) λw2 aC=>?_;obtain⟨bx0,aUA,bx1,aUz,bx2,aUy,bx3,aUx,bx4,aUw,bx5,aUv,bx6,aUu⟩:=aC.y7 (w.heap.size+1) 0 1 2 3 4 5 6 (J sx) (J ex) (J 1) (Y xh) (Y ((A:Int))) (Z tx) (J 0);obtain⟨by0,Zf,by2,by3,by4,by5,by6⟩:=aC.e7 (w.heap.size+1+1) 0 1 2 3 4 5 6 (J sy) (J ey) (J 1) (Y yh) (Y ((B:Int))) (Z ty) (J 0);obtain⟨lJ,aUH,br1,aUG,br2,aUF,br3,aUE,br4,aUD,br5,aUC,br6,aUB⟩:=aC.yo (w.heap.size+1+1+1)))
 have hcut:aUL w (((w2.setCell ⟨w.heap.size+1,1,O⟩ (J (ey-1))).setCell ⟨w.heap.size+1,3,O⟩ (Y 0)).setCell ⟨w.heap.size+1,4,O⟩ (Y (L:Int))) sx (ey-1) (L:Int) yh (B:Int) tx:={};generalize(((w2.setCell ⟨w.heap.size+1,1,O⟩ (J (ey-1))).setCell ⟨w.heap.size+1,3,O⟩ (Y 0)).setCell ⟨w.heap.size+1,4,O⟩ (Y (L:Int)))=w5 at hcut⊢
 clear bx0 aUA bx1 aUz bx2 aUy bx3 aUx bx4 aUw bx5 aUv bx6 aUu by0 Zf by2 by3 by4 by5 by6 lJ aUH br1 aUG br2 aUF br3 aUE br4 aUD br5 aUC br6 aUB;obtain⟨qg,qy3,qy4,qx0,aVn,qx1,aVm,qx2,aVl,qx3,aVk,qx4,aVj,qx5,aVi,qx6,aVh,XF,aKe,qr1,aKd,qr2,aQu,qr3,aQt,qr4,aQs,qr5,aQr,qr6,aQq⟩:=hcut;go_wp2_with (first|(go_at_call 185;refine kw (HE _) ?_))
 exact cO (by simp[results,results90,go_sem,XF,qr1,qr2,qr3,qr4,qr5,qr6])):P:=h
def Oj(p mn mx md:Int)(k:Nat)(sx ex cx xh xl sy ey cy yh yl:Int)(tx ty:Bool)(w:ak):
  Gs p mn mx md k sx ex 2 xh xl tx 0 sy ey cy yh yl ty 0 w 0 0 4 0 0 X 0:=by
 exact WE
def Oi(p mn mx md:Int)(k:Nat)(sx ex cx xh xl sy ey cy yh yl:Int)(tx ty:Bool)(h:(cx==2)=X)(w:ak):
  Gs p mn mx md k sx ex cx xh xl tx 0 sy ey 0 yh yl ty 0 w 0 0 4 0 0 X 0:=by
 exact WE
def Oe(p mn mx md:Int)(k:Nat)(sx ex cx xh xl sy ey cy yh yl:Int)(tx ty:Bool)(h:(cy==0)=X)(w:ak):
  Gs p mn mx md k sx ex 0 xh xl tx 0 sy ey cy yh yl ty 0 w sx ex 0 xh xl tx 0:=by
 exact WE
def Q5(p mn mx md:Int)(k:Nat)(sx ex cx xh xl sy ey cy yh yl:Int)(tx ty:Bool)(w:ak):
  Gs p mn mx md k sx ex 1 xh xl tx 0 sy ey 2 yh yl ty 0 w sx ex 1 xh xl tx 0:=by
 exact WE
def QZ(p mn mx md:Int)(k:Nat)(sx ex cx xh xl sy ey cy yh yl:Int)(tx ty:Bool)(e0:-50000<=ex)(e1:ex<=50000)(f0:-50000<=ey)(f1:ey<=50000)(h:ex-ey+2<1)(w:ak):
  Gs p mn mx md k sx ex 1 xh xl tx 0 sy ey 1 yh yl ty 0 w sx ex 1 xh xl tx 0:=by
 exact WE
structure aUL (w wx:ak) (sx e1 L yh B:Int) (tx:Bool):Prop where
 g:Gr w wx:=by exact kr
 y3:aB wx (w.heap.size+1+1) 3 (Y yh):=by exact kl
 y4:aB wx (w.heap.size+1+1) 4 (Y B):=by exact kl
 x0:aB wx (w.heap.size+1) 0 (J sx):=by exact kl
 x0z:dL wx (w.heap.size+1) 0:=by exact kl
 x1:aB wx (w.heap.size+1) 1 (J e1):=by exact kl
 x1z:dL wx (w.heap.size+1) 1:=by exact kl
 x2:aB wx (w.heap.size+1) 2 (J 1):=by exact kl
 x2z:dL wx (w.heap.size+1) 2:=by exact kl
 x3:aB wx (w.heap.size+1) 3 (Y 0):=by exact kl
 x3z:dL wx (w.heap.size+1) 3:=by exact kl
 x4:aB wx (w.heap.size+1) 4 (Y L):=by exact kl
 x4z:dL wx (w.heap.size+1) 4:=by exact kl
 x5:aB wx (w.heap.size+1) 5 (Z tx):=by exact kl
 x5z:dL wx (w.heap.size+1) 5:=by exact kl
 x6:aB wx (w.heap.size+1) 6 (J 0):=by exact kl
 x6z:dL wx (w.heap.size+1) 6:=by exact kl
 r0:aB wx (w.heap.size+1+1+1) 0 (J 0):=by exact kl
 r0z:dL wx (w.heap.size+1+1+1) 0:=by exact kl
 r1:aB wx (w.heap.size+1+1+1) 1 (J 0):=by exact kl
 r1z:dL wx (w.heap.size+1+1+1) 1:=by exact kl
 r2:aB wx (w.heap.size+1+1+1) 2 (J 0):=by exact kl
 r2z:dL wx (w.heap.size+1+1+1) 2:=by exact kl
 r3:aB wx (w.heap.size+1+1+1) 3 (Y 0):=by exact kl
 r3z:dL wx (w.heap.size+1+1+1) 3:=by exact kl
 r4:aB wx (w.heap.size+1+1+1) 4 (Y 0):=by exact kl
 r4z:dL wx (w.heap.size+1+1+1) 4:=by exact kl
 r5:aB wx (w.heap.size+1+1+1) 5 (Z X):=by exact kl
 r5z:dL wx (w.heap.size+1+1+1) 5:=by exact kl
 r6:aB wx (w.heap.size+1+1+1) 6 (J 0):=by exact kl
 r6z:dL wx (w.heap.size+1+1+1) 6:=by exact kl
def UF(p mn mx md:Int)(k:Nat)(sx ex xh sy ey yh:Int)(tx ty:Bool)(A B:Nat)(hA1:aI A)(hB1:aI B)(e0:-50000<=ex)(e1:ex<=50000)(f0:-50000<=ey)(f1:ey<=50000)(P:Nat)(hP:ex-ey+2=(P:Int))(ZL:¬(P:Int)<1)(C L:Nat)(hC:aI C)(hL:L<=B)(c2 c1:Int)(odd half lb:Bool)(h2:bits .and .u64 (C:Int) 2=c2)(h1:bits .and .u64 (C:Int) 1=c1)(hod:(c2 != 0)=odd)(hha:(c1 != 0)=half)(hlb:((L:Int) != 0)=lb)(ts:Int)(hts:bits .xor .i64 sx 1=ts)
  (HF:Hid (∀w v,zU (λ_ _=>B) A w v->QR 184 #[v,J (P:Int)] w (.tuple #[Y (C:Int),Y (L:Int)])))
  (HE:KW 185 #[Z X,Z odd,Z half,Z lb] (Z true)) (w:ak):
  Gs p mn mx md k sx ex 1 xh ((A:Int)) tx 0 sy ey 1 yh ((B:Int)) ty 0 w ts (ey-1) 1 0 (((B-L:Nat):Int)) tx 0:=by
 have HQ:Hid (∀w,CT 181 #[Y (A:Int),Y (B:Int)] w λe w'=>∃b1 b2,e=.returned (.func (.func 306) #[] #[.pointer (V ⟨b1,0,O⟩),.pointer (V ⟨b2,0,O⟩)])/\zU (λ_ _=>B) A w' (.func (.func 306) #[] #[.pointer (V ⟨b1,0,O⟩),.pointer (V ⟨b2,0,O⟩)])/\Gr w w'):=λw=>(xQ A B hA1 hB1 w).mono (by
  rintro e w' ⟨v,rfl,hd,hg⟩;obtain⟨b1,b2,rfl,hh⟩:=hd;exact⟨b1,b2,rfl,⟨b1,b2,rfl,hh⟩,hg⟩)
 have hbl:(B:Int)-(L:Int)=((B-L:Nat):Int):=om;have aWg:(L:Int)<=(B:Int):=om;exact aMx
def Oh(p mn mx md:Int)(k:Nat)(sx ex xh sy ey yh:Int)(tx ty:Bool)(A B:Nat)(hA1:aI A)(hB1:aI B)(e0:-50000<=ex)(e1:ex<=50000)(f0:-50000<=ey)(f1:ey<=50000)(P:Nat)(hP:ex-ey+2=(P:Int))(ZL:¬(P:Int)<1)(C L:Nat)(hC:aI C)(hL:L<=B)(c2 c1:Int)(odd lb:Bool)(h2:bits .and .u64 (C:Int) 2=c2)(h1:bits .and .u64 (C:Int) 1=c1)(hod:(c2 != 0)=odd)(hha:(c1 != 0)=true)(hlb:((L:Int) != 0)=lb)
  (HF:Hid (∀w v,zU (λ_ _=>B) A w v->QR 184 #[v,J (P:Int)] w (.tuple #[Y (C:Int),Y (L:Int)])))
  (HE:KW 185 #[Z X,Z odd,Z true,Z lb] (Z X)) (w:ak):
  Gs p mn mx md k sx ex 1 xh ((A:Int)) tx 0 sy ey 1 yh ((B:Int)) ty 0 w sx (ey-1) 1 yh ((B:Int)) tx 0:=by
 exact aMw
def Og(p mn mx md:Int)(k:Nat)(sx ex xh sy ey yh:Int)(tx ty:Bool)(A B:Nat)(hA1:aI A)(hB1:aI B)(e0:-50000<=ex)(e1:ex<=50000)(f0:-50000<=ey)(f1:ey<=50000)(P:Nat)(hP:ex-ey+2=(P:Int))(ZL:¬(P:Int)<1)(C L:Nat)(hC:aI C)(hL:L<=B)(c2 c1:Int)(odd lb:Bool)(h2:bits .and .u64 (C:Int) 2=c2)(h1:bits .and .u64 (C:Int) 1=c1)(hod:(c2 != 0)=odd)(hha:(c1 != 0)=X)(hlb:((L:Int) != 0)=lb)
  (HF:Hid (∀w v,zU (λ_ _=>B) A w v->QR 184 #[v,J (P:Int)] w (.tuple #[Y (C:Int),Y (L:Int)])))
  (HE:KW 185 #[Z X,Z odd,Z X,Z lb] (Z X)) (w:ak):
  Gs p mn mx md k sx ex 1 xh ((A:Int)) tx 0 sy ey 1 yh ((B:Int)) ty 0 w sx (ey-1) 1 0 ((L:Int)) tx 0:=by
 exact aMw
