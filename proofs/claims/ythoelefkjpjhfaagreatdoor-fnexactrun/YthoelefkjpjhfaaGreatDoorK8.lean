import Derived.Test.YthoelefkjpjhfaaGreatDoorK4
import Derived.Test.YthoelefkjpjhfaaGreatDoorM6
set_option linter.all false
set_option maxRecDepth 1000000
set_option maxHeartbeats 40000000
open Option renaming none → O, some → V
open Bool renaming false → X
open Go.Proofs.YthoelefkjpjhfaaGreatDoor renaming vI → J, vU → Y
open Go.Value renaming bool → Z
open Go.Proofs.Tryz
namespace Go.Proofs.YthoelefkjpjhfaaGreatDoor
open Go.RowKit
def aAP{P:Prop}(h:P:=by
 go_enter func82,ntmps82;go_wp2;go_returns;exact⟨rfl,Gr.g⟩):P:=h
attribute [local go_sem] aA dB
def aMk(p mn mx md:Int)(k:Nat)(sx ex cx xh xl sy ey cy yh yl:Int)(tx ty:Bool)(h:cy<cx)(w:World):
  XT p mn mx md k sx ex cx xh xl tx 0 sy ey cy yh yl ty 0 w sx ex cx xh xl tx 0:=by
 exact aAP
def sum_lt(p mn mx md:Int)(k:Nat)(sx ex cx xh xl sy ey cy yh yl:Int)(tx ty:Bool)(h:cx<cy)(w:World):
  XT p mn mx md k sx ex cx xh xl tx 0 sy ey cy yh yl ty 0 w sy ey cy yh yl ty 0:=by
 exact aAP
def aMj(p mn mx md:Int)(k:Nat)(sx ex cx xh xl sy ey cy yh yl:Int)(tx ty:Bool)(h1:cx=cy)(h2:(cx==1)=X)(h3:sx=sy)(w:World):
  XT p mn mx md k sx ex cx xh xl tx 0 sy ey cy yh yl ty 0 w sx ex cx xh xl tx 0:=by
 subst h1 h3;exact aAP
def aId(p mn mx md:Int)(k:Nat)(sx ex cx xh xl sy ey cy yh yl:Int)(tx ty:Bool)(h1:cx=2)(h2:cy=2)(h3:(sx==sy)=X)(w:World):
  XT p mn mx md k sx ex cx xh xl tx 0 sy ey cy yh yl ty 0 w 0 0 4 0 0 X 0:=by
 subst h1 h2;exact aAP
def sum_nil(p mn mx md:Int)(k:Nat)(sx ex cx xh xl sy ey cy yh yl:Int)(tx ty:Bool)(h1:cx=0)(h2:cy=0)(h3:(sx==sy)=X)(os oe oc oh ol:Int)(ot:Bool)(HN:KR 176 #[dN p mn mx md k] (aU os oe oc oh ol ot 0))(w:World):
  XT p mn mx md k sx ex cx xh xl tx 0 sy ey cy yh yl ty 0 w os oe oc oh ol ot 0:=by
 subst h1 h2;go_enter func82,ntmps82;go_wp2_with (go_at_call 176;refine ku (HN _) λw1 ak=>?_;have gG:=ak.nY w);exact bW (by simp[results,Tryz.results82,go_sem,gG])
def aIc(p mn mx md:Int)(k:Nat)(sx ex cx xh xl sy ey cy yh yl:Int)(tx ty:Bool)(h1:cx=1)(h2:cy=1)(Q:Int->Int->Int->Int->Int->Bool->Prop)(HT:Hid (∀w,CT 175 #[dN p mn mx md k,aU sx ex 1 xh xl tx 0,aU sy ey 1 yh yl ty 0] w λe w'=>∃os oe oc oh ol ot,Q os oe oc oh ol ot/\e=.returned (aU os oe oc oh ol ot 0)/\Gr w w'))(w:World):
  CT 82 #[dN p mn mx md k,aU sx ex cx xh xl tx 0,aU sy ey cy yh yl ty 0] w λe w'=>∃os oe oc oh ol ot,Q os oe oc oh ol ot/\e=.returned (aU os oe oc oh ol ot 0)/\Gr w w':=by
 subst h1 h2;go_enter func82,ntmps82;go_wp2_with (go_at_call 175;refine(HT _).mono ?_;rintro e w1 ⟨os,oe,oc,oh,ol,ot,hq,rfl,ak⟩;have gG:=ak.nY w);refine bodyPost_ret (v:=aU os oe oc oh ol ot 0) (by simp[results,Tryz.results82,go_sem,gG]) rfl ⟨os,oe,oc,oh,ol,ot,hq,rfl,?_⟩;exact Gr.g
def Gq{P:Prop}(h:P:=by
 obtain⟨rfl,rfl,rfl,⟨qg,qx4,qy4,qo0,aRo,qo1,aRn,qo2,aRm,qo3,aRl,qo4,aRk,qo5,aRj,qo6,aRi,VF,aIN,qr1,aIM,qr2,aMF,qr3,aME,qr4,aMD,qr5,aMC,qr6,aMB⟩⟩:=hcut;have hzo:=au qo0;have hzr:=au VF;go_wp2;exact bW (by simp[results,Tryz.results84,go_sem,VF,qr1,qr2,qr3,qr4,qr5,qr6])):P:=h
structure xR (w wx:World) (o:Nat) (xl yl zs ze:Int):Prop where
 g:Gr w wx:=by exact kr
 x4:aA wx (w.heap.size+1) 4 (Y xl):=by exact kl
 y4:aA wx (w.heap.size+1+1) 4 (Y yl):=by exact kl
 o0:aA wx o 0 (J zs):=by exact kl
 oz0:dB wx o 0:=by exact kl
 o1:aA wx o 1 (J ze):=by exact kl
 oz1:dB wx o 1:=by exact kl
 o2:aA wx o 2 (J 1):=by exact kl
 oz2:dB wx o 2:=by exact kl
 o3:aA wx o 3 (Y 0):=by exact kl
 oz3:dB wx o 3:=by exact kl
 o4:aA wx o 4 (Y 0):=by exact kl
 oz4:dB wx o 4:=by exact kl
 o5:aA wx o 5 (Z X):=by exact kl
 oz5:dB wx o 5:=by exact kl
 o6:aA wx o 6 (J 0):=by exact kl
 oz6:dB wx o 6:=by exact kl
 r0:aA wx (w.heap.size+1+1+1) 0 (J 0):=by exact kl
 rz0:dB wx (w.heap.size+1+1+1) 0:=by exact kl
 r1:aA wx (w.heap.size+1+1+1) 1 (J 0):=by exact kl
 rz1:dB wx (w.heap.size+1+1+1) 1:=by exact kl
 r2:aA wx (w.heap.size+1+1+1) 2 (J 0):=by exact kl
 rz2:dB wx (w.heap.size+1+1+1) 2:=by exact kl
 r3:aA wx (w.heap.size+1+1+1) 3 (Y 0):=by exact kl
 rz3:dB wx (w.heap.size+1+1+1) 3:=by exact kl
 r4:aA wx (w.heap.size+1+1+1) 4 (Y 0):=by exact kl
 rz4:dB wx (w.heap.size+1+1+1) 4:=by exact kl
 r5:aA wx (w.heap.size+1+1+1) 5 (Z X):=by exact kl
 rz5:dB wx (w.heap.size+1+1+1) 5:=by exact kl
 r6:aA wx (w.heap.size+1+1+1) 6 (J 0):=by exact kl
 rz6:dB wx (w.heap.size+1+1+1) 6:=by exact kl
def Zh(p mn mx md:Int)(k:Nat)(sx ex xh xl sy ey yh yl:Int)(tx ty:Bool)(zs ze:Int)(HT:EI sx ex sy ey zs ze)(w:World):
  Bz p mn mx md k sx ex 0 xh xl tx 0 sy ey 0 yh yl ty 0 w zs ze 0 0 0 X 0:=by
 go_enter func84,ntmps84;go_wp2_with (go_at_call 177;refine ku (HT _) λw1 ak=>?_;have:=ak.e2 (w.heap.size+1) 2 4 _ _;have:=ak.e2 (w.heap.size+1+1) 2 4 _ _;have gG:=ak.nY w;have iR:=au gG.1);go_cut [7,8,9] (λs7 s8 s9 wx=>s7=.pointer (V ⟨w1.heap.size,0,O⟩)/\s8=J 0/\s9=J 0/\xR w wx w1.heap.size xl yl zs ze)
 case first=>
  go_region_held3 (λw'=>aA w' (w.heap.size+1) 2 (J 0)/\aA w' (w.heap.size+1+1) 2 (J 0))(exact nX)(fail)
  all_goals (go_wp2;go_meet)<;>exact⟨rfl,rfl,rfl,{}⟩
 case rest=>
  exact Gq
def Zg(p mn mx md:Int)(k:Nat)(sx ex xh xl sy ey yh yl:Int)(tx ty:Bool)(zs ze:Int)(HT:EI sx ex sy ey zs ze)(w:World):
  Bz p mn mx md k sx ex 0 xh xl tx 0 sy ey 1 yh yl ty 0 w zs ze 0 0 0 X 0:=by
 go_enter func84,ntmps84;go_wp2_with (go_at_call 177;refine ku (HT _) λw1 ak=>?_;have:=ak.e2 (w.heap.size+1) 2 4 _ _;have:=ak.e2 (w.heap.size+1+1) 2 4 _ _;have gG:=ak.nY w;have iR:=au gG.1);go_cut [7,8,9] (λs7 s8 s9 wx=>s7=.pointer (V ⟨w1.heap.size,0,O⟩)/\s8=J 0/\s9=J 1/\xR w wx w1.heap.size xl yl zs ze)
 case first=>
  go_region_held3 (λw'=>aA w' (w.heap.size+1) 2 (J 0)/\aA w' (w.heap.size+1+1) 2 (J 1))(exact nX)(fail)
  all_goals (go_wp2;go_meet)<;>exact⟨rfl,rfl,rfl,{}⟩
 case rest=>
  exact Gq
def Zf(p mn mx md:Int)(k:Nat)(sx ex xh xl sy ey yh yl:Int)(tx ty:Bool)(zs ze:Int)(HT:EI sx ex sy ey zs ze)(w:World):
  Bz p mn mx md k sx ex 0 xh xl tx 0 sy ey 2 yh yl ty 0 w zs ze 4 0 0 X 0:=by
 go_enter func84,ntmps84;go_wp2_with (go_at_call 177;refine ku (HT _) λw1 ak=>?_;have:=ak.e2 (w.heap.size+1) 2 4 _ _;have:=ak.e2 (w.heap.size+1+1) 2 4 _ _;have gG:=ak.nY w;have iR:=au gG.1);go_cut [7,8,9] (λs7 s8 s9 wx=>s7=.pointer (V ⟨w1.heap.size,0,O⟩)/\s8=J 0/\s9=J 2/\xR w wx w1.heap.size xl yl zs ze)
 case first=>
  go_region_held3 (λw'=>aA w' (w.heap.size+1) 2 (J 0)/\aA w' (w.heap.size+1+1) 2 (J 2))(exact nX)(fail)
  all_goals (go_wp2;go_meet)<;>exact⟨rfl,rfl,rfl,{}⟩
 case rest=>
  exact Gq
def Ze(p mn mx md:Int)(k:Nat)(sx ex xh xl sy ey yh yl:Int)(tx ty:Bool)(zs ze:Int)(HT:EI sx ex sy ey zs ze)(w:World):
  Bz p mn mx md k sx ex 1 xh xl tx 0 sy ey 0 yh yl ty 0 w zs ze 0 0 0 X 0:=by
 go_enter func84,ntmps84;go_wp2_with (go_at_call 177;refine ku (HT _) λw1 ak=>?_;have:=ak.e2 (w.heap.size+1) 2 4 _ _;have:=ak.e2 (w.heap.size+1+1) 2 4 _ _;have gG:=ak.nY w;have iR:=au gG.1);go_cut [7,8,9] (λs7 s8 s9 wx=>s7=.pointer (V ⟨w1.heap.size,0,O⟩)/\s8=J 0/\s9=J 1/\xR w wx w1.heap.size xl yl zs ze)
 case first=>
  go_region_held3 (λw'=>aA w' (w.heap.size+1) 2 (J 1)/\aA w' (w.heap.size+1+1) 2 (J 0))(exact nX)(fail)
  all_goals (go_wp2;go_meet)<;>exact⟨rfl,rfl,rfl,{}⟩
 case rest=>
  exact Gq
def Zd(p mn mx md:Int)(k:Nat)(sx ex xh xl sy ey yh yl:Int)(tx ty:Bool)(zs ze:Int)(HT:EI sx ex sy ey zs ze)(mh ml:Int)(HM:KR 178 #[Y xl,Y yl] (aN mh ml))(w:World):
  Bz p mn mx md k sx ex 1 xh xl tx 0 sy ey 1 yh yl ty 0 w zs ze 1 mh ml X 0:=by
 go_enter func84,ntmps84;go_wp2_with (go_at_call 177;refine ku (HT _) λw1 ak=>?_;have:=ak.e2 (w.heap.size+1) 2 4 _ _;have:=ak.e2 (w.heap.size+1+1) 2 4 _ _;have gG:=ak.nY w;have iR:=au gG.1);go_cut [7,8,9] (λs7 s8 s9 wx=>s7=.pointer (V ⟨w1.heap.size,0,O⟩)/\s8=J 1/\s9=J 1/\xR w wx w1.heap.size xl yl zs ze)
 case first=>
  go_region_held3 (λw'=>aA w' (w.heap.size+1) 2 (J 1)/\aA w' (w.heap.size+1+1) 2 (J 1))(exact nX)(fail)
  all_goals (go_wp2;go_meet)<;>exact⟨rfl,rfl,rfl,{}⟩
 case rest=>
  obtain⟨rfl,rfl,rfl,⟨qg,qx4,qy4,qo0,aRo,qo1,aRn,qo2,aRm,qo3,aRl,qo4,aRk,qo5,aRj,qo6,aRi,VF,aIN,qr1,aIM,qr2,aMF,qr3,aME,qr4,aMD,qr5,aMC,qr6,aMB⟩⟩:=hcut;have hzo:=au qo0;have hzr:=au VF;go_wp2_with (go_at_call 178;refine ku (HM _) λw2 aB=>?_;have jT:=aB.nY w;have bo0:=aB.Y70 w1;have lu:=au jT.1;have Pq:=au bo0.1);exact bW (by simp[results,Tryz.results84,go_sem,jT])
def Zc(p mn mx md:Int)(k:Nat)(sx ex xh xl sy ey yh yl:Int)(tx ty:Bool)(zs ze:Int)(HT:EI sx ex sy ey zs ze)(w:World):
  Bz p mn mx md k sx ex 1 xh xl tx 0 sy ey 2 yh yl ty 0 w zs ze 2 0 0 X 0:=by
 go_enter func84,ntmps84;go_wp2_with (go_at_call 177;refine ku (HT _) λw1 ak=>?_;have:=ak.e2 (w.heap.size+1) 2 4 _ _;have:=ak.e2 (w.heap.size+1+1) 2 4 _ _;have gG:=ak.nY w;have iR:=au gG.1);go_cut [7,8,9] (λs7 s8 s9 wx=>s7=.pointer (V ⟨w1.heap.size,0,O⟩)/\s8=J 1/\s9=J 2/\xR w wx w1.heap.size xl yl zs ze)
 case first=>
  go_region_held3 (λw'=>aA w' (w.heap.size+1) 2 (J 1)/\aA w' (w.heap.size+1+1) 2 (J 2))(exact nX)(fail)
  all_goals (go_wp2;go_meet)<;>exact⟨rfl,rfl,rfl,{}⟩
 case rest=>
  exact Gq
def Zb(p mn mx md:Int)(k:Nat)(sx ex xh xl sy ey yh yl:Int)(tx ty:Bool)(zs ze:Int)(HT:EI sx ex sy ey zs ze)(w:World):
  Bz p mn mx md k sx ex 2 xh xl tx 0 sy ey 0 yh yl ty 0 w zs ze 4 0 0 X 0:=by
 go_enter func84,ntmps84;go_wp2_with (go_at_call 177;refine ku (HT _) λw1 ak=>?_;have:=ak.e2 (w.heap.size+1) 2 4 _ _;have:=ak.e2 (w.heap.size+1+1) 2 4 _ _;have gG:=ak.nY w;have iR:=au gG.1);go_cut [7,8,9] (λs7 s8 s9 wx=>s7=.pointer (V ⟨w1.heap.size,0,O⟩)/\s8=J 0/\s9=J 2/\xR w wx w1.heap.size xl yl zs ze)
 case first=>
  go_region_held3 (λw'=>aA w' (w.heap.size+1) 2 (J 2)/\aA w' (w.heap.size+1+1) 2 (J 0))(exact nX)(fail)
  all_goals (go_wp2;go_meet)<;>exact⟨rfl,rfl,rfl,{}⟩
 case rest=>
  exact Gq
def Za(p mn mx md:Int)(k:Nat)(sx ex xh xl sy ey yh yl:Int)(tx ty:Bool)(zs ze:Int)(HT:EI sx ex sy ey zs ze)(w:World):
  Bz p mn mx md k sx ex 2 xh xl tx 0 sy ey 1 yh yl ty 0 w zs ze 2 0 0 X 0:=by
 go_enter func84,ntmps84;go_wp2_with (go_at_call 177;refine ku (HT _) λw1 ak=>?_;have:=ak.e2 (w.heap.size+1) 2 4 _ _;have:=ak.e2 (w.heap.size+1+1) 2 4 _ _;have gG:=ak.nY w;have iR:=au gG.1);go_cut [7,8,9] (λs7 s8 s9 wx=>s7=.pointer (V ⟨w1.heap.size,0,O⟩)/\s8=J 1/\s9=J 2/\xR w wx w1.heap.size xl yl zs ze)
 case first=>
  go_region_held3 (λw'=>aA w' (w.heap.size+1) 2 (J 2)/\aA w' (w.heap.size+1+1) 2 (J 1))(exact nX)(fail)
  all_goals (go_wp2;go_meet)<;>exact⟨rfl,rfl,rfl,{}⟩
 case rest=>
  exact Gq
def Y_(p mn mx md:Int)(k:Nat)(sx ex xh xl sy ey yh yl:Int)(tx ty:Bool)(zs ze:Int)(HT:EI sx ex sy ey zs ze)(w:World):
  Bz p mn mx md k sx ex 2 xh xl tx 0 sy ey 2 yh yl ty 0 w zs ze 2 0 0 X 0:=by
 go_enter func84,ntmps84;go_wp2_with (go_at_call 177;refine ku (HT _) λw1 ak=>?_;have:=ak.e2 (w.heap.size+1) 2 4 _ _;have:=ak.e2 (w.heap.size+1+1) 2 4 _ _;have gG:=ak.nY w;have iR:=au gG.1);go_cut [7,8,9] (λs7 s8 s9 wx=>s7=.pointer (V ⟨w1.heap.size,0,O⟩)/\s8=J 2/\s9=J 2/\xR w wx w1.heap.size xl yl zs ze)
 case first=>
  go_region_held3 (λw'=>aA w' (w.heap.size+1) 2 (J 2)/\aA w' (w.heap.size+1+1) 2 (J 2))(exact nX)(fail)
  all_goals (go_wp2;go_meet)<;>exact⟨rfl,rfl,rfl,{}⟩
 case rest=>
  exact Gq
def Gs{P:Prop}(h:P:=by
 go_enter func86,ntmps86;go_upto_region 2 with(go_at_call 179;refine ku (HT _) λw1 ak=>?_;have:=ak.oL w;have:=ak.e2 (w.heap.size+1) 2 4 _ _;have:=ak.e2 (w.heap.size+1+1) 2 4 _ _;have gG:=ak.nY w;have iR:=au gG.1);obtain⟨w2,jA⟩:=dK (w1.alloc (.cells #[J zs,J ze] 183));have aB:Gr w1 w2:=by rw[<-jA];exact(Gr.refl _).alloc _ _
 have at0:w2.cell? ⟨w1.heap.size,0,O⟩=V (J zs):=by rw[<-jA];simp[go_sem]
 have at1:w2.cell? ⟨w1.heap.size,1,O⟩=V (J ze):=by rw[<-jA];simp[go_sem]
 have lu:w1.heap.size<w2.heap.size:=by rw[<-jA];simp
 rw[jA];clear jA;have:=aB.oL w;have:=aB.e2 (w.heap.size+1) 2 4 _ _;have:=aB.e2 (w.heap.size+1+1) 2 4 _ _;have jT:=aB.nY w;go_wp2;exact bW (by simp[results,Tryz.results86,go_sem,jT])):P:=h
def UY(s e s' e':Int)(hs:s=0\/s=1)(ht:s'=0\/s'=1)(e0:-50000<=e)(e1:e<=50000)(f0:-50000<=e')(f1:e'<=50000)(w:World):
  QR 179 #[jI s e,jI s' e'] w (jI (mulS s s') (e-e')):=by
 have u1:=aDX s s' hs ht;have u2:IntKind.i64.wrap (e-e')=e-e':=wi;generalize mulS s s'=z at*
 go_enter func179,ntmps179;go_wp2;go_returns;exact⟨bU (by simp[u1,u2]),Gr.g⟩
def VE(p mn mx md:Int)(k:Nat)(sx ex xh xl sy ey yh yl:Int)(tx ty:Bool)(zs ze:Int)(HT:EH sx ex sy ey zs ze)(w:World):
  Ez p mn mx md k sx ex 0 xh xl tx 0 sy ey 0 yh yl ty 0 w 0 0 4 0 0 X 0:=by
 exact Gs
def VD(p mn mx md:Int)(k:Nat)(sx ex xh xl sy ey yh yl:Int)(tx ty:Bool)(zs ze:Int)(HT:EH sx ex sy ey zs ze)(w:World):
  Ez p mn mx md k sx ex 0 xh xl tx 0 sy ey 1 yh yl ty 0 w zs ze 0 0 0 X 0:=by
 exact Gs
def VB(p mn mx md:Int)(k:Nat)(sx ex xh xl sy ey yh yl:Int)(tx ty:Bool)(zs ze:Int)(HT:EH sx ex sy ey zs ze)(w:World):
  Ez p mn mx md k sx ex 0 xh xl tx 0 sy ey 2 yh yl ty 0 w zs ze 0 0 0 X 0:=by
 exact Gs
def VA(p mn mx md:Int)(k:Nat)(sx ex xh xl sy ey yh yl:Int)(tx ty:Bool)(zs ze:Int)(HT:EH sx ex sy ey zs ze)(w:World):
  Ez p mn mx md k sx ex 1 xh xl tx 0 sy ey 0 yh yl ty 0 w zs ze 2 0 0 X 2:=by
 exact Gs
def Vy(p mn mx md:Int)(k:Nat)(sx ex xh xl sy ey yh yl:Int)(tx ty:Bool)(zs ze:Int)(HT:EH sx ex sy ey zs ze)(w:World):
  Ez p mn mx md k sx ex 1 xh xl tx 0 sy ey 2 yh yl ty 0 w zs ze 0 0 0 X 0:=by
 exact Gs
def Vx(p mn mx md:Int)(k:Nat)(sx ex xh xl sy ey yh yl:Int)(tx ty:Bool)(zs ze:Int)(HT:EH sx ex sy ey zs ze)(w:World):
  Ez p mn mx md k sx ex 2 xh xl tx 0 sy ey 0 yh yl ty 0 w zs ze 2 0 0 X 0:=by
 exact Gs
def Vw(p mn mx md:Int)(k:Nat)(sx ex xh xl sy ey yh yl:Int)(tx ty:Bool)(zs ze:Int)(HT:EH sx ex sy ey zs ze)(w:World):
  Ez p mn mx md k sx ex 2 xh xl tx 0 sy ey 1 yh yl ty 0 w zs ze 2 0 0 X 0:=by
 exact Gs
def Vu(p mn mx md:Int)(k:Nat)(sx ex xh xl sy ey yh yl:Int)(tx ty:Bool)(zs ze:Int)(HT:EH sx ex sy ey zs ze)(w:World):
  Ez p mn mx md k sx ex 2 xh xl tx 0 sy ey 2 yh yl ty 0 w 0 0 4 0 0 X 0:=by
 exact Gs
def Vz(p mn mx md:Int)(k:Nat)(sx ex xh xl sy ey yh yl:Int)(tx ty:Bool)(zs ze:Int)(HT:EH sx ex sy ey zs ze)(A B:Nat)(hA:xl=(A:Int))(hB:yl=(B:Int))(hA1:aG A)(hB1:aG B)(os oe oc oh ol:Int)(ot:Bool)
  (HC:Hid (∀w v,xW (λ_ _=>B) A w v->QR 180 #[dN p mn mx md k,jI zs ze,v] w (aU os oe oc oh ol ot 0))) (w:World):
  Ez p mn mx md k sx ex 1 xh xl tx 0 sy ey 1 yh yl ty 0 w os oe oc oh ol ot 0:=by
 subst hA hB;have HQ:Hid (∀w,CT 181 #[Y (A:Int),Y (B:Int)] w λe w'=>∃b1 b2,e=.returned (.func (.func 306) #[] #[.pointer (V ⟨b1,0,O⟩),.pointer (V ⟨b2,0,O⟩)])/\xW (λ_ _=>B) A w' (.func (.func 306) #[] #[.pointer (V ⟨b1,0,O⟩),.pointer (V ⟨b2,0,O⟩)])/\Gr w w'):=λw=>(uU A B hA1 hB1 w).mono (by
  rintro e w' ⟨v,rfl,hd,hg⟩;obtain⟨b1,b2,rfl,hh⟩:=hd;exact⟨b1,b2,rfl,⟨b1,b2,rfl,hh⟩,hg⟩)
 go_enter func86,ntmps86;go_upto_region 2 with(go_at_call 179;refine ku (HT _) λw1 ak=>?_;have:=ak.oL w;have:=ak.e2 (w.heap.size+1) 2 4 _ _;have:=ak.e2 (w.heap.size+1+1) 2 4 _ _;have gG:=ak.nY w;have iR:=au gG.1);obtain⟨w2,jA⟩:=dK (w1.alloc (.cells #[J zs,J ze] 183));have aB:Gr w1 w2:=by rw[<-jA];exact(Gr.refl _).alloc _ _
 have at0:w2.cell? ⟨w1.heap.size,0,O⟩=V (J zs):=by rw[<-jA];simp[go_sem]
 have at1:w2.cell? ⟨w1.heap.size,1,O⟩=V (J ze):=by rw[<-jA];simp[go_sem]
 have lu:w1.heap.size<w2.heap.size:=by rw[<-jA];simp
 rw[jA];clear jA;have:=aB.oL w;have:=aB.e2 (w.heap.size+1) 2 4 _ _;have:=aB.e2 (w.heap.size+1+1) 2 4 _ _;have:=aB.nY w;go_wp2;go_region_held3 (λw'=>rC w' w.heap.size 0 1 2 3 4 (J p) (J mn) (J mx) (J md) (.func (.func k) #[] #[])/\aA w' (w.heap.size+1) 4 (Y (A:Int))/\aA w' (w.heap.size+1+1) 4 (Y (B:Int))/\kM w' w1.heap.size 0 1 (J zs) (J ze))(exact o8)(first|(go_at_call 181;refine(HQ _).mono ?_;rintro e w4 ⟨b1,b2,rfl,hdg,aV⟩;have:=aV.nY w)|(go_at_call 180;refine ku (HC _ _ (xW.gr hdg Gr.g)) λw3 aK=>?_;have wI:=aK.nY w))
 all_goals go_wp2
 all_goals
  exact bW (by simp[results,Tryz.results86,go_sem,wI])
def aAO{P:Prop}(h:P:=by
 go_enter func88,ntmps88;go_wp2;go_returns;exact⟨rfl,Gr.g⟩):P:=h
def Jq(p mn mx md:Int)(k:Nat)(sx ex cx xh xl sy ey cy yh yl:Int)(tx ty:Bool)(w:World):
  XR p mn mx md k sx ex 0 xh xl tx 0 sy ey cy yh yl ty 0 w sx ex 0 xh xl tx 0:=by
 exact aAO
def Js(p mn mx md:Int)(k:Nat)(sx ex cx xh xl sy ey cy yh yl:Int)(tx ty:Bool)(w:World):
  XR p mn mx md k 1 ex 1 xh xl tx 0 sy ey cy yh yl ty 0 w 0 0 4 0 0 X 0:=by
 exact aAO
def Jr(p mn mx md:Int)(k:Nat)(sx ex cx xh xl sy ey cy yh yl:Int)(tx ty:Bool)(w:World):
  XR p mn mx md k 1 ex 2 xh xl tx 0 sy ey cy yh yl ty 0 w 0 0 4 0 0 X 0:=by
 exact aAO
def KU(p mn mx md:Int)(k:Nat)(sx ex cx xh xl sy ey cy yh yl:Int)(tx ty:Bool)(w:World):
  XR p mn mx md k 0 ex 2 xh xl tx 0 sy ey cy yh yl ty 0 w 0 ex 2 xh xl tx 0:=by
 exact aAO
structure aQI (w wx:World) (p mn mx md:Int) (k:Nat) (xl:Int):Prop where
 g:Gr w wx:=by exact kr
 s0:aA wx w.heap.size 0 (J p):=by exact kl
 s1:aA wx w.heap.size 1 (J mn):=by exact kl
 s2:aA wx w.heap.size 2 (J mx):=by exact kl
 s3:aA wx w.heap.size 3 (J md):=by exact kl
 s4:aA wx w.heap.size 4 (.func (.func k) #[] #[]):=by exact kl
 x4:aA wx (w.heap.size+1) 4 (Y xl):=by exact kl
 r0:aA wx (w.heap.size+1+1+1) 0 (J 0):=by exact kl
 r0z:dB wx (w.heap.size+1+1+1) 0:=by exact kl
 r1:aA wx (w.heap.size+1+1+1) 1 (J 0):=by exact kl
 r1z:dB wx (w.heap.size+1+1+1) 1:=by exact kl
 r2:aA wx (w.heap.size+1+1+1) 2 (J 0):=by exact kl
 r2z:dB wx (w.heap.size+1+1+1) 2:=by exact kl
 r3:aA wx (w.heap.size+1+1+1) 3 (Y 0):=by exact kl
 r3z:dB wx (w.heap.size+1+1+1) 3:=by exact kl
 r4:aA wx (w.heap.size+1+1+1) 4 (Y 0):=by exact kl
 r4z:dB wx (w.heap.size+1+1+1) 4:=by exact kl
 r5:aA wx (w.heap.size+1+1+1) 5 (Z X):=by exact kl
 r5z:dB wx (w.heap.size+1+1+1) 5:=by exact kl
 r6:aA wx (w.heap.size+1+1+1) 6 (J 0):=by exact kl
 r6z:dB wx (w.heap.size+1+1+1) 6:=by exact kl
def KT(p mn mx md:Int)(k:Nat)(ex xh xl sy ey cy yh yl:Int)(tx ty:Bool)(fb hi od t sh hq:Int)(Nn:Nat)(hN:aG Nn)(b0:0<=fb)(b1:fb<=60)(e0:-50000<=ex)(e1:ex<=50000)(h1:IntKind.i64.wrap (ex+fb)=hi)(h2:bits .and .i64 hi 1=od)(h3:IntKind.i64.wrap (60-fb)=t)(h4:IntKind.i64.wrap (t+od)=sh)(s0:0<=sh)(s1:sh<=62)(h5:IntKind.u64.wrap (xl*2^sh.toNat)=(Nn:Int))(h6:hi/2=hq)(q0:-100000<=hq)(q1:hq<=100000)(o0:0<=od)(o1:od<=1)
  (HF:EG p mn mx fb) (os oe oc oh ol:Int) (ot:Bool)
  (HC:Hid (∀w v,xW cZ Nn w v->QR 180 #[dN p mn mx md k,jI 0 hq,v] w (aU os oe oc oh ol ot 0))) (w:World):
  XR p mn mx md k 0 ex 1 xh xl tx 0 sy ey cy yh yl ty 0 w os oe oc oh ol ot 0:=by
 have HQ:Hid (∀w,CT 183 #[Y (Nn:Int)] w λe w'=>∃b1 b2,e=.returned (.func (.func 306) #[] #[.pointer (V ⟨b1,0,O⟩),.pointer (V ⟨b2,0,O⟩)])/\xW cZ Nn w' (.func (.func 306) #[] #[.pointer (V ⟨b1,0,O⟩),.pointer (V ⟨b2,0,O⟩)])/\Gr w w'):=λw=>(LQ Nn hN w).mono (by
  rintro e w' ⟨v,rfl,hd,hg⟩;obtain⟨b1,b2,rfl,hh⟩:=hd;exact⟨b1,b2,rfl,⟨b1,b2,rfl,hh⟩,hg⟩)
 go_enter func88,ntmps88;go_wp2;go_cut [7] (λs7 wx=>s7=J hi/\aQI w wx p mn mx md k xl)
 case first=>
  go_region_held3 (λw'=>jv w' w.heap.size 0 1 2 (J p) (J mn) (J mx)/\aA w' (w.heap.size+1) 1 (J ex))(exact o8)(first|(go_at_call 182;refine ku (HF _) λw1 ak=>?_))
  all_goals (go_wp2;go_meet)<;>exact⟨rfl,{}⟩
 case rest=>
  obtain⟨rfl,⟨qg,qs0,qs1,qs2,qs3,qs4,qx4,VF,aIP,qr1,aIO,qr2,aOJ,qr3,aOI,qr4,aOH,qr5,aOG,qr6,aOF⟩⟩:=hcut;go_wp2;go_cut [8] (λs8 wy=>s8=Y (Nn:Int)/\aQI w wy p mn mx md k xl)
  case first=>
   go_region_held3 (λw'=>jv w' w.heap.size 0 1 2 (J p) (J mn) (J mx)/\aA w' (w.heap.size+1) 4 (Y xl))(exact o8)(first|(go_at_call 182;refine ku (HF _) λw2 aB=>?_))
   all_goals (go_wp2;go_meet)<;>exact⟨rfl,{}⟩
  case rest=>
   clear qs0 qs1 qs2 qs3 qs4 qx4 VF aIP qr1 aIO qr2 aOJ qr3 aOI qr4 aOH qr5 aOG qr6 aOF;obtain⟨rfl,⟨vg,vs0,vs1,vs2,vs3,vs4,vx4,vr0,aQR,vr1,aQQ,vr2,aTB,vr3,aTA,vr4,aTz,vr5,aTy,vr6,aTx⟩⟩:=hcut;go_wp2;go_region_held3 (λw'=>rC w' w.heap.size 0 1 2 3 4 (J p) (J mn) (J mx) (J md) (.func (.func k) #[] #[]))(exact o8)(first|(go_at_call 183;refine(HQ _).mono ?_;rintro e w4 ⟨b1,b2,rfl,hdg,aV⟩;have:=aV.nY w)|(go_at_call 180;refine ku (HC _ _ (xW.gr hdg Gr.g)) λw3 aK=>?_;have wI:=aK.nY w))
   all_goals go_wp2
   all_goals
    exact bW (by simp[results,Tryz.results88,go_sem,wI])
def UE{P:Prop}(h:P:=by
 go_enter func90,ntmps90;go_wp2;go_returns;exact⟨rfl,Gr.g⟩):P:=h
def aKZ{P:Prop}(h:P:=by
 have HQ:Hid (∀w,CT 181 #[Y (A:Int),Y (B:Int)] w λe w'=>∃b1 b2,e=.returned (.func (.func 306) #[] #[.pointer (V ⟨b1,0,O⟩),.pointer (V ⟨b2,0,O⟩)])/\xW (λ_ _=>B) A w' (.func (.func 306) #[] #[.pointer (V ⟨b1,0,O⟩),.pointer (V ⟨b2,0,O⟩)])/\Gr w w'):=λw=>(uU A B hA1 hB1 w).mono (by
  rintro e w' ⟨v,rfl,hd,hg⟩;obtain⟨b1,b2,rfl,hh⟩:=hd;exact⟨b1,b2,rfl,⟨b1,b2,rfl,hh⟩,hg⟩)
 exact aK1):P:=h
def aK1{P:Prop}(h:P:=by
 go_enter func90,ntmps90;go_upto_region 11 with(first|(go_at_call 181;refine(HQ _).mono ?_;rintro e w1 ⟨b1,b2,rfl,hdg,ak⟩)|(go_at_call 184;refine ku (HF _ _ hdg) λw2 aB=>?_;obtain⟨bx0,aS1,bx1,aS0,bx2,aSZ,bx3,aSY,bx4,aSX,bx5,aSW,bx6,aSV⟩:=aB.y7 (w.heap.size+1) 0 1 2 3 4 5 6 (J sx) (J ex) (J 1) (Y xh) (Y ((A:Int))) (Z tx) (J 0);obtain⟨by0,XC,by2,by3,by4,by5,by6⟩:=aB.e7 (w.heap.size+1+1) 0 1 2 3 4 5 6 (J sy) (J ey) (J 1) (Y yh) (Y ((B:Int))) (Z ty) (J 0);obtain⟨jT,aS8,br1,aS7,br2,aS6,br3,aS5,br4,aS4,br5,aS3,br6,aS2⟩:=aB.yo (w.heap.size+1+1+1)))
 have hcut:aTb w (((w2.setCell ⟨w.heap.size+1,1,O⟩ (J (ey-1))).setCell ⟨w.heap.size+1,3,O⟩ (Y 0)).setCell ⟨w.heap.size+1,4,O⟩ (Y (L:Int))) sx (ey-1) (L:Int) yh (B:Int) tx:={};generalize(((w2.setCell ⟨w.heap.size+1,1,O⟩ (J (ey-1))).setCell ⟨w.heap.size+1,3,O⟩ (Y 0)).setCell ⟨w.heap.size+1,4,O⟩ (Y (L:Int)))=w5 at hcut⊢
 clear bx0 aS1 bx1 aS0 bx2 aSZ bx3 aSY bx4 aSX bx5 aSW bx6 aSV by0 XC by2 by3 by4 by5 by6 jT aS8 br1 aS7 br2 aS6 br3 aS5 br4 aS4 br5 aS3 br6 aS2;obtain⟨qg,qy3,qy4,qx0,aTO,qx1,aTN,qx2,aTM,qx3,aTL,qx4,aTK,qx5,aTJ,qx6,aTI,VF,aIP,qr1,aIO,qr2,aOJ,qr3,aOI,qr4,aOH,qr5,aOG,qr6,aOF⟩:=hcut;go_wp2_with (first|(go_at_call 185;refine kw (HE _) ?_))
 exact bW (by simp[results,Tryz.results90,go_sem,VF,qr1,qr2,qr3,qr4,qr5,qr6])):P:=h
def L6(p mn mx md:Int)(k:Nat)(sx ex cx xh xl sy ey cy yh yl:Int)(tx ty:Bool)(w:World):
  Ey p mn mx md k sx ex 2 xh xl tx 0 sy ey cy yh yl ty 0 w 0 0 4 0 0 X 0:=by
 exact UE
def LZ(p mn mx md:Int)(k:Nat)(sx ex cx xh xl sy ey cy yh yl:Int)(tx ty:Bool)(h:(cx==2)=X)(w:World):
  Ey p mn mx md k sx ex cx xh xl tx 0 sy ey 0 yh yl ty 0 w 0 0 4 0 0 X 0:=by
 exact UE
def LW(p mn mx md:Int)(k:Nat)(sx ex cx xh xl sy ey cy yh yl:Int)(tx ty:Bool)(h:(cy==0)=X)(w:World):
  Ey p mn mx md k sx ex 0 xh xl tx 0 sy ey cy yh yl ty 0 w sx ex 0 xh xl tx 0:=by
 exact UE
def O8(p mn mx md:Int)(k:Nat)(sx ex cx xh xl sy ey cy yh yl:Int)(tx ty:Bool)(w:World):
  Ey p mn mx md k sx ex 1 xh xl tx 0 sy ey 2 yh yl ty 0 w sx ex 1 xh xl tx 0:=by
 exact UE
def O6(p mn mx md:Int)(k:Nat)(sx ex cx xh xl sy ey cy yh yl:Int)(tx ty:Bool)(e0:-50000<=ex)(e1:ex<=50000)(f0:-50000<=ey)(f1:ey<=50000)(h:ex-ey+2<1)(w:World):
  Ey p mn mx md k sx ex 1 xh xl tx 0 sy ey 1 yh yl ty 0 w sx ex 1 xh xl tx 0:=by
 exact UE
structure aTb (w wx:World) (sx e1 L yh B:Int) (tx:Bool):Prop where
 g:Gr w wx:=by exact kr
 y3:aA wx (w.heap.size+1+1) 3 (Y yh):=by exact kl
 y4:aA wx (w.heap.size+1+1) 4 (Y B):=by exact kl
 x0:aA wx (w.heap.size+1) 0 (J sx):=by exact kl
 x0z:dB wx (w.heap.size+1) 0:=by exact kl
 x1:aA wx (w.heap.size+1) 1 (J e1):=by exact kl
 x1z:dB wx (w.heap.size+1) 1:=by exact kl
 x2:aA wx (w.heap.size+1) 2 (J 1):=by exact kl
 x2z:dB wx (w.heap.size+1) 2:=by exact kl
 x3:aA wx (w.heap.size+1) 3 (Y 0):=by exact kl
 x3z:dB wx (w.heap.size+1) 3:=by exact kl
 x4:aA wx (w.heap.size+1) 4 (Y L):=by exact kl
 x4z:dB wx (w.heap.size+1) 4:=by exact kl
 x5:aA wx (w.heap.size+1) 5 (Z tx):=by exact kl
 x5z:dB wx (w.heap.size+1) 5:=by exact kl
 x6:aA wx (w.heap.size+1) 6 (J 0):=by exact kl
 x6z:dB wx (w.heap.size+1) 6:=by exact kl
 r0:aA wx (w.heap.size+1+1+1) 0 (J 0):=by exact kl
 r0z:dB wx (w.heap.size+1+1+1) 0:=by exact kl
 r1:aA wx (w.heap.size+1+1+1) 1 (J 0):=by exact kl
 r1z:dB wx (w.heap.size+1+1+1) 1:=by exact kl
 r2:aA wx (w.heap.size+1+1+1) 2 (J 0):=by exact kl
 r2z:dB wx (w.heap.size+1+1+1) 2:=by exact kl
 r3:aA wx (w.heap.size+1+1+1) 3 (Y 0):=by exact kl
 r3z:dB wx (w.heap.size+1+1+1) 3:=by exact kl
 r4:aA wx (w.heap.size+1+1+1) 4 (Y 0):=by exact kl
 r4z:dB wx (w.heap.size+1+1+1) 4:=by exact kl
 r5:aA wx (w.heap.size+1+1+1) 5 (Z X):=by exact kl
 r5z:dB wx (w.heap.size+1+1+1) 5:=by exact kl
 r6:aA wx (w.heap.size+1+1+1) 6 (J 0):=by exact kl
 r6z:dB wx (w.heap.size+1+1+1) 6:=by exact kl
def RV(p mn mx md:Int)(k:Nat)(sx ex xh sy ey yh:Int)(tx ty:Bool)(A B:Nat)(hA1:aG A)(hB1:aG B)(e0:-50000<=ex)(e1:ex<=50000)(f0:-50000<=ey)(f1:ey<=50000)(P:Nat)(hP:ex-ey+2=(P:Int))(X9:¬(P:Int)<1)(C L:Nat)(hC:aG C)(hL:L<=B)(c2 c1:Int)(odd half lb:Bool)(h2:bits .and .u64 (C:Int) 2=c2)(h1:bits .and .u64 (C:Int) 1=c1)(hod:(c2 != 0)=odd)(hha:(c1 != 0)=half)(hlb:((L:Int) != 0)=lb)(ts:Int)(hts:bits .xor .i64 sx 1=ts)
  (HF:Hid (∀w v,xW (λ_ _=>B) A w v->QR 184 #[v,J (P:Int)] w (.tuple #[Y (C:Int),Y (L:Int)])))
  (HE:KW 185 #[Z X,Z odd,Z half,Z lb] (Z true)) (w:World):
  Ey p mn mx md k sx ex 1 xh ((A:Int)) tx 0 sy ey 1 yh ((B:Int)) ty 0 w ts (ey-1) 1 0 (((B-L:Nat):Int)) tx 0:=by
 have HQ:Hid (∀w,CT 181 #[Y (A:Int),Y (B:Int)] w λe w'=>∃b1 b2,e=.returned (.func (.func 306) #[] #[.pointer (V ⟨b1,0,O⟩),.pointer (V ⟨b2,0,O⟩)])/\xW (λ_ _=>B) A w' (.func (.func 306) #[] #[.pointer (V ⟨b1,0,O⟩),.pointer (V ⟨b2,0,O⟩)])/\Gr w w'):=λw=>(uU A B hA1 hB1 w).mono (by
  rintro e w' ⟨v,rfl,hd,hg⟩;obtain⟨b1,b2,rfl,hh⟩:=hd;exact⟨b1,b2,rfl,⟨b1,b2,rfl,hh⟩,hg⟩)
 have hbl:(B:Int)-(L:Int)=((B-L:Nat):Int):=om;have aUE:(L:Int)<=(B:Int):=om;exact aK1
def LY(p mn mx md:Int)(k:Nat)(sx ex xh sy ey yh:Int)(tx ty:Bool)(A B:Nat)(hA1:aG A)(hB1:aG B)(e0:-50000<=ex)(e1:ex<=50000)(f0:-50000<=ey)(f1:ey<=50000)(P:Nat)(hP:ex-ey+2=(P:Int))(X9:¬(P:Int)<1)(C L:Nat)(hC:aG C)(hL:L<=B)(c2 c1:Int)(odd lb:Bool)(h2:bits .and .u64 (C:Int) 2=c2)(h1:bits .and .u64 (C:Int) 1=c1)(hod:(c2 != 0)=odd)(hha:(c1 != 0)=true)(hlb:((L:Int) != 0)=lb)
  (HF:Hid (∀w v,xW (λ_ _=>B) A w v->QR 184 #[v,J (P:Int)] w (.tuple #[Y (C:Int),Y (L:Int)])))
  (HE:KW 185 #[Z X,Z odd,Z true,Z lb] (Z X)) (w:World):
  Ey p mn mx md k sx ex 1 xh ((A:Int)) tx 0 sy ey 1 yh ((B:Int)) ty 0 w sx (ey-1) 1 yh ((B:Int)) tx 0:=by
 exact aKZ
def LX(p mn mx md:Int)(k:Nat)(sx ex xh sy ey yh:Int)(tx ty:Bool)(A B:Nat)(hA1:aG A)(hB1:aG B)(e0:-50000<=ex)(e1:ex<=50000)(f0:-50000<=ey)(f1:ey<=50000)(P:Nat)(hP:ex-ey+2=(P:Int))(X9:¬(P:Int)<1)(C L:Nat)(hC:aG C)(hL:L<=B)(c2 c1:Int)(odd lb:Bool)(h2:bits .and .u64 (C:Int) 2=c2)(h1:bits .and .u64 (C:Int) 1=c1)(hod:(c2 != 0)=odd)(hha:(c1 != 0)=X)(hlb:((L:Int) != 0)=lb)
  (HF:Hid (∀w v,xW (λ_ _=>B) A w v->QR 184 #[v,J (P:Int)] w (.tuple #[Y (C:Int),Y (L:Int)])))
  (HE:KW 185 #[Z X,Z odd,Z X,Z lb] (Z X)) (w:World):
  Ey p mn mx md k sx ex 1 xh ((A:Int)) tx 0 sy ey 1 yh ((B:Int)) ty 0 w sx (ey-1) 1 0 ((L:Int)) tx 0:=by
 exact aKZ
