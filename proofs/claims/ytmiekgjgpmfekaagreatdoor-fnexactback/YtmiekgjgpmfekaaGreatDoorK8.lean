import Derived.Test.YtmiekgjgpmfekaaGreatDoorK4
import Derived.Test.YtmiekgjgpmfekaaGreatDoorM6
set_option linter.all false
set_option maxRecDepth 1000000
set_option maxHeartbeats 40000000
open Option renaming none → Y, some → O
open Bool renaming false → Z
open Go.Proofs.YtmiekgjgpmfekaaGreatDoor renaming vI → J
open Go.Proofs.Tryz
namespace Go.Proofs.YtmiekgjgpmfekaaGreatDoor
open Go.RowKit
theorem TJ{P:Prop}(h:P:=by
 go_enter func209,ntmps209;go_wp2;go_returns;exact⟨rfl,Gr.g⟩):P:=h
attribute [local go_sem] aj bG
theorem aFv(p mn mx md:Int)(k:Nat)(sx ex cx xh xl sy ey cy yh yl:Int)(tx ty:Bool)(h:cy<cx)(w:World):
  Pm p mn mx md k sx ex cx xh xl tx 0 sy ey cy yh yl ty 0 w sx ex cx xh xl tx 0:=by
 exact TJ
theorem sum_lt(p mn mx md:Int)(k:Nat)(sx ex cx xh xl sy ey cy yh yl:Int)(tx ty:Bool)(h:cx<cy)(w:World):
  Pm p mn mx md k sx ex cx xh xl tx 0 sy ey cy yh yl ty 0 w sy ey cy yh yl ty 0:=by
 exact TJ
theorem aFu(p mn mx md:Int)(k:Nat)(sx ex cx xh xl sy ey cy yh yl:Int)(tx ty:Bool)(h1:cx=cy)(h2:(cx==1)=Z)(h3:sx=sy)(w:World):
  Pm p mn mx md k sx ex cx xh xl tx 0 sy ey cy yh yl ty 0 w sx ex cx xh xl tx 0:=by
 subst h1 h3;exact TJ
theorem aBM(p mn mx md:Int)(k:Nat)(sx ex cx xh xl sy ey cy yh yl:Int)(tx ty:Bool)(h1:cx=2)(h2:cy=2)(h3:(sx==sy)=Z)(w:World):
  Pm p mn mx md k sx ex cx xh xl tx 0 sy ey cy yh yl ty 0 w 0 0 4 0 0 Z 0:=by
 subst h1 h2;exact TJ
theorem sum_nil(p mn mx md:Int)(k:Nat)(sx ex cx xh xl sy ey cy yh yl:Int)(tx ty:Bool)(h1:cx=0)(h2:cy=0)(h3:(sx==sy)=Z)(os oe oc oh ol:Int)(ot:Bool)(HN:KR 224 #[dP p mn mx md k] (aV os oe oc oh ol ot 0))(w:World):
  Pm p mn mx md k sx ex cx xh xl tx 0 sy ey cy yh yl ty 0 w os oe oc oh ol ot 0:=by
 subst h1 h2;go_enter func209,ntmps209;go_wp2_with (go_at_call 224;refine ku (HN _) fun w1 ak=>?_;have fP:=ak.nO w);exact bH (by simp[results,Tryz.results209,go_sem,fP])
theorem aBL(p mn mx md:Int)(k:Nat)(sx ex cx xh xl sy ey cy yh yl:Int)(tx ty:Bool)(h1:cx=1)(h2:cy=1)(Q:Int->Int->Int->Int->Int->Bool->Prop)(HT:Hid (∀w,CT 223 #[dP p mn mx md k,aV sx ex 1 xh xl tx 0,aV sy ey 1 yh yl ty 0] w fun e w'=>∃os oe oc oh ol ot,Q os oe oc oh ol ot/\e=.returned (aV os oe oc oh ol ot 0)/\Gr w w'))(w:World):
  CT 209 #[dP p mn mx md k,aV sx ex cx xh xl tx 0,aV sy ey cy yh yl ty 0] w fun e w'=>∃os oe oc oh ol ot,Q os oe oc oh ol ot/\e=.returned (aV os oe oc oh ol ot 0)/\Gr w w':=by
 subst h1 h2;go_enter func209,ntmps209;go_wp2_with (go_at_call 223;refine(HT _).mono ?_;rintro e w1 ⟨os,oe,oc,oh,ol,ot,hq,rfl,ak⟩;have fP:=ak.nO w);refine bodyPost_ret (v:=aV os oe oc oh ol ot 0) (by simp[results,Tryz.results209,go_sem,fP]) rfl ⟨os,oe,oc,oh,ol,ot,hq,rfl,?_⟩;exact Gr.g
theorem BZ{P:Prop}(h:P:=by
 obtain⟨rfl,rfl,rfl,⟨qg,qx4,qy4,qo0,aJx,qo1,aJw,qo2,aJv,qo3,aJu,qo4,aJt,qo5,aJs,qo6,aJr,XD,aFZ,qr1,aFY,qr2,aFX,qr3,aFW,qr4,aFV,qr5,aFU,qr6,aFT⟩⟩:=hcut;have hzo:=au qo0;have hzr:=au XD;go_wp2;exact bH (by simp[results,Tryz.results181,go_sem,XD,qr1,qr2,qr3,qr4,qr5,qr6])):P:=h
structure uG (w wx:World) (o:Nat) (xl yl zs ze:Int):Prop where
 g:Gr w wx:=by exact kr
 x4:aj wx (w.heap.size+1) 4 (.int .u64 xl):=by exact kl
 y4:aj wx (w.heap.size+1+1) 4 (.int .u64 yl):=by exact kl
 o0:aj wx o 0 (J zs):=by exact kl
 oz0:bG wx o 0:=by exact kl
 o1:aj wx o 1 (J ze):=by exact kl
 oz1:bG wx o 1:=by exact kl
 o2:aj wx o 2 (J 1):=by exact kl
 oz2:bG wx o 2:=by exact kl
 o3:aj wx o 3 (.int .u64 0):=by exact kl
 oz3:bG wx o 3:=by exact kl
 o4:aj wx o 4 (.int .u64 0):=by exact kl
 oz4:bG wx o 4:=by exact kl
 o5:aj wx o 5 (.bool Z):=by exact kl
 oz5:bG wx o 5:=by exact kl
 o6:aj wx o 6 (J 0):=by exact kl
 oz6:bG wx o 6:=by exact kl
 r0:aj wx (w.heap.size+1+1+1) 0 (J 0):=by exact kl
 rz0:bG wx (w.heap.size+1+1+1) 0:=by exact kl
 r1:aj wx (w.heap.size+1+1+1) 1 (J 0):=by exact kl
 rz1:bG wx (w.heap.size+1+1+1) 1:=by exact kl
 r2:aj wx (w.heap.size+1+1+1) 2 (J 0):=by exact kl
 rz2:bG wx (w.heap.size+1+1+1) 2:=by exact kl
 r3:aj wx (w.heap.size+1+1+1) 3 (.int .u64 0):=by exact kl
 rz3:bG wx (w.heap.size+1+1+1) 3:=by exact kl
 r4:aj wx (w.heap.size+1+1+1) 4 (.int .u64 0):=by exact kl
 rz4:bG wx (w.heap.size+1+1+1) 4:=by exact kl
 r5:aj wx (w.heap.size+1+1+1) 5 (.bool Z):=by exact kl
 rz5:bG wx (w.heap.size+1+1+1) 5:=by exact kl
 r6:aj wx (w.heap.size+1+1+1) 6 (J 0):=by exact kl
 rz6:bG wx (w.heap.size+1+1+1) 6:=by exact kl
theorem Q7(p mn mx md:Int)(k:Nat)(sx ex xh xl sy ey yh yl:Int)(tx ty:Bool)(zs ze:Int)(HT:KP sx ex sy ey zs ze)(w:World):
  yF p mn mx md k sx ex 0 xh xl tx 0 sy ey 0 yh yl ty 0 w zs ze 0 0 0 Z 0:=by
 go_enter func181,ntmps181;go_wp2_with (go_at_call 210;refine ku (HT _) fun w1 ak=>?_;have:=ak.e2 (w.heap.size+1) 2 4 _ _;have:=ak.e2 (w.heap.size+1+1) 2 4 _ _;have fP:=ak.nO w;have hz1:=au fP.1);go_cut [7,8,9] (fun s7 s8 s9 wx=>s7=.pointer (O ⟨w1.heap.size,0,Y⟩)/\s8=J 0/\s9=J 0/\uG w wx w1.heap.size xl yl zs ze)
 case first=>
  go_region_held3 (fun w'=>aj w' (w.heap.size+1) 2 (J 0)/\aj w' (w.heap.size+1+1) 2 (J 0))
   (exact kX)
   (fail)
  all_goals (go_wp2;go_meet)
  all_goals exact⟨rfl,rfl,rfl,{}⟩
 case rest=>
  exact BZ
theorem Q5(p mn mx md:Int)(k:Nat)(sx ex xh xl sy ey yh yl:Int)(tx ty:Bool)(zs ze:Int)(HT:KP sx ex sy ey zs ze)(w:World):
  yF p mn mx md k sx ex 0 xh xl tx 0 sy ey 1 yh yl ty 0 w zs ze 0 0 0 Z 0:=by
 go_enter func181,ntmps181;go_wp2_with (go_at_call 210;refine ku (HT _) fun w1 ak=>?_;have:=ak.e2 (w.heap.size+1) 2 4 _ _;have:=ak.e2 (w.heap.size+1+1) 2 4 _ _;have fP:=ak.nO w;have hz1:=au fP.1);go_cut [7,8,9] (fun s7 s8 s9 wx=>s7=.pointer (O ⟨w1.heap.size,0,Y⟩)/\s8=J 0/\s9=J 1/\uG w wx w1.heap.size xl yl zs ze)
 case first=>
  go_region_held3 (fun w'=>aj w' (w.heap.size+1) 2 (J 0)/\aj w' (w.heap.size+1+1) 2 (J 1))
   (exact kX)
   (fail)
  all_goals (go_wp2;go_meet)
  all_goals exact⟨rfl,rfl,rfl,{}⟩
 case rest=>
  exact BZ
theorem QZ(p mn mx md:Int)(k:Nat)(sx ex xh xl sy ey yh yl:Int)(tx ty:Bool)(zs ze:Int)(HT:KP sx ex sy ey zs ze)(w:World):
  yF p mn mx md k sx ex 0 xh xl tx 0 sy ey 2 yh yl ty 0 w zs ze 4 0 0 Z 0:=by
 go_enter func181,ntmps181;go_wp2_with (go_at_call 210;refine ku (HT _) fun w1 ak=>?_;have:=ak.e2 (w.heap.size+1) 2 4 _ _;have:=ak.e2 (w.heap.size+1+1) 2 4 _ _;have fP:=ak.nO w;have hz1:=au fP.1);go_cut [7,8,9] (fun s7 s8 s9 wx=>s7=.pointer (O ⟨w1.heap.size,0,Y⟩)/\s8=J 0/\s9=J 2/\uG w wx w1.heap.size xl yl zs ze)
 case first=>
  go_region_held3 (fun w'=>aj w' (w.heap.size+1) 2 (J 0)/\aj w' (w.heap.size+1+1) 2 (J 2))
   (exact kX)
   (fail)
  all_goals (go_wp2;go_meet)
  all_goals exact⟨rfl,rfl,rfl,{}⟩
 case rest=>
  exact BZ
theorem QY(p mn mx md:Int)(k:Nat)(sx ex xh xl sy ey yh yl:Int)(tx ty:Bool)(zs ze:Int)(HT:KP sx ex sy ey zs ze)(w:World):
  yF p mn mx md k sx ex 1 xh xl tx 0 sy ey 0 yh yl ty 0 w zs ze 0 0 0 Z 0:=by
 go_enter func181,ntmps181;go_wp2_with (go_at_call 210;refine ku (HT _) fun w1 ak=>?_;have:=ak.e2 (w.heap.size+1) 2 4 _ _;have:=ak.e2 (w.heap.size+1+1) 2 4 _ _;have fP:=ak.nO w;have hz1:=au fP.1);go_cut [7,8,9] (fun s7 s8 s9 wx=>s7=.pointer (O ⟨w1.heap.size,0,Y⟩)/\s8=J 0/\s9=J 1/\uG w wx w1.heap.size xl yl zs ze)
 case first=>
  go_region_held3 (fun w'=>aj w' (w.heap.size+1) 2 (J 1)/\aj w' (w.heap.size+1+1) 2 (J 0))
   (exact kX)
   (fail)
  all_goals (go_wp2;go_meet)
  all_goals exact⟨rfl,rfl,rfl,{}⟩
 case rest=>
  exact BZ
theorem QX(p mn mx md:Int)(k:Nat)(sx ex xh xl sy ey yh yl:Int)(tx ty:Bool)(zs ze:Int)(HT:KP sx ex sy ey zs ze)(mh ml:Int)(HM:KR 183 #[.int .u64 xl,.int .u64 yl] (aG mh ml))(w:World):
  yF p mn mx md k sx ex 1 xh xl tx 0 sy ey 1 yh yl ty 0 w zs ze 1 mh ml Z 0:=by
 go_enter func181,ntmps181;go_wp2_with (go_at_call 210;refine ku (HT _) fun w1 ak=>?_;have:=ak.e2 (w.heap.size+1) 2 4 _ _;have:=ak.e2 (w.heap.size+1+1) 2 4 _ _;have fP:=ak.nO w;have hz1:=au fP.1);go_cut [7,8,9] (fun s7 s8 s9 wx=>s7=.pointer (O ⟨w1.heap.size,0,Y⟩)/\s8=J 1/\s9=J 1/\uG w wx w1.heap.size xl yl zs ze)
 case first=>
  go_region_held3 (fun w'=>aj w' (w.heap.size+1) 2 (J 1)/\aj w' (w.heap.size+1+1) 2 (J 1))
   (exact kX)
   (fail)
  all_goals (go_wp2;go_meet)
  all_goals exact⟨rfl,rfl,rfl,{}⟩
 case rest=>
  obtain⟨rfl,rfl,rfl,⟨qg,qx4,qy4,qo0,aJx,qo1,aJw,qo2,aJv,qo3,aJu,qo4,aJt,qo5,aJs,qo6,aJr,XD,aFZ,qr1,aFY,qr2,aFX,qr3,aFW,qr4,aFV,qr5,aFU,qr6,aFT⟩⟩:=hcut;have hzo:=au qo0;have hzr:=au XD;go_wp2_with (go_at_call 183;refine ku (HM _) fun w2 aA=>?_;have jy:=aA.nO w;have bo0:=aA.Y70 w1;have hz2:=au jy.1;have hz3:=au bo0.1);exact bH (by simp[results,Tryz.results181,go_sem,jy])
theorem QV(p mn mx md:Int)(k:Nat)(sx ex xh xl sy ey yh yl:Int)(tx ty:Bool)(zs ze:Int)(HT:KP sx ex sy ey zs ze)(w:World):
  yF p mn mx md k sx ex 1 xh xl tx 0 sy ey 2 yh yl ty 0 w zs ze 2 0 0 Z 0:=by
 go_enter func181,ntmps181;go_wp2_with (go_at_call 210;refine ku (HT _) fun w1 ak=>?_;have:=ak.e2 (w.heap.size+1) 2 4 _ _;have:=ak.e2 (w.heap.size+1+1) 2 4 _ _;have fP:=ak.nO w;have hz1:=au fP.1);go_cut [7,8,9] (fun s7 s8 s9 wx=>s7=.pointer (O ⟨w1.heap.size,0,Y⟩)/\s8=J 1/\s9=J 2/\uG w wx w1.heap.size xl yl zs ze)
 case first=>
  go_region_held3 (fun w'=>aj w' (w.heap.size+1) 2 (J 1)/\aj w' (w.heap.size+1+1) 2 (J 2))
   (exact kX)
   (fail)
  all_goals (go_wp2;go_meet)
  all_goals exact⟨rfl,rfl,rfl,{}⟩
 case rest=>
  exact BZ
theorem QU(p mn mx md:Int)(k:Nat)(sx ex xh xl sy ey yh yl:Int)(tx ty:Bool)(zs ze:Int)(HT:KP sx ex sy ey zs ze)(w:World):
  yF p mn mx md k sx ex 2 xh xl tx 0 sy ey 0 yh yl ty 0 w zs ze 4 0 0 Z 0:=by
 go_enter func181,ntmps181;go_wp2_with (go_at_call 210;refine ku (HT _) fun w1 ak=>?_;have:=ak.e2 (w.heap.size+1) 2 4 _ _;have:=ak.e2 (w.heap.size+1+1) 2 4 _ _;have fP:=ak.nO w;have hz1:=au fP.1);go_cut [7,8,9] (fun s7 s8 s9 wx=>s7=.pointer (O ⟨w1.heap.size,0,Y⟩)/\s8=J 0/\s9=J 2/\uG w wx w1.heap.size xl yl zs ze)
 case first=>
  go_region_held3 (fun w'=>aj w' (w.heap.size+1) 2 (J 2)/\aj w' (w.heap.size+1+1) 2 (J 0))
   (exact kX)
   (fail)
  all_goals (go_wp2;go_meet)
  all_goals exact⟨rfl,rfl,rfl,{}⟩
 case rest=>
  exact BZ
theorem QT(p mn mx md:Int)(k:Nat)(sx ex xh xl sy ey yh yl:Int)(tx ty:Bool)(zs ze:Int)(HT:KP sx ex sy ey zs ze)(w:World):
  yF p mn mx md k sx ex 2 xh xl tx 0 sy ey 1 yh yl ty 0 w zs ze 2 0 0 Z 0:=by
 go_enter func181,ntmps181;go_wp2_with (go_at_call 210;refine ku (HT _) fun w1 ak=>?_;have:=ak.e2 (w.heap.size+1) 2 4 _ _;have:=ak.e2 (w.heap.size+1+1) 2 4 _ _;have fP:=ak.nO w;have hz1:=au fP.1);go_cut [7,8,9] (fun s7 s8 s9 wx=>s7=.pointer (O ⟨w1.heap.size,0,Y⟩)/\s8=J 1/\s9=J 2/\uG w wx w1.heap.size xl yl zs ze)
 case first=>
  go_region_held3 (fun w'=>aj w' (w.heap.size+1) 2 (J 2)/\aj w' (w.heap.size+1+1) 2 (J 1))
   (exact kX)
   (fail)
  all_goals (go_wp2;go_meet)
  all_goals exact⟨rfl,rfl,rfl,{}⟩
 case rest=>
  exact BZ
theorem QS(p mn mx md:Int)(k:Nat)(sx ex xh xl sy ey yh yl:Int)(tx ty:Bool)(zs ze:Int)(HT:KP sx ex sy ey zs ze)(w:World):
  yF p mn mx md k sx ex 2 xh xl tx 0 sy ey 2 yh yl ty 0 w zs ze 2 0 0 Z 0:=by
 go_enter func181,ntmps181;go_wp2_with (go_at_call 210;refine ku (HT _) fun w1 ak=>?_;have:=ak.e2 (w.heap.size+1) 2 4 _ _;have:=ak.e2 (w.heap.size+1+1) 2 4 _ _;have fP:=ak.nO w;have hz1:=au fP.1);go_cut [7,8,9] (fun s7 s8 s9 wx=>s7=.pointer (O ⟨w1.heap.size,0,Y⟩)/\s8=J 2/\s9=J 2/\uG w wx w1.heap.size xl yl zs ze)
 case first=>
  go_region_held3 (fun w'=>aj w' (w.heap.size+1) 2 (J 2)/\aj w' (w.heap.size+1+1) 2 (J 2))
   (exact kX)
   (fail)
  all_goals (go_wp2;go_meet)
  all_goals exact⟨rfl,rfl,rfl,{}⟩
 case rest=>
  exact BZ
theorem B_{P:Prop}(h:P:=by
 go_enter func222,ntmps222;go_upto_region 2 with(go_at_call 230;refine ku (HT _) fun w1 ak=>?_;have:=ak.jK w;have:=ak.e2 (w.heap.size+1) 2 4 _ _;have:=ak.e2 (w.heap.size+1+1) 2 4 _ _;have fP:=ak.nO w;have hz1:=au fP.1);obtain⟨w2,hw2⟩:∃w2,w1.alloc (.cells #[J zs,J ze] 129)=w2:=⟨_,rfl⟩;have aA:Gr w1 w2:=by rw[<-hw2];exact(Gr.refl _).alloc _ _
 have at0:w2.cell? ⟨w1.heap.size,0,Y⟩=O (J zs):=by rw[<-hw2];simp[go_sem]
 have at1:w2.cell? ⟨w1.heap.size,1,Y⟩=O (J ze):=by rw[<-hw2];simp[go_sem]
 have hz2:w1.heap.size<w2.heap.size:=by rw[<-hw2];simp
 rw[hw2];clear hw2;have:=aA.jK w;have:=aA.e2 (w.heap.size+1) 2 4 _ _;have:=aA.e2 (w.heap.size+1+1) 2 4 _ _;have jy:=aA.nO w;go_wp2;exact bH (by simp[results,Tryz.results222,go_sem,jy])):P:=h
theorem MF(s e s' e':Int)(hs:s=0\/s=1)(ht:s'=0\/s'=1)(e0:-50000<=e)(e1:e<=50000)(f0:-50000<=e')(f1:e'<=50000)(w:World):
  QR 230 #[gW s e,gW s' e'] w (gW (mulS s s') (e-e')):=by
 have u1:=aDk s s' hs ht;have u2:IntKind.i64.wrap (e-e')=e-e':=wi;generalize mulS s s'=z at*
 go_enter func230,ntmps230;go_wp2;go_returns;exact⟨bC (by simp[u1,u2]),Gr.g⟩
theorem Nw(p mn mx md:Int)(k:Nat)(sx ex xh xl sy ey yh yl:Int)(tx ty:Bool)(zs ze:Int)(HT:KO sx ex sy ey zs ze)(w:World):
  Au p mn mx md k sx ex 0 xh xl tx 0 sy ey 0 yh yl ty 0 w 0 0 4 0 0 Z 0:=by
 exact B_
theorem Nv(p mn mx md:Int)(k:Nat)(sx ex xh xl sy ey yh yl:Int)(tx ty:Bool)(zs ze:Int)(HT:KO sx ex sy ey zs ze)(w:World):
  Au p mn mx md k sx ex 0 xh xl tx 0 sy ey 1 yh yl ty 0 w zs ze 0 0 0 Z 0:=by
 exact B_
theorem Nu(p mn mx md:Int)(k:Nat)(sx ex xh xl sy ey yh yl:Int)(tx ty:Bool)(zs ze:Int)(HT:KO sx ex sy ey zs ze)(w:World):
  Au p mn mx md k sx ex 0 xh xl tx 0 sy ey 2 yh yl ty 0 w zs ze 0 0 0 Z 0:=by
 exact B_
theorem Ns(p mn mx md:Int)(k:Nat)(sx ex xh xl sy ey yh yl:Int)(tx ty:Bool)(zs ze:Int)(HT:KO sx ex sy ey zs ze)(w:World):
  Au p mn mx md k sx ex 1 xh xl tx 0 sy ey 0 yh yl ty 0 w zs ze 2 0 0 Z 2:=by
 exact B_
theorem Np(p mn mx md:Int)(k:Nat)(sx ex xh xl sy ey yh yl:Int)(tx ty:Bool)(zs ze:Int)(HT:KO sx ex sy ey zs ze)(w:World):
  Au p mn mx md k sx ex 1 xh xl tx 0 sy ey 2 yh yl ty 0 w zs ze 0 0 0 Z 0:=by
 exact B_
theorem Nl(p mn mx md:Int)(k:Nat)(sx ex xh xl sy ey yh yl:Int)(tx ty:Bool)(zs ze:Int)(HT:KO sx ex sy ey zs ze)(w:World):
  Au p mn mx md k sx ex 2 xh xl tx 0 sy ey 0 yh yl ty 0 w zs ze 2 0 0 Z 0:=by
 exact B_
theorem Nk(p mn mx md:Int)(k:Nat)(sx ex xh xl sy ey yh yl:Int)(tx ty:Bool)(zs ze:Int)(HT:KO sx ex sy ey zs ze)(w:World):
  Au p mn mx md k sx ex 2 xh xl tx 0 sy ey 1 yh yl ty 0 w zs ze 2 0 0 Z 0:=by
 exact B_
theorem Nj(p mn mx md:Int)(k:Nat)(sx ex xh xl sy ey yh yl:Int)(tx ty:Bool)(zs ze:Int)(HT:KO sx ex sy ey zs ze)(w:World):
  Au p mn mx md k sx ex 2 xh xl tx 0 sy ey 2 yh yl ty 0 w 0 0 4 0 0 Z 0:=by
 exact B_
theorem Nq(p mn mx md:Int)(k:Nat)(sx ex xh xl sy ey yh yl:Int)(tx ty:Bool)(zs ze:Int)(HT:KO sx ex sy ey zs ze)(A B:Nat)(hA:xl=(A:Int))(hB:yl=(B:Int))(hA1:A<18446744073709551616)(hB1:B<18446744073709551616)(os oe oc oh ol:Int)(ot:Bool)
  (HC:Hid (∀w v,BU (fun _ _=>B) A w v->QR 228 #[dP p mn mx md k,gW zs ze,v] w (aV os oe oc oh ol ot 0))) (w:World):
  Au p mn mx md k sx ex 1 xh xl tx 0 sy ey 1 yh yl ty 0 w os oe oc oh ol ot 0:=by
 subst hA hB;have HQ:Hid (∀w,CT 231 #[.int .u64 (A:Int),.int .u64 (B:Int)] w fun e w'=>∃b1 b2,e=.returned (.func (.func 243) #[] #[.pointer (O ⟨b1,0,Y⟩),.pointer (O ⟨b2,0,Y⟩)])/\BU (fun _ _=>B) A w' (.func (.func 243) #[] #[.pointer (O ⟨b1,0,Y⟩),.pointer (O ⟨b2,0,Y⟩)])/\Gr w w'):=fun w=>(GX A B hA1 hB1 w).mono (by
  rintro e w' ⟨v,rfl,hd,hg⟩;obtain⟨b1,b2,rfl,hh⟩:=hd;exact⟨b1,b2,rfl,⟨b1,b2,rfl,hh⟩,hg⟩)
 go_enter func222,ntmps222;go_upto_region 2 with(go_at_call 230;refine ku (HT _) fun w1 ak=>?_;have:=ak.jK w;have:=ak.e2 (w.heap.size+1) 2 4 _ _;have:=ak.e2 (w.heap.size+1+1) 2 4 _ _;have fP:=ak.nO w;have hz1:=au fP.1);obtain⟨w2,hw2⟩:∃w2,w1.alloc (.cells #[J zs,J ze] 129)=w2:=⟨_,rfl⟩;have aA:Gr w1 w2:=by rw[<-hw2];exact(Gr.refl _).alloc _ _
 have at0:w2.cell? ⟨w1.heap.size,0,Y⟩=O (J zs):=by rw[<-hw2];simp[go_sem]
 have at1:w2.cell? ⟨w1.heap.size,1,Y⟩=O (J ze):=by rw[<-hw2];simp[go_sem]
 have hz2:w1.heap.size<w2.heap.size:=by rw[<-hw2];simp
 rw[hw2];clear hw2;have:=aA.jK w;have:=aA.e2 (w.heap.size+1) 2 4 _ _;have:=aA.e2 (w.heap.size+1+1) 2 4 _ _;have:=aA.nO w;go_wp2;go_region_held3 (fun w'=>aj w' w.heap.size 0 (J p)/\aj w' w.heap.size 1 (J mn)/\aj w' w.heap.size 2 (J mx)/\aj w' w.heap.size 3 (J md)/\aj w' w.heap.size 4 (.func (.func k) #[] #[])/\aj w' (w.heap.size+1) 4 (.int .u64 (A:Int))/\aj w' (w.heap.size+1+1) 4 (.int .u64 (B:Int))/\aj w' w1.heap.size 0 (J zs)/\aj w' w1.heap.size 1 (J ze))
  (exact pz)
  (first
   |(go_at_call 231;refine(HQ _).mono ?_;rintro e w4 ⟨b1,b2,rfl,hdg,aH⟩;have:=aH.nO w)
   |(go_at_call 228;refine ku (HC _ _ (BU.gr hdg Gr.g)) fun w3 aC=>?_;have sU:=aC.nO w))
 all_goals go_wp2
 all_goals
  exact bH (by simp[results,Tryz.results222,go_sem,sU])
theorem TI{P:Prop}(h:P:=by
 go_enter func221,ntmps221;go_wp2;go_returns;exact⟨rfl,Gr.g⟩):P:=h
theorem Dj(p mn mx md:Int)(k:Nat)(sx ex cx xh xl sy ey cy yh yl:Int)(tx ty:Bool)(w:World):
  Pj p mn mx md k sx ex 0 xh xl tx 0 sy ey cy yh yl ty 0 w sx ex 0 xh xl tx 0:=by
 exact TI
theorem Dl(p mn mx md:Int)(k:Nat)(sx ex cx xh xl sy ey cy yh yl:Int)(tx ty:Bool)(w:World):
  Pj p mn mx md k 1 ex 1 xh xl tx 0 sy ey cy yh yl ty 0 w 0 0 4 0 0 Z 0:=by
 exact TI
theorem Dk(p mn mx md:Int)(k:Nat)(sx ex cx xh xl sy ey cy yh yl:Int)(tx ty:Bool)(w:World):
  Pj p mn mx md k 1 ex 2 xh xl tx 0 sy ey cy yh yl ty 0 w 0 0 4 0 0 Z 0:=by
 exact TI
theorem Es(p mn mx md:Int)(k:Nat)(sx ex cx xh xl sy ey cy yh yl:Int)(tx ty:Bool)(w:World):
  Pj p mn mx md k 0 ex 2 xh xl tx 0 sy ey cy yh yl ty 0 w 0 ex 2 xh xl tx 0:=by
 exact TI
structure aIK (w wx:World) (p mn mx md:Int) (k:Nat) (xl:Int):Prop where
 g:Gr w wx:=by exact kr
 s0:aj wx w.heap.size 0 (J p):=by exact kl
 s1:aj wx w.heap.size 1 (J mn):=by exact kl
 s2:aj wx w.heap.size 2 (J mx):=by exact kl
 s3:aj wx w.heap.size 3 (J md):=by exact kl
 s4:aj wx w.heap.size 4 (.func (.func k) #[] #[]):=by exact kl
 x4:aj wx (w.heap.size+1) 4 (.int .u64 xl):=by exact kl
 r0:aj wx (w.heap.size+1+1+1) 0 (J 0):=by exact kl
 r0z:bG wx (w.heap.size+1+1+1) 0:=by exact kl
 r1:aj wx (w.heap.size+1+1+1) 1 (J 0):=by exact kl
 r1z:bG wx (w.heap.size+1+1+1) 1:=by exact kl
 r2:aj wx (w.heap.size+1+1+1) 2 (J 0):=by exact kl
 r2z:bG wx (w.heap.size+1+1+1) 2:=by exact kl
 r3:aj wx (w.heap.size+1+1+1) 3 (.int .u64 0):=by exact kl
 r3z:bG wx (w.heap.size+1+1+1) 3:=by exact kl
 r4:aj wx (w.heap.size+1+1+1) 4 (.int .u64 0):=by exact kl
 r4z:bG wx (w.heap.size+1+1+1) 4:=by exact kl
 r5:aj wx (w.heap.size+1+1+1) 5 (.bool Z):=by exact kl
 r5z:bG wx (w.heap.size+1+1+1) 5:=by exact kl
 r6:aj wx (w.heap.size+1+1+1) 6 (J 0):=by exact kl
 r6z:bG wx (w.heap.size+1+1+1) 6:=by exact kl
theorem Ep(p mn mx md:Int)(k:Nat)(ex xh xl sy ey cy yh yl:Int)(tx ty:Bool)(fb hi od t sh hq:Int)(Nn:Nat)(hN:Nn<18446744073709551616)(b0:0<=fb)(b1:fb<=60)(e0:-50000<=ex)(e1:ex<=50000)(h1:IntKind.i64.wrap (ex+fb)=hi)(h2:bits .and .i64 hi 1=od)(h3:IntKind.i64.wrap (60-fb)=t)(h4:IntKind.i64.wrap (t+od)=sh)(s0:0<=sh)(s1:sh<=62)(h5:IntKind.u64.wrap (xl*2^sh.toNat)=(Nn:Int))(h6:hi/2=hq)(q0:-100000<=hq)(q1:hq<=100000)(o0:0<=od)(o1:od<=1)
  (HF:DF p mn mx fb) (os oe oc oh ol:Int) (ot:Bool)
  (HC:Hid (∀w v,BU bP Nn w v->QR 228 #[dP p mn mx md k,gW 0 hq,v] w (aV os oe oc oh ol ot 0))) (w:World):
  Pj p mn mx md k 0 ex 1 xh xl tx 0 sy ey cy yh yl ty 0 w os oe oc oh ol ot 0:=by
 have HQ:Hid (∀w,CT 229 #[.int .u64 (Nn:Int)] w fun e w'=>∃b1 b2,e=.returned (.func (.func 243) #[] #[.pointer (O ⟨b1,0,Y⟩),.pointer (O ⟨b2,0,Y⟩)])/\BU bP Nn w' (.func (.func 243) #[] #[.pointer (O ⟨b1,0,Y⟩),.pointer (O ⟨b2,0,Y⟩)])/\Gr w w'):=fun w=>(ET Nn hN w).mono (by
  rintro e w' ⟨v,rfl,hd,hg⟩;obtain⟨b1,b2,rfl,hh⟩:=hd;exact⟨b1,b2,rfl,⟨b1,b2,rfl,hh⟩,hg⟩)
 go_enter func221,ntmps221;go_wp2;go_cut [7] (fun s7 wx=>s7=J hi/\aIK w wx p mn mx md k xl)
 case first=>
  go_region_held3 (fun w'=>aj w' w.heap.size 0 (J p)/\aj w' w.heap.size 1 (J mn)/\aj w' w.heap.size 2 (J mx)/\aj w' (w.heap.size+1) 1 (J ex))
   (exact pz)
   (first|(go_at_call 194;refine ku (HF _) fun w1 ak=>?_))
  all_goals (go_wp2;go_meet)
  all_goals exact⟨rfl,{}⟩
 case rest=>
  obtain⟨rfl,⟨qg,qs0,qs1,qs2,qs3,qs4,qx4,XD,aJq,qr1,aJp,qr2,aJo,qr3,aJn,qr4,aJm,qr5,aJl,qr6,aJk⟩⟩:=hcut;go_wp2;go_cut [8] (fun s8 wy=>s8=.int .u64 (Nn:Int)/\aIK w wy p mn mx md k xl)
  case first=>
   go_region_held3 (fun w'=>aj w' w.heap.size 0 (J p)/\aj w' w.heap.size 1 (J mn)/\aj w' w.heap.size 2 (J mx)/\aj w' (w.heap.size+1) 4 (.int .u64 xl))
    (exact pz)
    (first|(go_at_call 194;refine ku (HF _) fun w2 aA=>?_))
   all_goals (go_wp2;go_meet)
   all_goals exact⟨rfl,{}⟩
  case rest=>
   clear qs0 qs1 qs2 qs3 qs4 qx4 XD aJq qr1 aJp qr2 aJo qr3 aJn qr4 aJm qr5 aJl qr6 aJk;obtain⟨rfl,⟨vg,vs0,vs1,vs2,vs3,vs4,vx4,vr0,aKS,vr1,aKR,vr2,aKQ,vr3,aKP,vr4,aKO,vr5,aKN,vr6,aKM⟩⟩:=hcut;go_wp2;go_region_held3 (fun w'=>aj w' w.heap.size 0 (J p)/\aj w' w.heap.size 1 (J mn)/\aj w' w.heap.size 2 (J mx)/\aj w' w.heap.size 3 (J md)/\aj w' w.heap.size 4 (.func (.func k) #[] #[]))
    (exact pz)
    (first
     |(go_at_call 229;refine(HQ _).mono ?_;rintro e w4 ⟨b1,b2,rfl,hdg,aH⟩;have:=aH.nO w)
     |(go_at_call 228;refine ku (HC _ _ (BU.gr hdg Gr.g)) fun w3 aC=>?_;have sU:=aC.nO w))
   all_goals go_wp2
   all_goals
    exact bH (by simp[results,Tryz.results221,go_sem,sU])
