import Derived.Test.YtmiekgjgpmfekaaGreatDoorK4
import Derived.Test.YtmiekgjgpmfekaaGreatDoorM6
set_option linter.all false
set_option maxRecDepth 1000000
set_option maxHeartbeats 40000000
open Option renaming none → Y, some → O
open Bool renaming false → Z
open Go.Proofs.YtmiekgjgpmfekaaGreatDoor renaming vI → J
open Go.Proofs.Tryz
namespace Go.Proofs.YtmiekgjgpmfekaaGreatDoor
open Go.RowKit
theorem Sv{P:Prop}(h:P:=by
 go_enter func209,ntmps209;go_wp2;go_returns;exact⟨rfl,Gr.g⟩):P:=h
attribute [local go_sem] aj bK
theorem aEr(p mn mx md:Int)(k:Nat)(sx ex cx xh xl sy ey cy yh yl:Int)(tx ty:Bool)(h:cy<cx)(w:World):
  Ov p mn mx md k sx ex cx xh xl tx 0 sy ey cy yh yl ty 0 w sx ex cx xh xl tx 0:=by
 exact Sv
theorem sum_lt(p mn mx md:Int)(k:Nat)(sx ex cx xh xl sy ey cy yh yl:Int)(tx ty:Bool)(h:cx<cy)(w:World):
  Ov p mn mx md k sx ex cx xh xl tx 0 sy ey cy yh yl ty 0 w sy ey cy yh yl ty 0:=by
 exact Sv
theorem aEq(p mn mx md:Int)(k:Nat)(sx ex cx xh xl sy ey cy yh yl:Int)(tx ty:Bool)(h1:cx=cy)(h2:(cx==1)=Z)(h3:sx=sy)(w:World):
  Ov p mn mx md k sx ex cx xh xl tx 0 sy ey cy yh yl ty 0 w sx ex cx xh xl tx 0:=by
 subst h1 h3;exact Sv
theorem aA0(p mn mx md:Int)(k:Nat)(sx ex cx xh xl sy ey cy yh yl:Int)(tx ty:Bool)(h1:cx=2)(h2:cy=2)(h3:(sx==sy)=Z)(w:World):
  Ov p mn mx md k sx ex cx xh xl tx 0 sy ey cy yh yl ty 0 w 0 0 4 0 0 Z 0:=by
 subst h1 h2;exact Sv
theorem sum_nil(p mn mx md:Int)(k:Nat)(sx ex cx xh xl sy ey cy yh yl:Int)(tx ty:Bool)(h1:cx=0)(h2:cy=0)(h3:(sx==sy)=Z)(os oe oc oh ol:Int)(ot:Bool)(HN:KR 224 #[dP p mn mx md k] (aU os oe oc oh ol ot 0))(w:World):
  Ov p mn mx md k sx ex cx xh xl tx 0 sy ey cy yh yl ty 0 w os oe oc oh ol ot 0:=by
 subst h1 h2;go_enter func209,ntmps209;go_wp2_with (go_at_call 224;refine ku (HN _) fun w1 ak=>?_;have fP:=ak.mX w);exact bI (by simp[results,Tryz.results209,go_sem,fP])
theorem aAZ(p mn mx md:Int)(k:Nat)(sx ex cx xh xl sy ey cy yh yl:Int)(tx ty:Bool)(h1:cx=1)(h2:cy=1)(Q:Int->Int->Int->Int->Int->Bool->Prop)(HT:Hid (∀w,CT 223 #[dP p mn mx md k,aU sx ex 1 xh xl tx 0,aU sy ey 1 yh yl ty 0] w fun e w'=>∃os oe oc oh ol ot,Q os oe oc oh ol ot/\e=.returned (aU os oe oc oh ol ot 0)/\Gr w w'))(w:World):
  CT 209 #[dP p mn mx md k,aU sx ex cx xh xl tx 0,aU sy ey cy yh yl ty 0] w fun e w'=>∃os oe oc oh ol ot,Q os oe oc oh ol ot/\e=.returned (aU os oe oc oh ol ot 0)/\Gr w w':=by
 subst h1 h2;go_enter func209,ntmps209;go_wp2_with (go_at_call 223;refine(HT _).mono ?_;rintro e w1 ⟨os,oe,oc,oh,ol,ot,hq,rfl,ak⟩;have fP:=ak.mX w);refine bodyPost_ret (v:=aU os oe oc oh ol ot 0) (by simp[results,Tryz.results209,go_sem,fP]) rfl ⟨os,oe,oc,oh,ol,ot,hq,rfl,?_⟩;exact Gr.g
theorem Bo{P:Prop}(h:P:=by
 obtain⟨rfl,rfl,rfl,⟨qg,qx4,qy4,qo0,aIr,qo1,aIq,qo2,aIp,qo3,aIo,qo4,aIn,qo5,aIm,qo6,aIl,WQ,aEV,qr1,aEU,qr2,aET,qr3,aES,qr4,aER,qr5,aEQ,qr6,aEP⟩⟩:=hcut;have hzo:=au qo0;have hzr:=au WQ;go_wp2;exact bI (by simp[results,Tryz.results181,go_sem,WQ,qr1,qr2,qr3,qr4,qr5,qr6])):P:=h
structure sZ (w wx:World) (o:Nat) (xl yl zs ze:Int):Prop where
 g:Gr w wx:=by exact kr
 x4:aj wx (w.heap.size+1) 4 (.int .u64 xl):=by exact kl
 y4:aj wx (w.heap.size+1+1) 4 (.int .u64 yl):=by exact kl
 o0:aj wx o 0 (J zs):=by exact kl
 oz0:bK wx o 0:=by exact kl
 o1:aj wx o 1 (J ze):=by exact kl
 oz1:bK wx o 1:=by exact kl
 o2:aj wx o 2 (J 1):=by exact kl
 oz2:bK wx o 2:=by exact kl
 o3:aj wx o 3 (.int .u64 0):=by exact kl
 oz3:bK wx o 3:=by exact kl
 o4:aj wx o 4 (.int .u64 0):=by exact kl
 oz4:bK wx o 4:=by exact kl
 o5:aj wx o 5 (.bool Z):=by exact kl
 oz5:bK wx o 5:=by exact kl
 o6:aj wx o 6 (J 0):=by exact kl
 oz6:bK wx o 6:=by exact kl
 r0:aj wx (w.heap.size+1+1+1) 0 (J 0):=by exact kl
 rz0:bK wx (w.heap.size+1+1+1) 0:=by exact kl
 r1:aj wx (w.heap.size+1+1+1) 1 (J 0):=by exact kl
 rz1:bK wx (w.heap.size+1+1+1) 1:=by exact kl
 r2:aj wx (w.heap.size+1+1+1) 2 (J 0):=by exact kl
 rz2:bK wx (w.heap.size+1+1+1) 2:=by exact kl
 r3:aj wx (w.heap.size+1+1+1) 3 (.int .u64 0):=by exact kl
 rz3:bK wx (w.heap.size+1+1+1) 3:=by exact kl
 r4:aj wx (w.heap.size+1+1+1) 4 (.int .u64 0):=by exact kl
 rz4:bK wx (w.heap.size+1+1+1) 4:=by exact kl
 r5:aj wx (w.heap.size+1+1+1) 5 (.bool Z):=by exact kl
 rz5:bK wx (w.heap.size+1+1+1) 5:=by exact kl
 r6:aj wx (w.heap.size+1+1+1) 6 (J 0):=by exact kl
 rz6:bK wx (w.heap.size+1+1+1) 6:=by exact kl
theorem Qk(p mn mx md:Int)(k:Nat)(sx ex xh xl sy ey yh yl:Int)(tx ty:Bool)(zs ze:Int)(HT:JZ sx ex sy ey zs ze)(w:World):
  xK p mn mx md k sx ex 0 xh xl tx 0 sy ey 0 yh yl ty 0 w zs ze 0 0 0 Z 0:=by
 go_enter func181,ntmps181;go_wp2_with (go_at_call 210;refine ku (HT _) fun w1 ak=>?_;have:=ak.e2 (w.heap.size+1) 2 4 _ _;have:=ak.e2 (w.heap.size+1+1) 2 4 _ _;have fP:=ak.mX w;have hz1:=au fP.1);go_cut [7,8,9] (fun s7 s8 s9 wx=>s7=.pointer (O ⟨w1.heap.size,0,Y⟩)/\s8=J 0/\s9=J 0/\sZ w wx w1.heap.size xl yl zs ze)
 case first=>
  go_region_held3 (fun w'=>aj w' (w.heap.size+1) 2 (J 0)/\aj w' (w.heap.size+1+1) 2 (J 0))
   (exact kZ)
   (fail)
  all_goals (go_wp2;go_meet)
  all_goals exact⟨rfl,rfl,rfl,{}⟩
 case rest=>
  exact Bo
theorem Qj(p mn mx md:Int)(k:Nat)(sx ex xh xl sy ey yh yl:Int)(tx ty:Bool)(zs ze:Int)(HT:JZ sx ex sy ey zs ze)(w:World):
  xK p mn mx md k sx ex 0 xh xl tx 0 sy ey 1 yh yl ty 0 w zs ze 0 0 0 Z 0:=by
 go_enter func181,ntmps181;go_wp2_with (go_at_call 210;refine ku (HT _) fun w1 ak=>?_;have:=ak.e2 (w.heap.size+1) 2 4 _ _;have:=ak.e2 (w.heap.size+1+1) 2 4 _ _;have fP:=ak.mX w;have hz1:=au fP.1);go_cut [7,8,9] (fun s7 s8 s9 wx=>s7=.pointer (O ⟨w1.heap.size,0,Y⟩)/\s8=J 0/\s9=J 1/\sZ w wx w1.heap.size xl yl zs ze)
 case first=>
  go_region_held3 (fun w'=>aj w' (w.heap.size+1) 2 (J 0)/\aj w' (w.heap.size+1+1) 2 (J 1))
   (exact kZ)
   (fail)
  all_goals (go_wp2;go_meet)
  all_goals exact⟨rfl,rfl,rfl,{}⟩
 case rest=>
  exact Bo
theorem Qi(p mn mx md:Int)(k:Nat)(sx ex xh xl sy ey yh yl:Int)(tx ty:Bool)(zs ze:Int)(HT:JZ sx ex sy ey zs ze)(w:World):
  xK p mn mx md k sx ex 0 xh xl tx 0 sy ey 2 yh yl ty 0 w zs ze 4 0 0 Z 0:=by
 go_enter func181,ntmps181;go_wp2_with (go_at_call 210;refine ku (HT _) fun w1 ak=>?_;have:=ak.e2 (w.heap.size+1) 2 4 _ _;have:=ak.e2 (w.heap.size+1+1) 2 4 _ _;have fP:=ak.mX w;have hz1:=au fP.1);go_cut [7,8,9] (fun s7 s8 s9 wx=>s7=.pointer (O ⟨w1.heap.size,0,Y⟩)/\s8=J 0/\s9=J 2/\sZ w wx w1.heap.size xl yl zs ze)
 case first=>
  go_region_held3 (fun w'=>aj w' (w.heap.size+1) 2 (J 0)/\aj w' (w.heap.size+1+1) 2 (J 2))
   (exact kZ)
   (fail)
  all_goals (go_wp2;go_meet)
  all_goals exact⟨rfl,rfl,rfl,{}⟩
 case rest=>
  exact Bo
theorem Qg(p mn mx md:Int)(k:Nat)(sx ex xh xl sy ey yh yl:Int)(tx ty:Bool)(zs ze:Int)(HT:JZ sx ex sy ey zs ze)(w:World):
  xK p mn mx md k sx ex 1 xh xl tx 0 sy ey 0 yh yl ty 0 w zs ze 0 0 0 Z 0:=by
 go_enter func181,ntmps181;go_wp2_with (go_at_call 210;refine ku (HT _) fun w1 ak=>?_;have:=ak.e2 (w.heap.size+1) 2 4 _ _;have:=ak.e2 (w.heap.size+1+1) 2 4 _ _;have fP:=ak.mX w;have hz1:=au fP.1);go_cut [7,8,9] (fun s7 s8 s9 wx=>s7=.pointer (O ⟨w1.heap.size,0,Y⟩)/\s8=J 0/\s9=J 1/\sZ w wx w1.heap.size xl yl zs ze)
 case first=>
  go_region_held3 (fun w'=>aj w' (w.heap.size+1) 2 (J 1)/\aj w' (w.heap.size+1+1) 2 (J 0))
   (exact kZ)
   (fail)
  all_goals (go_wp2;go_meet)
  all_goals exact⟨rfl,rfl,rfl,{}⟩
 case rest=>
  exact Bo
theorem Qe(p mn mx md:Int)(k:Nat)(sx ex xh xl sy ey yh yl:Int)(tx ty:Bool)(zs ze:Int)(HT:JZ sx ex sy ey zs ze)(mh ml:Int)(HM:KR 183 #[.int .u64 xl,.int .u64 yl] (aG mh ml))(w:World):
  xK p mn mx md k sx ex 1 xh xl tx 0 sy ey 1 yh yl ty 0 w zs ze 1 mh ml Z 0:=by
 go_enter func181,ntmps181;go_wp2_with (go_at_call 210;refine ku (HT _) fun w1 ak=>?_;have:=ak.e2 (w.heap.size+1) 2 4 _ _;have:=ak.e2 (w.heap.size+1+1) 2 4 _ _;have fP:=ak.mX w;have hz1:=au fP.1);go_cut [7,8,9] (fun s7 s8 s9 wx=>s7=.pointer (O ⟨w1.heap.size,0,Y⟩)/\s8=J 1/\s9=J 1/\sZ w wx w1.heap.size xl yl zs ze)
 case first=>
  go_region_held3 (fun w'=>aj w' (w.heap.size+1) 2 (J 1)/\aj w' (w.heap.size+1+1) 2 (J 1))
   (exact kZ)
   (fail)
  all_goals (go_wp2;go_meet)
  all_goals exact⟨rfl,rfl,rfl,{}⟩
 case rest=>
  obtain⟨rfl,rfl,rfl,⟨qg,qx4,qy4,qo0,aIr,qo1,aIq,qo2,aIp,qo3,aIo,qo4,aIn,qo5,aIm,qo6,aIl,WQ,aEV,qr1,aEU,qr2,aET,qr3,aES,qr4,aER,qr5,aEQ,qr6,aEP⟩⟩:=hcut;have hzo:=au qo0;have hzr:=au WQ;go_wp2_with (go_at_call 183;refine ku (HM _) fun w2 aA=>?_;have jk:=aA.mX w;have bo0:=aA.Y70 w1;have hz2:=au jk.1;have hz3:=au bo0.1);exact bI (by simp[results,Tryz.results181,go_sem,jk])
theorem Qd(p mn mx md:Int)(k:Nat)(sx ex xh xl sy ey yh yl:Int)(tx ty:Bool)(zs ze:Int)(HT:JZ sx ex sy ey zs ze)(w:World):
  xK p mn mx md k sx ex 1 xh xl tx 0 sy ey 2 yh yl ty 0 w zs ze 2 0 0 Z 0:=by
 go_enter func181,ntmps181;go_wp2_with (go_at_call 210;refine ku (HT _) fun w1 ak=>?_;have:=ak.e2 (w.heap.size+1) 2 4 _ _;have:=ak.e2 (w.heap.size+1+1) 2 4 _ _;have fP:=ak.mX w;have hz1:=au fP.1);go_cut [7,8,9] (fun s7 s8 s9 wx=>s7=.pointer (O ⟨w1.heap.size,0,Y⟩)/\s8=J 1/\s9=J 2/\sZ w wx w1.heap.size xl yl zs ze)
 case first=>
  go_region_held3 (fun w'=>aj w' (w.heap.size+1) 2 (J 1)/\aj w' (w.heap.size+1+1) 2 (J 2))
   (exact kZ)
   (fail)
  all_goals (go_wp2;go_meet)
  all_goals exact⟨rfl,rfl,rfl,{}⟩
 case rest=>
  exact Bo
theorem Qc(p mn mx md:Int)(k:Nat)(sx ex xh xl sy ey yh yl:Int)(tx ty:Bool)(zs ze:Int)(HT:JZ sx ex sy ey zs ze)(w:World):
  xK p mn mx md k sx ex 2 xh xl tx 0 sy ey 0 yh yl ty 0 w zs ze 4 0 0 Z 0:=by
 go_enter func181,ntmps181;go_wp2_with (go_at_call 210;refine ku (HT _) fun w1 ak=>?_;have:=ak.e2 (w.heap.size+1) 2 4 _ _;have:=ak.e2 (w.heap.size+1+1) 2 4 _ _;have fP:=ak.mX w;have hz1:=au fP.1);go_cut [7,8,9] (fun s7 s8 s9 wx=>s7=.pointer (O ⟨w1.heap.size,0,Y⟩)/\s8=J 0/\s9=J 2/\sZ w wx w1.heap.size xl yl zs ze)
 case first=>
  go_region_held3 (fun w'=>aj w' (w.heap.size+1) 2 (J 2)/\aj w' (w.heap.size+1+1) 2 (J 0))
   (exact kZ)
   (fail)
  all_goals (go_wp2;go_meet)
  all_goals exact⟨rfl,rfl,rfl,{}⟩
 case rest=>
  exact Bo
theorem Qb(p mn mx md:Int)(k:Nat)(sx ex xh xl sy ey yh yl:Int)(tx ty:Bool)(zs ze:Int)(HT:JZ sx ex sy ey zs ze)(w:World):
  xK p mn mx md k sx ex 2 xh xl tx 0 sy ey 1 yh yl ty 0 w zs ze 2 0 0 Z 0:=by
 go_enter func181,ntmps181;go_wp2_with (go_at_call 210;refine ku (HT _) fun w1 ak=>?_;have:=ak.e2 (w.heap.size+1) 2 4 _ _;have:=ak.e2 (w.heap.size+1+1) 2 4 _ _;have fP:=ak.mX w;have hz1:=au fP.1);go_cut [7,8,9] (fun s7 s8 s9 wx=>s7=.pointer (O ⟨w1.heap.size,0,Y⟩)/\s8=J 1/\s9=J 2/\sZ w wx w1.heap.size xl yl zs ze)
 case first=>
  go_region_held3 (fun w'=>aj w' (w.heap.size+1) 2 (J 2)/\aj w' (w.heap.size+1+1) 2 (J 1))
   (exact kZ)
   (fail)
  all_goals (go_wp2;go_meet)
  all_goals exact⟨rfl,rfl,rfl,{}⟩
 case rest=>
  exact Bo
theorem Qa(p mn mx md:Int)(k:Nat)(sx ex xh xl sy ey yh yl:Int)(tx ty:Bool)(zs ze:Int)(HT:JZ sx ex sy ey zs ze)(w:World):
  xK p mn mx md k sx ex 2 xh xl tx 0 sy ey 2 yh yl ty 0 w zs ze 2 0 0 Z 0:=by
 go_enter func181,ntmps181;go_wp2_with (go_at_call 210;refine ku (HT _) fun w1 ak=>?_;have:=ak.e2 (w.heap.size+1) 2 4 _ _;have:=ak.e2 (w.heap.size+1+1) 2 4 _ _;have fP:=ak.mX w;have hz1:=au fP.1);go_cut [7,8,9] (fun s7 s8 s9 wx=>s7=.pointer (O ⟨w1.heap.size,0,Y⟩)/\s8=J 2/\s9=J 2/\sZ w wx w1.heap.size xl yl zs ze)
 case first=>
  go_region_held3 (fun w'=>aj w' (w.heap.size+1) 2 (J 2)/\aj w' (w.heap.size+1+1) 2 (J 2))
   (exact kZ)
   (fail)
  all_goals (go_wp2;go_meet)
  all_goals exact⟨rfl,rfl,rfl,{}⟩
 case rest=>
  exact Bo
theorem Bq{P:Prop}(h:P:=by
 go_enter func222,ntmps222;go_upto_region 2 with(go_at_call 230;refine ku (HT _) fun w1 ak=>?_;have:=ak.lV w;have:=ak.e2 (w.heap.size+1) 2 4 _ _;have:=ak.e2 (w.heap.size+1+1) 2 4 _ _;have fP:=ak.mX w;have hz1:=au fP.1);obtain⟨w2,hw2⟩:∃w2,w1.alloc (.cells #[J zs,J ze] 129)=w2:=⟨_,rfl⟩;have aA:Gr w1 w2:=by rw[<-hw2];exact(Gr.refl _).alloc _ _
 have at0:w2.cell? ⟨w1.heap.size,0,Y⟩=O (J zs):=by rw[<-hw2];simp[go_sem]
 have at1:w2.cell? ⟨w1.heap.size,1,Y⟩=O (J ze):=by rw[<-hw2];simp[go_sem]
 have hz2:w1.heap.size<w2.heap.size:=by rw[<-hw2];simp
 rw[hw2];clear hw2;have:=aA.lV w;have:=aA.e2 (w.heap.size+1) 2 4 _ _;have:=aA.e2 (w.heap.size+1+1) 2 4 _ _;have jk:=aA.mX w;go_wp2;exact bI (by simp[results,Tryz.results222,go_sem,jk])):P:=h
theorem Lp(s e s' e':Int)(hs:s=0\/s=1)(ht:s'=0\/s'=1)(e0:-50000<=e)(e1:e<=50000)(f0:-50000<=e')(f1:e'<=50000)(w:World):
  QR 230 #[gQ s e,gQ s' e'] w (gQ (mulS s s') (e-e')):=by
 have u1:=aCr s s' hs ht;have u2:IntKind.i64.wrap (e-e')=e-e':=wi;generalize mulS s s'=z at*
 go_enter func230,ntmps230;go_wp2;go_returns;exact⟨bJ (by simp[u1,u2]),Gr.g⟩
theorem MF(p mn mx md:Int)(k:Nat)(sx ex xh xl sy ey yh yl:Int)(tx ty:Bool)(zs ze:Int)(HT:JY sx ex sy ey zs ze)(w:World):
  zO p mn mx md k sx ex 0 xh xl tx 0 sy ey 0 yh yl ty 0 w 0 0 4 0 0 Z 0:=by
 exact Bq
theorem MC(p mn mx md:Int)(k:Nat)(sx ex xh xl sy ey yh yl:Int)(tx ty:Bool)(zs ze:Int)(HT:JY sx ex sy ey zs ze)(w:World):
  zO p mn mx md k sx ex 0 xh xl tx 0 sy ey 1 yh yl ty 0 w zs ze 0 0 0 Z 0:=by
 exact Bq
theorem MB(p mn mx md:Int)(k:Nat)(sx ex xh xl sy ey yh yl:Int)(tx ty:Bool)(zs ze:Int)(HT:JY sx ex sy ey zs ze)(w:World):
  zO p mn mx md k sx ex 0 xh xl tx 0 sy ey 2 yh yl ty 0 w zs ze 0 0 0 Z 0:=by
 exact Bq
theorem Me(p mn mx md:Int)(k:Nat)(sx ex xh xl sy ey yh yl:Int)(tx ty:Bool)(zs ze:Int)(HT:JY sx ex sy ey zs ze)(w:World):
  zO p mn mx md k sx ex 1 xh xl tx 0 sy ey 0 yh yl ty 0 w zs ze 2 0 0 Z 2:=by
 exact Bq
theorem L_(p mn mx md:Int)(k:Nat)(sx ex xh xl sy ey yh yl:Int)(tx ty:Bool)(zs ze:Int)(HT:JY sx ex sy ey zs ze)(w:World):
  zO p mn mx md k sx ex 1 xh xl tx 0 sy ey 2 yh yl ty 0 w zs ze 0 0 0 Z 0:=by
 exact Bq
theorem L9(p mn mx md:Int)(k:Nat)(sx ex xh xl sy ey yh yl:Int)(tx ty:Bool)(zs ze:Int)(HT:JY sx ex sy ey zs ze)(w:World):
  zO p mn mx md k sx ex 2 xh xl tx 0 sy ey 0 yh yl ty 0 w zs ze 2 0 0 Z 0:=by
 exact Bq
theorem L8(p mn mx md:Int)(k:Nat)(sx ex xh xl sy ey yh yl:Int)(tx ty:Bool)(zs ze:Int)(HT:JY sx ex sy ey zs ze)(w:World):
  zO p mn mx md k sx ex 2 xh xl tx 0 sy ey 1 yh yl ty 0 w zs ze 2 0 0 Z 0:=by
 exact Bq
theorem L6(p mn mx md:Int)(k:Nat)(sx ex xh xl sy ey yh yl:Int)(tx ty:Bool)(zs ze:Int)(HT:JY sx ex sy ey zs ze)(w:World):
  zO p mn mx md k sx ex 2 xh xl tx 0 sy ey 2 yh yl ty 0 w 0 0 4 0 0 Z 0:=by
 exact Bq
theorem Mc(p mn mx md:Int)(k:Nat)(sx ex xh xl sy ey yh yl:Int)(tx ty:Bool)(zs ze:Int)(HT:JY sx ex sy ey zs ze)(A B:Nat)(hA:xl=(A:Int))(hB:yl=(B:Int))(hA1:A<18446744073709551616)(hB1:B<18446744073709551616)(os oe oc oh ol:Int)(ot:Bool)
  (HC:Hid (∀w v,Bf (fun _ _=>B) A w v->QR 228 #[dP p mn mx md k,gQ zs ze,v] w (aU os oe oc oh ol ot 0))) (w:World):
  zO p mn mx md k sx ex 1 xh xl tx 0 sy ey 1 yh yl ty 0 w os oe oc oh ol ot 0:=by
 subst hA hB;have HQ:Hid (∀w,CT 231 #[.int .u64 (A:Int),.int .u64 (B:Int)] w fun e w'=>∃b1 b2,e=.returned (.func (.func 243) #[] #[.pointer (O ⟨b1,0,Y⟩),.pointer (O ⟨b2,0,Y⟩)])/\Bf (fun _ _=>B) A w' (.func (.func 243) #[] #[.pointer (O ⟨b1,0,Y⟩),.pointer (O ⟨b2,0,Y⟩)])/\Gr w w'):=fun w=>(Gq A B hA1 hB1 w).mono (by
  rintro e w' ⟨v,rfl,hd,hg⟩;obtain⟨b1,b2,rfl,hh⟩:=hd;exact⟨b1,b2,rfl,⟨b1,b2,rfl,hh⟩,hg⟩)
 go_enter func222,ntmps222;go_upto_region 2 with(go_at_call 230;refine ku (HT _) fun w1 ak=>?_;have:=ak.lV w;have:=ak.e2 (w.heap.size+1) 2 4 _ _;have:=ak.e2 (w.heap.size+1+1) 2 4 _ _;have fP:=ak.mX w;have hz1:=au fP.1);obtain⟨w2,hw2⟩:∃w2,w1.alloc (.cells #[J zs,J ze] 129)=w2:=⟨_,rfl⟩;have aA:Gr w1 w2:=by rw[<-hw2];exact(Gr.refl _).alloc _ _
 have at0:w2.cell? ⟨w1.heap.size,0,Y⟩=O (J zs):=by rw[<-hw2];simp[go_sem]
 have at1:w2.cell? ⟨w1.heap.size,1,Y⟩=O (J ze):=by rw[<-hw2];simp[go_sem]
 have hz2:w1.heap.size<w2.heap.size:=by rw[<-hw2];simp
 rw[hw2];clear hw2;have:=aA.lV w;have:=aA.e2 (w.heap.size+1) 2 4 _ _;have:=aA.e2 (w.heap.size+1+1) 2 4 _ _;have:=aA.mX w;go_wp2;go_region_held3 (fun w'=>aj w' w.heap.size 0 (J p)/\aj w' w.heap.size 1 (J mn)/\aj w' w.heap.size 2 (J mx)/\aj w' w.heap.size 3 (J md)/\aj w' w.heap.size 4 (.func (.func k) #[] #[])/\aj w' (w.heap.size+1) 4 (.int .u64 (A:Int))/\aj w' (w.heap.size+1+1) 4 (.int .u64 (B:Int))/\aj w' w1.heap.size 0 (J zs)/\aj w' w1.heap.size 1 (J ze))
  (exact nR)
  (first
   |(go_at_call 231;refine(HQ _).mono ?_;rintro e w4 ⟨b1,b2,rfl,hdg,aI⟩;have:=aI.mX w)
   |(go_at_call 228;refine ku (HC _ _ (Bf.gr hdg Gr.g)) fun w3 aF=>?_;have rQ:=aF.mX w))
 all_goals go_wp2
 all_goals
  exact bI (by simp[results,Tryz.results222,go_sem,rQ])
theorem Sr{P:Prop}(h:P:=by
 go_enter func221,ntmps221;go_wp2;go_returns;exact⟨rfl,Gr.g⟩):P:=h
theorem Cm(p mn mx md:Int)(k:Nat)(sx ex cx xh xl sy ey cy yh yl:Int)(tx ty:Bool)(w:World):
  Ou p mn mx md k sx ex 0 xh xl tx 0 sy ey cy yh yl ty 0 w sx ex 0 xh xl tx 0:=by
 exact Sr
theorem CG(p mn mx md:Int)(k:Nat)(sx ex cx xh xl sy ey cy yh yl:Int)(tx ty:Bool)(w:World):
  Ou p mn mx md k 1 ex 1 xh xl tx 0 sy ey cy yh yl ty 0 w 0 0 4 0 0 Z 0:=by
 exact Sr
theorem CB(p mn mx md:Int)(k:Nat)(sx ex cx xh xl sy ey cy yh yl:Int)(tx ty:Bool)(w:World):
  Ou p mn mx md k 1 ex 2 xh xl tx 0 sy ey cy yh yl ty 0 w 0 0 4 0 0 Z 0:=by
 exact Sr
theorem DZ(p mn mx md:Int)(k:Nat)(sx ex cx xh xl sy ey cy yh yl:Int)(tx ty:Bool)(w:World):
  Ou p mn mx md k 0 ex 2 xh xl tx 0 sy ey cy yh yl ty 0 w 0 ex 2 xh xl tx 0:=by
 exact Sr
structure aHy (w wx:World) (p mn mx md:Int) (k:Nat) (xl:Int):Prop where
 g:Gr w wx:=by exact kr
 s0:aj wx w.heap.size 0 (J p):=by exact kl
 s1:aj wx w.heap.size 1 (J mn):=by exact kl
 s2:aj wx w.heap.size 2 (J mx):=by exact kl
 s3:aj wx w.heap.size 3 (J md):=by exact kl
 s4:aj wx w.heap.size 4 (.func (.func k) #[] #[]):=by exact kl
 x4:aj wx (w.heap.size+1) 4 (.int .u64 xl):=by exact kl
 r0:aj wx (w.heap.size+1+1+1) 0 (J 0):=by exact kl
 r0z:bK wx (w.heap.size+1+1+1) 0:=by exact kl
 r1:aj wx (w.heap.size+1+1+1) 1 (J 0):=by exact kl
 r1z:bK wx (w.heap.size+1+1+1) 1:=by exact kl
 r2:aj wx (w.heap.size+1+1+1) 2 (J 0):=by exact kl
 r2z:bK wx (w.heap.size+1+1+1) 2:=by exact kl
 r3:aj wx (w.heap.size+1+1+1) 3 (.int .u64 0):=by exact kl
 r3z:bK wx (w.heap.size+1+1+1) 3:=by exact kl
 r4:aj wx (w.heap.size+1+1+1) 4 (.int .u64 0):=by exact kl
 r4z:bK wx (w.heap.size+1+1+1) 4:=by exact kl
 r5:aj wx (w.heap.size+1+1+1) 5 (.bool Z):=by exact kl
 r5z:bK wx (w.heap.size+1+1+1) 5:=by exact kl
 r6:aj wx (w.heap.size+1+1+1) 6 (J 0):=by exact kl
 r6z:bK wx (w.heap.size+1+1+1) 6:=by exact kl
theorem DY(p mn mx md:Int)(k:Nat)(ex xh xl sy ey cy yh yl:Int)(tx ty:Bool)(fb hi od t sh hq:Int)(Nn:Nat)(hN:Nn<18446744073709551616)(b0:0<=fb)(b1:fb<=60)(e0:-50000<=ex)(e1:ex<=50000)(h1:IntKind.i64.wrap (ex+fb)=hi)(h2:bits .and .i64 hi 1=od)(h3:IntKind.i64.wrap (60-fb)=t)(h4:IntKind.i64.wrap (t+od)=sh)(s0:0<=sh)(s1:sh<=62)(h5:IntKind.u64.wrap (xl*2^sh.toNat)=(Nn:Int))(h6:hi/2=hq)(q0:-100000<=hq)(q1:hq<=100000)(o0:0<=od)(o1:od<=1)
  (HF:J3 p mn mx fb) (os oe oc oh ol:Int) (ot:Bool)
  (HC:Hid (∀w v,Bf bH Nn w v->QR 228 #[dP p mn mx md k,gQ 0 hq,v] w (aU os oe oc oh ol ot 0))) (w:World):
  Ou p mn mx md k 0 ex 1 xh xl tx 0 sy ey cy yh yl ty 0 w os oe oc oh ol ot 0:=by
 have HQ:Hid (∀w,CT 229 #[.int .u64 (Nn:Int)] w fun e w'=>∃b1 b2,e=.returned (.func (.func 243) #[] #[.pointer (O ⟨b1,0,Y⟩),.pointer (O ⟨b2,0,Y⟩)])/\Bf bH Nn w' (.func (.func 243) #[] #[.pointer (O ⟨b1,0,Y⟩),.pointer (O ⟨b2,0,Y⟩)])/\Gr w w'):=fun w=>(Et Nn hN w).mono (by
  rintro e w' ⟨v,rfl,hd,hg⟩;obtain⟨b1,b2,rfl,hh⟩:=hd;exact⟨b1,b2,rfl,⟨b1,b2,rfl,hh⟩,hg⟩)
 go_enter func221,ntmps221;go_wp2;go_cut [7] (fun s7 wx=>s7=J hi/\aHy w wx p mn mx md k xl)
 case first=>
  go_region_held3 (fun w'=>aj w' w.heap.size 0 (J p)/\aj w' w.heap.size 1 (J mn)/\aj w' w.heap.size 2 (J mx)/\aj w' (w.heap.size+1) 1 (J ex))
   (exact nR)
   (first|(go_at_call 194;refine ku (HF _) fun w1 ak=>?_))
  all_goals (go_wp2;go_meet)
  all_goals exact⟨rfl,{}⟩
 case rest=>
  obtain⟨rfl,⟨qg,qs0,qs1,qs2,qs3,qs4,qx4,WQ,aIk,qr1,aIj,qr2,aIi,qr3,aIh,qr4,aIg,qr5,aIf,qr6,aIe⟩⟩:=hcut;go_wp2;go_cut [8] (fun s8 wy=>s8=.int .u64 (Nn:Int)/\aHy w wy p mn mx md k xl)
  case first=>
   go_region_held3 (fun w'=>aj w' w.heap.size 0 (J p)/\aj w' w.heap.size 1 (J mn)/\aj w' w.heap.size 2 (J mx)/\aj w' (w.heap.size+1) 4 (.int .u64 xl))
    (exact nR)
    (first|(go_at_call 194;refine ku (HF _) fun w2 aA=>?_))
   all_goals (go_wp2;go_meet)
   all_goals exact⟨rfl,{}⟩
  case rest=>
   clear qs0 qs1 qs2 qs3 qs4 qx4 WQ aIk qr1 aIj qr2 aIi qr3 aIh qr4 aIg qr5 aIf qr6 aIe;obtain⟨rfl,⟨vg,vs0,vs1,vs2,vs3,vs4,vx4,vr0,aJV,vr1,aJU,vr2,aJT,vr3,aJS,vr4,aJR,vr5,aJQ,vr6,aJP⟩⟩:=hcut;go_wp2;go_region_held3 (fun w'=>aj w' w.heap.size 0 (J p)/\aj w' w.heap.size 1 (J mn)/\aj w' w.heap.size 2 (J mx)/\aj w' w.heap.size 3 (J md)/\aj w' w.heap.size 4 (.func (.func k) #[] #[]))
    (exact nR)
    (first
     |(go_at_call 229;refine(HQ _).mono ?_;rintro e w4 ⟨b1,b2,rfl,hdg,aI⟩;have:=aI.mX w)
     |(go_at_call 228;refine ku (HC _ _ (Bf.gr hdg Gr.g)) fun w3 aF=>?_;have rQ:=aF.mX w))
   all_goals go_wp2
   all_goals
    exact bI (by simp[results,Tryz.results221,go_sem,rQ])
