import Derived.Test.YtmiekgjgpmfekaaGreatDoorK6
set_option linter.all false
set_option maxRecDepth 1000000
set_option maxHeartbeats 40000000
open Option renaming none → X
open Bool renaming true → V
open Go.Proofs.YtmiekgjgpmfekaaGreatDoor renaming vI → J
open Go.Value renaming int → Y, bool → Z, tuple → O
open Go.Proofs.Tryz
namespace Go.Proofs.YtmiekgjgpmfekaaGreatDoor
open Go.RowKit
variable{w:World}
theorem aCM{P:Prop}(h:P:=by
 go_enter func37,ntmps37;go_wp2_with (first
  |(go_at_call 86;refine ku (HS _ Gr.g) fun w1 ak=>?_;have t_:=ak.aZ w;have hz1:=au t_.1)
  |(go_at_call 87;refine ku (HK _) fun w2 aA=>?_;have BO:=aA.aZ w;have ls0:=aA.lV w1;have hz2:=au BO.1;have hy2:=au ls0.1))
 exact bI (by simp[results,Tryz.results37,go_sem,BO])):P:=h
theorem Bj{P:Prop}(h:P:=by
 subst hq;obtain⟨hnil0,hnil1,hnil2,hnil3⟩:=aE2;go_enter func37,ntmps37;go_upto_region 6 with(first
  |(go_at_call 86;refine ku (HS _ Gr.g) fun w1 ak=>?_;have t_:=ak.aZ w;have hz1:=au t_.1)
  |(go_at_call 87;refine ku (HK _) fun w2 aA=>?_;have BO:=aA.aZ w;have ls0:=aA.lV w1;have hz2:=au BO.1;have hy2:=au ls0.1)
  |(go_at_call 88;refine ku (HF _) fun w3 aF=>?_;have nr0:=aF.aZ w;have ns0:=aF.lV w1;have hz3:=au nr0.1;have hy3:=au ns0.1)
  |(go_at_call 89;refine ku (HA _) fun w4 aI=>?_;have kK:=aI.aZ w;have ps0:=aI.lV w1;have hz4:=au kK.1;have hy4:=au ps0.1))
 obtain⟨w5,hw5⟩:∃w5,w4.alloc (.cells #[J sx,J ex,J cx,Y .u64 xh,Y .u64 xl,Z tx,J 0] 133)=w5:=⟨_,rfl⟩;have aT:Gr w4 w5:=by rw[<-hw5];exact(Gr.refl _).alloc _ _
 have x0:w5.cell? ⟨w4.heap.size,0,X⟩=some (J sx):=by rw[<-hw5];simp[go_sem]
 have xz0:bK w5 w4.heap.size 0:=by rw[<-hw5];simp[go_sem]
 have x1:w5.cell? ⟨w4.heap.size,1,X⟩=some (J ex):=by rw[<-hw5];simp[go_sem]
 have xz1:bK w5 w4.heap.size 1:=by rw[<-hw5];simp[go_sem]
 have x2:w5.cell? ⟨w4.heap.size,2,X⟩=some (J cx):=by rw[<-hw5];simp[go_sem]
 have xz2:bK w5 w4.heap.size 2:=by rw[<-hw5];simp[go_sem]
 have x3:w5.cell? ⟨w4.heap.size,3,X⟩=some (Y .u64 xh):=by rw[<-hw5];simp[go_sem]
 have xz3:bK w5 w4.heap.size 3:=by rw[<-hw5];simp[go_sem]
 have x4:w5.cell? ⟨w4.heap.size,4,X⟩=some (Y .u64 xl):=by rw[<-hw5];simp[go_sem]
 have xz4:bK w5 w4.heap.size 4:=by rw[<-hw5];simp[go_sem]
 have x5:w5.cell? ⟨w4.heap.size,5,X⟩=some (Z tx):=by rw[<-hw5];simp[go_sem]
 have xz5:bK w5 w4.heap.size 5:=by rw[<-hw5];simp[go_sem]
 have x6:w5.cell? ⟨w4.heap.size,6,X⟩=some (J 0):=by rw[<-hw5];simp[go_sem]
 have xz6:bK w5 w4.heap.size 6:=by rw[<-hw5];simp[go_sem]
 have Q_:w4.heap.size<w5.heap.size:=by rw[<-hw5];simp
 rw[hw5];clear hw5;have:=aT.aZ w;have:=aT.lV w1;have aFd:Gr w w5:=Gr.g;go_upto_region 7 with(go_at_call 90;refine ku (HC _) fun w6 b_=>?_;have:=b_.aZ w;have tx0:=b_.Y70 w4;have hz6:=au tx0.1);obtain⟨w7,hw7⟩:∃w7,((((((w6.setCell ⟨w4.heap.size,0,X⟩ (J os)).setCell ⟨w4.heap.size,1,X⟩ (J oe)).setCell ⟨w4.heap.size,2,X⟩ (J oc)).setCell ⟨w4.heap.size,3,X⟩ (Y .u64 oh)).setCell ⟨w4.heap.size,4,X⟩ (Y .u64 ol)).setCell ⟨w4.heap.size,5,X⟩ (Z ot)).setCell ⟨w4.heap.size,6,X⟩ (J of)=w7:=⟨_,rfl⟩;have aFc:Gr w w6:=Gr.g;have hlt:w.heap.size<=w4.heap.size:=om;have aFb:Gr w w7:=by
  rw[<-hw7];exact(((((((aFc.setCell (a:=⟨w4.heap.size,0,X⟩) hlt _).setCell (a:=⟨w4.heap.size,1,X⟩) hlt _).setCell (a:=⟨w4.heap.size,2,X⟩) hlt _).setCell (a:=⟨w4.heap.size,3,X⟩) hlt _).setCell (a:=⟨w4.heap.size,4,X⟩) hlt _).setCell (a:=⟨w4.heap.size,5,X⟩) hlt _).setCell (a:=⟨w4.heap.size,6,X⟩) hlt _)
 have y0:w7.cell? ⟨w4.heap.size,0,X⟩=some (J os):=by rw[<-hw7];exact kh
 have y1:w7.cell? ⟨w4.heap.size,1,X⟩=some (J oe):=by rw[<-hw7];exact kh
 have y2:w7.cell? ⟨w4.heap.size,2,X⟩=some (J oc):=by rw[<-hw7];exact kh
 have y3:w7.cell? ⟨w4.heap.size,3,X⟩=some (Y .u64 oh):=by rw[<-hw7];exact kh
 have y4:w7.cell? ⟨w4.heap.size,4,X⟩=some (Y .u64 ol):=by rw[<-hw7];exact kh
 have y5:w7.cell? ⟨w4.heap.size,5,X⟩=some (Z ot):=by rw[<-hw7];exact kh
 have y6:w7.cell? ⟨w4.heap.size,6,X⟩=some (J of):=by rw[<-hw7];exact kh
 have yr0:w7.cell? ⟨w.heap.size,0,X⟩=some (Y .u64 0):=by rw[<-hw7];exact kh
 have aHL:bK w7 w.heap.size 0:=by rw[<-hw7];exact kh
 have yr1:w7.cell? ⟨w.heap.size,1,X⟩=some (J 0):=by rw[<-hw7];exact kh
 have aHK:bK w7 w.heap.size 1:=by rw[<-hw7];exact kh
 have hz7:w4.heap.size<w7.heap.size:=au y0;rw[hw7];clear hw7;go_region_held3 (fun w'=>aj w' w4.heap.size 0 (J os)/\aj w' w4.heap.size 1 (J oe)/\aj w' w4.heap.size 2 (J oc)/\aj w' w4.heap.size 3 (Y .u64 oh)/\aj w' w4.heap.size 4 (Y .u64 ol)/\aj w' w4.heap.size 5 (Z ot)/\aj w' w4.heap.size 6 (J of))
  (exact kZ)
  (first
   |(go_at_call 92;refine ku (HZ _) fun w8 pI=>?_;have:=pI.aZ w)
   |((first|go_at_call 261|go_at_call 264|go_at_call 266|go_at_call 268);refine ku (HT _) fun w9 aV=>?_;have iw:=aV.aZ w;have:=aV.e1 w4.heap.size 6 _))
 all_goals go_wp2
 all_goals
  exact bI (by simp[results,Tryz.results37,go_sem,iw])):P:=h
attribute [local go_sem] aj bK
theorem aE2:(∀w,Sem.run Tryz.prog (nilAhead 367 180 (.agg #[Y .i32 (-2147483648),Y .i32 2147483647]) "loop.example/s01330/impl.toWord") w=Result.ok (some false) w)/\(∀w,Sem.run Tryz.prog (nilAhead 367 182 (gQ (-9223372036854775808) 9223372036854775807) "loop.example/s01330/impl.toWord") w=Result.ok (some false) w)/\(∀w,Sem.run Tryz.prog (nilAhead 367 185 (.agg #[Y .u32 0,Y .u32 4294967295]) "loop.example/s01330/impl.toWord") w=Result.ok (some false) w)/\(∀w,Sem.run Tryz.prog (nilAhead 367 187 (aG 0 18446744073709551615) "loop.example/s01330/impl.toWord") w=Result.ok (some false) w):=⟨fun w=>by kernel_rfl,fun w=>by kernel_rfl,fun w=>by kernel_rfl,fun w=>by kernel_rfl⟩
theorem uG(s e c mh ml fl:Int)(t:Bool)(h:decide (1<c)=V)(w:World):
  Ij s e c mh ml t fl w 1 0:=by
 go_enter func92,ntmps92;go_wp2;go_returns;exact⟨rfl,Gr.g⟩
theorem uF(s e c mh ml fl k rh rl:Int)(t:Bool)(h:decide (1<c)=false)(hk:min e 64=k)(HS:KR 158 #[aG mh ml,J k] (aG rh rl))(w:World):
  Ij s e c mh ml t fl w rh rl:=by
 go_enter func92,ntmps92;go_wp2_with (go_at_call 158;refine ku (HS _) fun w1 ak=>?_;have fP:=ak.Wy w);exact bI (by simp[results,Tryz.results92,go_sem,fP])
theorem XH(p mn mx md f mode kind a:Int)(kv:Value)(kB:Bool)(HS:Hid (∀w',Gr w w'->QR 86 #[J f,J mode] w' (O #[.agg #[J p,J mn,J mx,J md,Value.nilFunc],Z false])))(HK:KR 87 #[J kind] (O #[kv,Z kB])):
  pV f mode kind a w 0 1:=by
 exact aCM
theorem aEn(p mn mx md f mode kind a:Int)(k:Nat)(HS:Hid (∀w',Gr w w'->vK f mode w' p mn mx md k V))(HK:KR 87 #[J kind] (O #[Value.nilIface,Z false])):
  pV f mode kind a w 0 1:=by
 exact aCM
theorem aEm(p mn mx md f mode kind a:Int)(k:Nat)(kv:Value)(HS:Hid (∀w',Gr w w'->vK f mode w' p mn mx md k V))(HK:KR 87 #[J kind] (O #[kv,Z V]))(HF:pW p mn mx a false):
  pV f mode kind a w 0 1:=by
 go_enter func37,ntmps37;go_wp2_with (first
  |(go_at_call 86;refine ku (HS _ Gr.g) fun w1 ak=>?_;have t_:=ak.aZ w;have hz1:=au t_.1)
  |(go_at_call 87;refine ku (HK _) fun w2 aA=>?_;have BO:=aA.aZ w;have ls0:=aA.lV w1;have hz2:=au BO.1;have hy2:=au ls0.1)
  |(go_at_call 88;refine ku (HF _) fun w3 aF=>?_;have nr0:=aF.aZ w;have ns0:=aF.lV w1;have hz3:=au nr0.1;have hy3:=au ns0.1))
 exact bI (by simp[results,Tryz.results37,go_sem,nr0])
theorem aF6(p mn mx mode f kind a sx ex cx xh xl os oe oc oh ol of rh rl z:Int)(tx ot q:Bool)(hq:q=false)(k:Nat)(HS:Hid (∀w',Gr w w'->mZ f mode w' p mn mx k V))(HK:KR 87 #[J kind] (O #[.iface 180 (.agg #[Y .i32 (-2147483648),Y .i32 2147483647]),Z V]))(HF:pW p mn mx a V)(HA:rY p mn mx a sx ex cx xh xl tx 0)(HC:zV p mn mx mode k 91 sx ex cx xh xl tx 0 os oe oc oh ol ot of)(HZ:zU os oe oc oh ol ot of rh rl)(HT:KR 261 #[.agg #[Y .i32 (-2147483648),Y .i32 2147483647],J os,aG rh rl] (O #[Y .u64 z,Z q])):
  pV f mode kind a w z 1:=by
 exact Bj
theorem aF2(p mn mx mode f kind a sx ex cx xh xl os oe oc oh ol of rh rl z:Int)(tx ot q:Bool)(hq:q=V)(k:Nat)(HS:Hid (∀w',Gr w w'->mZ f mode w' p mn mx k V))(HK:KR 87 #[J kind] (O #[.iface 180 (.agg #[Y .i32 (-2147483648),Y .i32 2147483647]),Z V]))(HF:pW p mn mx a V)(HA:rY p mn mx a sx ex cx xh xl tx 0)(HC:zV p mn mx mode k 91 sx ex cx xh xl tx 0 os oe oc oh ol ot of)(HZ:zU os oe oc oh ol ot of rh rl)(HT:KR 261 #[.agg #[Y .i32 (-2147483648),Y .i32 2147483647],J os,aG rh rl] (O #[Y .u64 z,Z q])):
  pV f mode kind a w z of:=by
 exact Bj
theorem aF5(p mn mx mode f kind a sx ex cx xh xl os oe oc oh ol of rh rl z:Int)(tx ot q:Bool)(hq:q=false)(k:Nat)(HS:Hid (∀w',Gr w w'->mZ f mode w' p mn mx k V))(HK:KR 87 #[J kind] (O #[.iface 182 (gQ (-9223372036854775808) 9223372036854775807),Z V]))(HF:pW p mn mx a V)(HA:rY p mn mx a sx ex cx xh xl tx 0)(HC:zV p mn mx mode k 91 sx ex cx xh xl tx 0 os oe oc oh ol ot of)(HZ:zU os oe oc oh ol ot of rh rl)(HT:KR 264 #[gQ (-9223372036854775808) 9223372036854775807,J os,aG rh rl] (O #[Y .u64 z,Z q])):
  pV f mode kind a w z 1:=by
 exact Bj
theorem aF1(p mn mx mode f kind a sx ex cx xh xl os oe oc oh ol of rh rl z:Int)(tx ot q:Bool)(hq:q=V)(k:Nat)(HS:Hid (∀w',Gr w w'->mZ f mode w' p mn mx k V))(HK:KR 87 #[J kind] (O #[.iface 182 (gQ (-9223372036854775808) 9223372036854775807),Z V]))(HF:pW p mn mx a V)(HA:rY p mn mx a sx ex cx xh xl tx 0)(HC:zV p mn mx mode k 91 sx ex cx xh xl tx 0 os oe oc oh ol ot of)(HZ:zU os oe oc oh ol ot of rh rl)(HT:KR 264 #[gQ (-9223372036854775808) 9223372036854775807,J os,aG rh rl] (O #[Y .u64 z,Z q])):
  pV f mode kind a w z of:=by
 exact Bj
theorem aF4(p mn mx mode f kind a sx ex cx xh xl os oe oc oh ol of rh rl z:Int)(tx ot q:Bool)(hq:q=false)(k:Nat)(HS:Hid (∀w',Gr w w'->mZ f mode w' p mn mx k V))(HK:KR 87 #[J kind] (O #[.iface 185 (.agg #[Y .u32 0,Y .u32 4294967295]),Z V]))(HF:pW p mn mx a V)(HA:rY p mn mx a sx ex cx xh xl tx 0)(HC:zV p mn mx mode k 91 sx ex cx xh xl tx 0 os oe oc oh ol ot of)(HZ:zU os oe oc oh ol ot of rh rl)(HT:KR 266 #[.agg #[Y .u32 0,Y .u32 4294967295],J os,aG rh rl] (O #[Y .u64 z,Z q])):
  pV f mode kind a w z 1:=by
 exact Bj
theorem aF0(p mn mx mode f kind a sx ex cx xh xl os oe oc oh ol of rh rl z:Int)(tx ot q:Bool)(hq:q=V)(k:Nat)(HS:Hid (∀w',Gr w w'->mZ f mode w' p mn mx k V))(HK:KR 87 #[J kind] (O #[.iface 185 (.agg #[Y .u32 0,Y .u32 4294967295]),Z V]))(HF:pW p mn mx a V)(HA:rY p mn mx a sx ex cx xh xl tx 0)(HC:zV p mn mx mode k 91 sx ex cx xh xl tx 0 os oe oc oh ol ot of)(HZ:zU os oe oc oh ol ot of rh rl)(HT:KR 266 #[.agg #[Y .u32 0,Y .u32 4294967295],J os,aG rh rl] (O #[Y .u64 z,Z q])):
  pV f mode kind a w z of:=by
 exact Bj
theorem aF3(p mn mx mode f kind a sx ex cx xh xl os oe oc oh ol of rh rl z:Int)(tx ot q:Bool)(hq:q=false)(k:Nat)(HS:Hid (∀w',Gr w w'->mZ f mode w' p mn mx k V))(HK:KR 87 #[J kind] (O #[.iface 187 (aG 0 18446744073709551615),Z V]))(HF:pW p mn mx a V)(HA:rY p mn mx a sx ex cx xh xl tx 0)(HC:zV p mn mx mode k 91 sx ex cx xh xl tx 0 os oe oc oh ol ot of)(HZ:zU os oe oc oh ol ot of rh rl)(HT:KR 268 #[aG 0 18446744073709551615,J os,aG rh rl] (O #[Y .u64 z,Z q])):
  pV f mode kind a w z 1:=by
 exact Bj
theorem aFZ(p mn mx mode f kind a sx ex cx xh xl os oe oc oh ol of rh rl z:Int)(tx ot q:Bool)(hq:q=V)(k:Nat)(HS:Hid (∀w',Gr w w'->mZ f mode w' p mn mx k V))(HK:KR 87 #[J kind] (O #[.iface 187 (aG 0 18446744073709551615),Z V]))(HF:pW p mn mx a V)(HA:rY p mn mx a sx ex cx xh xl tx 0)(HC:zV p mn mx mode k 91 sx ex cx xh xl tx 0 os oe oc oh ol ot of)(HZ:zU os oe oc oh ol ot of rh rl)(HT:KR 268 #[aG 0 18446744073709551615,J os,aG rh rl] (O #[Y .u64 z,Z q])):
  pV f mode kind a w z of:=by
 exact Bj
