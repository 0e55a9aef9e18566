import Derived.Test.YtmiekgjgpmfekaaGreatDoorK4
set_option linter.all false
set_option maxRecDepth 1000000
set_option maxHeartbeats 40000000
open Bool renaming true → X
open Go.Proofs.YtmiekgjgpmfekaaGreatDoor renaming vI → J
open Go.Value renaming int → Y, bool → Z, tuple → O
open Go.Proofs.Tryz
namespace Go.Proofs.YtmiekgjgpmfekaaGreatDoor
open Go.RowKit
variable{w:World}
theorem aDi{P:Prop}(h:P:=by
 refine bodyPost_ret (v:=aU os oe oc oh ol ot 0) (by simp[results,Tryz.results90,go_sem,fP]) rfl ⟨os,oe,oc,oh,ol,ot,hq,rfl,?_⟩;exact Gr.g):P:=h
attribute [local go_sem] aj
theorem NV(p mn mx md:Int)(k:Nat)(sx ex cx xh xl sy ey cy yh yl:Int)(tx ty:Bool)(m:Int)(hm:max cx cy=m)(h3:m<3)(Q:Int->Int->Int->Int->Int->Bool->Prop)(HO:Hid (∀w,CT 209 #[dP p mn mx md k,aU sx ex cx xh xl tx 0,aU sy ey cy yh yl ty 0] w fun e w'=>∃os oe oc oh ol ot,Q os oe oc oh ol ot/\e=.returned (aU os oe oc oh ol ot 0)/\Gr w w'))(w:World):
  CT 90 #[dP p mn mx md k,.func (.func 209) #[] #[],aU sx ex cx xh xl tx 0,aU sy ey cy yh yl ty 0] w fun e w'=>∃os oe oc oh ol ot,Q os oe oc oh ol ot/\e=.returned (aU os oe oc oh ol ot 0)/\Gr w w':=by
 go_enter func90,ntmps90;go_wp2_with (go_at_call 209;refine(HO _).mono ?_;rintro e w1 ⟨os,oe,oc,oh,ol,ot,hq,rfl,ak⟩;have fP:=ak.mX w);exact aDi
theorem CY(p mn mx md:Int)(k:Nat)(sx ex cx xh xl sy ey cy yh yl:Int)(tx ty:Bool)(m:Int)(hm:max cx cy=m)(h3:m<3)(Q:Int->Int->Int->Int->Int->Bool->Prop)(HO:Hid (∀w,CT 181 #[dP p mn mx md k,aU sx ex cx xh xl tx 0,aU sy ey cy yh yl ty 0] w fun e w'=>∃os oe oc oh ol ot,Q os oe oc oh ol ot/\e=.returned (aU os oe oc oh ol ot 0)/\Gr w w'))(w:World):
  CT 90 #[dP p mn mx md k,.func (.func 181) #[] #[],aU sx ex cx xh xl tx 0,aU sy ey cy yh yl ty 0] w fun e w'=>∃os oe oc oh ol ot,Q os oe oc oh ol ot/\e=.returned (aU os oe oc oh ol ot 0)/\Gr w w':=by
 go_enter func90,ntmps90;go_wp2_with (go_at_call 181;refine(HO _).mono ?_;rintro e w1 ⟨os,oe,oc,oh,ol,ot,hq,rfl,ak⟩;have fP:=ak.mX w);exact aDi
theorem FH(p mn mx md f:Int)(k own:Nat)(a b sx ex cx xh xl sy ey cy yh yl:Int)(tx ty:Bool)(HF:Hid (∀w',Gr w w'->mZ f md w' p mn mx k X))
  (HA:rY p mn mx a sx ex cx xh xl tx 0) (HB:rY p mn mx b sy ey cy yh yl ty 0) (Q:Int->Int->Int->Int->Int->Bool->Int->Prop) (HC:Hid (∀w,CT 90 #[dP p mn mx md k,.func (.func own) #[] #[],aU sx ex cx xh xl tx 0,aU sy ey cy yh yl ty 0] w fun e w'=>∃os oe oc oh ol ot of,Q os oe oc oh ol ot of/\e=.returned (aU os oe oc oh ol ot of)/\Gr w w'))
  (R:Int->Int->Prop) (HP:Hid (∀os oe oc oh ol ot of w,Q os oe oc oh ol ot of->CT 179 #[dP p mn mx md k,aU os oe oc oh ol ot of] w (zW R w))):
  CT 133 #[J f,J md,.func (.func own) #[] #[],Y .u64 a,Y .u64 b] w (zW R w):=by
 go_enter func133,ntmps133;go_wp2_with (go_at_call 86;refine ku (HF _ Gr.g) fun w1 ak=>?_;have t_:=ak.aZ w;have hz1:=au t_.1);go_region_held3 (fun w'=>aj w' w1.heap.size 0 (J p)/\aj w' w1.heap.size 1 (J mn)/\aj w' w1.heap.size 2 (J mx)/\aj w' w1.heap.size 3 (J md)/\aj w' w1.heap.size 4 (.func (.func k) #[] #[]))
  (exact nR)
  (first
   |(go_at_call 89;first|(with_reducible refine ku (HA.out _) fun w2 aA=>?_;have:=aA.aZ w)|(with_reducible refine ku (HB.out _) fun w2 aA=>?_;have:=aA.aZ w))
   |(go_at_call 90;refine(HC _).mono ?_;rintro e w3 ⟨os,oe,oc,oh,ol,ot,of,hq,rfl,aF⟩;have:=aF.aZ w)
   |(go_at_call 179;refine(HP _ _ _ _ _ _ _ _ hq).mono ?_;rintro e w4 ⟨z,fl,hr,rfl,aI⟩;have NP:=aI.aZ w))
 all_goals go_wp2
 all_goals
  refine bodyPost_ret (v:=aK z fl) (by simp[results,Tryz.results133,go_sem,NP]) rfl ⟨z,fl,hr,rfl,?_⟩;exact Gr.g
theorem Sz{P:Prop}(h:P:=by
 refine bodyPost_ret (v:=aK z fl) (by simp[results,Tryz.results145,go_sem,jk]) rfl ⟨z,fl,hq,rfl,?_⟩;exact Gr.g):P:=h
theorem aDj{P:Prop}(h:P:=by
 go_enter func145,ntmps145;go_wp2_with (first
  |(go_at_call 86;refine ku (HS _ Gr.g) fun w1 ak=>?_;have t_:=ak.aZ w;have hz1:=au t_.1)
  |(go_at_call 87;refine ku (HK _) fun w2 aA=>?_;have BO:=aA.aZ w;have:=aA.lV w1;have hz2:=au BO.1)
  |(go_at_call 178;refine ku (HN _) fun w4 aI=>?_;have jk:=aI.aZ w))
 exact bI (by simp[results,Tryz.results145,go_sem,jk])):P:=h
theorem NG(p mn mx md nan f mode kind a:Int)(kv:Value)(kB:Bool)(HS:Hid (∀w',Gr w w'->QR 86 #[J f,J mode] w' (O #[.agg #[J p,J mn,J mx,J md,Value.nilFunc],Z false])))(HK:KR 87 #[J kind] (O #[kv,Z kB]))(HN:Gy p mn mx nan 1):
  zQ f mode kind a w nan 1:=by
 exact aDj
theorem ZM(p mn mx md nan f mode kind a:Int)(k:Nat)(HS:Hid (∀w',Gr w w'->vK f mode w' p mn mx md k X))(HK:KR 87 #[J kind] (O #[Value.nilIface,Z false]))(HN:Gy p mn mx nan 1):
  zQ f mode kind a w nan 1:=by
 exact aDj
theorem Wh(p mn mx md nan f mode kind a s m:Int)(k:Nat)(HS:Hid (∀w',Gr w w'->vK f mode w' p mn mx md k X))(HK:KR 87 #[J kind] (O #[.iface 180 (.agg #[Y .i32 (-2147483648),Y .i32 2147483647]),Z X]))(HW:KR 260 #[.agg #[Y .i32 (-2147483648),Y .i32 2147483647],Y .u64 a] (O #[J s,Y .u64 m,Z false]))(HN:Gy p mn mx nan 1):
  zQ f mode kind a w nan 1:=by
 go_enter func145,ntmps145;go_wp2_with (first
  |(go_at_call 86;refine ku (HS _ Gr.g) fun w1 ak=>?_;have t_:=ak.aZ w;have hz1:=au t_.1)
  |(go_at_call 87;refine ku (HK _) fun w2 aA=>?_;have BO:=aA.aZ w;have:=aA.lV w1;have hz2:=au BO.1)
  |(go_at_call 260;refine ku (HW _) fun w3 aF=>?_;have:=aF.aZ w;have:=aF.lV w1)
  |(go_at_call 178;refine ku (HN _) fun w4 aI=>?_;have jk:=aI.aZ w))
 exact bI (by simp[results,Tryz.results145,go_sem,jk])
theorem ZL(p mn mx md f mode kind a s m:Int)(k:Nat)(HS:Hid (∀w',Gr w w'->vK f mode w' p mn mx md k X))(HK:KR 87 #[J kind] (O #[.iface 180 (.agg #[Y .i32 (-2147483648),Y .i32 2147483647]),Z X]))(HW:KR 260 #[.agg #[Y .i32 (-2147483648),Y .i32 2147483647],Y .u64 a] (O #[J s,Y .u64 m,Z X]))(Q:Int->Int->Prop)(HR:Hid (∀w,CT 185 #[dP p mn mx md k,J s,J 0,aG 0 m,Z false] w (zW Q w))):
  CT 145 #[J f,J mode,J kind,Y .u64 a] w (zW Q w):=by
 go_enter func145,ntmps145;go_wp2_with (first
  |(go_at_call 86;refine ku (HS _ Gr.g) fun w1 ak=>?_;have t_:=ak.aZ w;have hz1:=au t_.1)
  |(go_at_call 87;refine ku (HK _) fun w2 aA=>?_;have BO:=aA.aZ w;have:=aA.lV w1;have hz2:=au BO.1)
  |(go_at_call 260;refine ku (HW _) fun w3 aF=>?_;have:=aF.aZ w;have:=aF.lV w1)
  |(go_at_call 185;refine(HR _).mono ?_;rintro x w4 ⟨z,fl,hq,rfl,aI⟩;have jk:=aI.aZ w))
 exact Sz
theorem H9(p mn mx md nan f mode kind a s m:Int)(k:Nat)(HS:Hid (∀w',Gr w w'->vK f mode w' p mn mx md k X))(HK:KR 87 #[J kind] (O #[.iface 182 (gQ (-9223372036854775808) 9223372036854775807),Z X]))(HW:KR 263 #[gQ (-9223372036854775808) 9223372036854775807,Y .u64 a] (O #[J s,Y .u64 m,Z false]))(HN:Gy p mn mx nan 1):
  zQ f mode kind a w nan 1:=by
 go_enter func145,ntmps145;go_wp2_with (first
  |(go_at_call 86;refine ku (HS _ Gr.g) fun w1 ak=>?_;have t_:=ak.aZ w;have hz1:=au t_.1)
  |(go_at_call 87;refine ku (HK _) fun w2 aA=>?_;have BO:=aA.aZ w;have:=aA.lV w1;have hz2:=au BO.1)
  |(go_at_call 263;refine ku (HW _) fun w3 aF=>?_;have:=aF.aZ w;have:=aF.lV w1)
  |(go_at_call 178;refine ku (HN _) fun w4 aI=>?_;have jk:=aI.aZ w))
 exact bI (by simp[results,Tryz.results145,go_sem,jk])
theorem ND(p mn mx md f mode kind a s m:Int)(k:Nat)(HS:Hid (∀w',Gr w w'->vK f mode w' p mn mx md k X))(HK:KR 87 #[J kind] (O #[.iface 182 (gQ (-9223372036854775808) 9223372036854775807),Z X]))(HW:KR 263 #[gQ (-9223372036854775808) 9223372036854775807,Y .u64 a] (O #[J s,Y .u64 m,Z X]))(Q:Int->Int->Prop)(HR:Hid (∀w,CT 185 #[dP p mn mx md k,J s,J 0,aG 0 m,Z false] w (zW Q w))):
  CT 145 #[J f,J mode,J kind,Y .u64 a] w (zW Q w):=by
 go_enter func145,ntmps145;go_wp2_with (first
  |(go_at_call 86;refine ku (HS _ Gr.g) fun w1 ak=>?_;have t_:=ak.aZ w;have hz1:=au t_.1)
  |(go_at_call 87;refine ku (HK _) fun w2 aA=>?_;have BO:=aA.aZ w;have:=aA.lV w1;have hz2:=au BO.1)
  |(go_at_call 263;refine ku (HW _) fun w3 aF=>?_;have:=aF.aZ w;have:=aF.lV w1)
  |(go_at_call 185;refine(HR _).mono ?_;rintro x w4 ⟨z,fl,hq,rfl,aI⟩;have jk:=aI.aZ w))
 exact Sz
theorem V_(p mn mx md nan f mode kind a s m:Int)(k:Nat)(HS:Hid (∀w',Gr w w'->vK f mode w' p mn mx md k X))(HK:KR 87 #[J kind] (O #[.iface 185 (.agg #[Y .u32 0,Y .u32 4294967295]),Z X]))(HW:KR 265 #[.agg #[Y .u32 0,Y .u32 4294967295],Y .u64 a] (O #[J s,Y .u64 m,Z false]))(HN:Gy p mn mx nan 1):
  zQ f mode kind a w nan 1:=by
 go_enter func145,ntmps145;go_wp2_with (first
  |(go_at_call 86;refine ku (HS _ Gr.g) fun w1 ak=>?_;have t_:=ak.aZ w;have hz1:=au t_.1)
  |(go_at_call 87;refine ku (HK _) fun w2 aA=>?_;have BO:=aA.aZ w;have:=aA.lV w1;have hz2:=au BO.1)
  |(go_at_call 265;refine ku (HW _) fun w3 aF=>?_;have:=aF.aZ w;have:=aF.lV w1)
  |(go_at_call 178;refine ku (HN _) fun w4 aI=>?_;have jk:=aI.aZ w))
 exact bI (by simp[results,Tryz.results145,go_sem,jk])
theorem ZK(p mn mx md f mode kind a s m:Int)(k:Nat)(HS:Hid (∀w',Gr w w'->vK f mode w' p mn mx md k X))(HK:KR 87 #[J kind] (O #[.iface 185 (.agg #[Y .u32 0,Y .u32 4294967295]),Z X]))(HW:KR 265 #[.agg #[Y .u32 0,Y .u32 4294967295],Y .u64 a] (O #[J s,Y .u64 m,Z X]))(Q:Int->Int->Prop)(HR:Hid (∀w,CT 185 #[dP p mn mx md k,J s,J 0,aG 0 m,Z false] w (zW Q w))):
  CT 145 #[J f,J mode,J kind,Y .u64 a] w (zW Q w):=by
 go_enter func145,ntmps145;go_wp2_with (first
  |(go_at_call 86;refine ku (HS _ Gr.g) fun w1 ak=>?_;have t_:=ak.aZ w;have hz1:=au t_.1)
  |(go_at_call 87;refine ku (HK _) fun w2 aA=>?_;have BO:=aA.aZ w;have:=aA.lV w1;have hz2:=au BO.1)
  |(go_at_call 265;refine ku (HW _) fun w3 aF=>?_;have:=aF.aZ w;have:=aF.lV w1)
  |(go_at_call 185;refine(HR _).mono ?_;rintro x w4 ⟨z,fl,hq,rfl,aI⟩;have jk:=aI.aZ w))
 exact Sz
theorem V9(p mn mx md nan f mode kind a s m:Int)(k:Nat)(HS:Hid (∀w',Gr w w'->vK f mode w' p mn mx md k X))(HK:KR 87 #[J kind] (O #[.iface 187 (aG 0 18446744073709551615),Z X]))(HW:KR 267 #[aG 0 18446744073709551615,Y .u64 a] (O #[J s,Y .u64 m,Z false]))(HN:Gy p mn mx nan 1):
  zQ f mode kind a w nan 1:=by
 go_enter func145,ntmps145;go_wp2_with (first
  |(go_at_call 86;refine ku (HS _ Gr.g) fun w1 ak=>?_;have t_:=ak.aZ w;have hz1:=au t_.1)
  |(go_at_call 87;refine ku (HK _) fun w2 aA=>?_;have BO:=aA.aZ w;have:=aA.lV w1;have hz2:=au BO.1)
  |(go_at_call 267;refine ku (HW _) fun w3 aF=>?_;have:=aF.aZ w;have:=aF.lV w1)
  |(go_at_call 178;refine ku (HN _) fun w4 aI=>?_;have jk:=aI.aZ w))
 exact bI (by simp[results,Tryz.results145,go_sem,jk])
theorem ZJ(p mn mx md f mode kind a s m:Int)(k:Nat)(HS:Hid (∀w',Gr w w'->vK f mode w' p mn mx md k X))(HK:KR 87 #[J kind] (O #[.iface 187 (aG 0 18446744073709551615),Z X]))(HW:KR 267 #[aG 0 18446744073709551615,Y .u64 a] (O #[J s,Y .u64 m,Z X]))(Q:Int->Int->Prop)(HR:Hid (∀w,CT 185 #[dP p mn mx md k,J s,J 0,aG 0 m,Z false] w (zW Q w))):
  CT 145 #[J f,J mode,J kind,Y .u64 a] w (zW Q w):=by
 go_enter func145,ntmps145;go_wp2_with (first
  |(go_at_call 86;refine ku (HS _ Gr.g) fun w1 ak=>?_;have t_:=ak.aZ w;have hz1:=au t_.1)
  |(go_at_call 87;refine ku (HK _) fun w2 aA=>?_;have BO:=aA.aZ w;have:=aA.lV w1;have hz2:=au BO.1)
  |(go_at_call 267;refine ku (HW _) fun w3 aF=>?_;have:=aF.aZ w;have:=aF.lV w1)
  |(go_at_call 185;refine(HR _).mono ?_;rintro x w4 ⟨z,fl,hq,rfl,aI⟩;have jk:=aI.aZ w))
 exact Sz
theorem nD(p mn mx md:Int)(k:Nat)(sx ex cx xh xl sy ey cy yh yl:Int)(tx ty:Bool)(m:Int)(hm:max cx cy=m)(h3:m<3)(Q:Int->Int->Int->Int->Int->Bool->Int->Prop)(HO:Hid (∀w,CT 91 #[dP p mn mx md k,aU sx ex cx xh xl tx 0,aU sy ey cy yh yl ty 0] w fun e w'=>∃os oe oc oh ol ot of,Q os oe oc oh ol ot of/\e=.returned (aU os oe oc oh ol ot of)/\Gr w w'))(w:World):
  CT 90 #[dP p mn mx md k,.func (.func 91) #[] #[],aU sx ex cx xh xl tx 0,aU sy ey cy yh yl ty 0] w fun e w'=>∃os oe oc oh ol ot of,Q os oe oc oh ol ot of/\e=.returned (aU os oe oc oh ol ot of)/\Gr w w':=by
 go_enter func90,ntmps90;go_wp2_with (go_at_call 91;refine(HO _).mono ?_;rintro e w1 ⟨os,oe,oc,oh,ol,ot,of,hq,rfl,ak⟩;have fP:=ak.mX w);refine bodyPost_ret (v:=aU os oe oc oh ol ot of) (by simp[results,Tryz.results90,go_sem,fP]) rfl ⟨os,oe,oc,oh,ol,ot,of,hq,rfl,?_⟩;exact Gr.g
