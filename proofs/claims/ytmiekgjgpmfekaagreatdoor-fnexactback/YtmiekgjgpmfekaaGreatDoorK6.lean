import Derived.Test.YtmiekgjgpmfekaaGreatDoorK4
set_option linter.all false
set_option maxRecDepth 1000000
set_option maxHeartbeats 40000000
open Option renaming none → V, some → U
open Bool renaming false → E, true → I
open Go.Proofs.YtmiekgjgpmfekaaGreatDoor renaming vI → J, vU → Y
open Go.Value renaming int → Z, bool → O, tuple → X
open Go.Proofs.Tryz
namespace Go.Proofs.YtmiekgjgpmfekaaGreatDoor
open Go.RowKit
variable{w:World}
theorem aD7{P:Prop}(h:P:=by
 refine bodyPost_ret (v:=aV os oe oc oh ol ot 0) (by simp[results,Tryz.results90,go_sem,fP]) rfl ⟨os,oe,oc,oh,ol,ot,hq,rfl,?_⟩;exact Gr.g):P:=h
attribute [local go_sem] aj bG
theorem OI(p mn mx md:Int)(k:Nat)(sx ex cx xh xl sy ey cy yh yl:Int)(tx ty:Bool)(m:Int)(hm:max cx cy=m)(h3:m<3)(Q:Int->Int->Int->Int->Int->Bool->Prop)(HO:Hid (∀w,CT 209 #[dP p mn mx md k,aV sx ex cx xh xl tx 0,aV sy ey cy yh yl ty 0] w fun e w'=>∃os oe oc oh ol ot,Q os oe oc oh ol ot/\e=.returned (aV os oe oc oh ol ot 0)/\Gr w w'))(w:World):
  CT 90 #[dP p mn mx md k,.func (.func 209) #[] #[],aV sx ex cx xh xl tx 0,aV sy ey cy yh yl ty 0] w fun e w'=>∃os oe oc oh ol ot,Q os oe oc oh ol ot/\e=.returned (aV os oe oc oh ol ot 0)/\Gr w w':=by
 go_enter func90,ntmps90;go_wp2_with (go_at_call 209;refine(HO _).mono ?_;rintro e w1 ⟨os,oe,oc,oh,ol,ot,hq,rfl,ak⟩;have fP:=ak.nO w);exact aD7
theorem DC(p mn mx md:Int)(k:Nat)(sx ex cx xh xl sy ey cy yh yl:Int)(tx ty:Bool)(m:Int)(hm:max cx cy=m)(h3:m<3)(Q:Int->Int->Int->Int->Int->Bool->Prop)(HO:Hid (∀w,CT 181 #[dP p mn mx md k,aV sx ex cx xh xl tx 0,aV sy ey cy yh yl ty 0] w fun e w'=>∃os oe oc oh ol ot,Q os oe oc oh ol ot/\e=.returned (aV os oe oc oh ol ot 0)/\Gr w w'))(w:World):
  CT 90 #[dP p mn mx md k,.func (.func 181) #[] #[],aV sx ex cx xh xl tx 0,aV sy ey cy yh yl ty 0] w fun e w'=>∃os oe oc oh ol ot,Q os oe oc oh ol ot/\e=.returned (aV os oe oc oh ol ot 0)/\Gr w w':=by
 go_enter func90,ntmps90;go_wp2_with (go_at_call 181;refine(HO _).mono ?_;rintro e w1 ⟨os,oe,oc,oh,ol,ot,hq,rfl,ak⟩;have fP:=ak.nO w);exact aD7
theorem F6(p mn mx md f:Int)(k own:Nat)(a b sx ex cx xh xl sy ey cy yh yl:Int)(tx ty:Bool)(HF:Hid (∀w',Gr w w'->nP f md w' p mn mx k I))
  (HA:tu p mn mx a sx ex cx xh xl tx 0) (HB:tu p mn mx b sy ey cy yh yl ty 0) (Q:Int->Int->Int->Int->Int->Bool->Int->Prop) (HC:Hid (∀w,CT 90 #[dP p mn mx md k,.func (.func own) #[] #[],aV sx ex cx xh xl tx 0,aV sy ey cy yh yl ty 0] w fun e w'=>∃os oe oc oh ol ot of,Q os oe oc oh ol ot of/\e=.returned (aV os oe oc oh ol ot of)/\Gr w w'))
  (R:Int->Int->Prop) (HP:Hid (∀os oe oc oh ol ot of w,Q os oe oc oh ol ot of->CT 179 #[dP p mn mx md k,aV os oe oc oh ol ot of] w (AP R w))):
  CT 133 #[J f,J md,.func (.func own) #[] #[],Y a,Y b] w (AP R w):=by
 go_enter func133,ntmps133;go_wp2_with (go_at_call 86;refine ku (HF _ Gr.g) fun w1 ak=>?_;have qO:=ak.aW w;have hz1:=au qO.1);go_region_held3 (fun w'=>aj w' w1.heap.size 0 (J p)/\aj w' w1.heap.size 1 (J mn)/\aj w' w1.heap.size 2 (J mx)/\aj w' w1.heap.size 3 (J md)/\aj w' w1.heap.size 4 (.func (.func k) #[] #[]))
  (exact pz)
  (first
   |(go_at_call 89;first|(with_reducible refine ku (HA.out _) fun w2 aA=>?_;have:=aA.aW w)|(with_reducible refine ku (HB.out _) fun w2 aA=>?_;have:=aA.aW w))
   |(go_at_call 90;refine(HC _).mono ?_;rintro e w3 ⟨os,oe,oc,oh,ol,ot,of,hq,rfl,aC⟩;have:=aC.aW w)
   |(go_at_call 179;refine(HP _ _ _ _ _ _ _ _ hq).mono ?_;rintro e w4 ⟨z,fl,hr,rfl,aH⟩;have OA:=aH.aW w))
 all_goals go_wp2
 all_goals
  refine bodyPost_ret (v:=aK z fl) (by simp[results,Tryz.results133,go_sem,OA]) rfl ⟨z,fl,hr,rfl,?_⟩;exact Gr.g
theorem TK{P:Prop}(h:P:=by
 refine bodyPost_ret (v:=aK z fl) (by simp[results,Tryz.results145,go_sem,jy]) rfl ⟨z,fl,hq,rfl,?_⟩;exact Gr.g):P:=h
theorem aD9{P:Prop}(h:P:=by
 go_enter func145,ntmps145;go_wp2_with (first
  |(go_at_call 86;refine ku (HS _ Gr.g) fun w1 ak=>?_;have qO:=ak.aW w;have hz1:=au qO.1)
  |(go_at_call 87;refine ku (HK _) fun w2 aA=>?_;have yu:=aA.aW w;have:=aA.jK w1;have hz2:=au yu.1)
  |(go_at_call 178;refine ku (HN _) fun w4 aH=>?_;have jy:=aH.aW w))
 exact bH (by simp[results,Tryz.results145,go_sem,jy])):P:=h
theorem Ot(p mn mx md nan f mode kind a:Int)(kv:Value)(kB:Bool)(HS:Hid (∀w',Gr w w'->QR 86 #[J f,J mode] w' (X #[.agg #[J p,J mn,J mx,J md,Value.nilFunc],O E])))(HK:KR 87 #[J kind] (X #[kv,O kB]))(HN:Ht p mn mx nan 1):
  Aw f mode kind a w nan 1:=by
 exact aD9
theorem aAC(p mn mx md nan f mode kind a:Int)(k:Nat)(HS:Hid (∀w',Gr w w'->wI f mode w' p mn mx md k I))(HK:KR 87 #[J kind] (X #[Value.nilIface,O E]))(HN:Ht p mn mx nan 1):
  Aw f mode kind a w nan 1:=by
 exact aD9
theorem Xj(p mn mx md nan f mode kind a s m:Int)(k:Nat)(HS:Hid (∀w',Gr w w'->wI f mode w' p mn mx md k I))(HK:KR 87 #[J kind] (X #[.iface 180 (.agg #[Z .i32 (-2147483648),Z .i32 2147483647]),O I]))(HW:KR 260 #[.agg #[Z .i32 (-2147483648),Z .i32 2147483647],Y a] (X #[J s,Y m,O E]))(HN:Ht p mn mx nan 1):
  Aw f mode kind a w nan 1:=by
 go_enter func145,ntmps145;go_wp2_with (first
  |(go_at_call 86;refine ku (HS _ Gr.g) fun w1 ak=>?_;have qO:=ak.aW w;have hz1:=au qO.1)
  |(go_at_call 87;refine ku (HK _) fun w2 aA=>?_;have yu:=aA.aW w;have:=aA.jK w1;have hz2:=au yu.1)
  |(go_at_call 260;refine ku (HW _) fun w3 aC=>?_;have:=aC.aW w;have:=aC.jK w1)
  |(go_at_call 178;refine ku (HN _) fun w4 aH=>?_;have jy:=aH.aW w))
 exact bH (by simp[results,Tryz.results145,go_sem,jy])
theorem aAB(p mn mx md f mode kind a s m:Int)(k:Nat)(HS:Hid (∀w',Gr w w'->wI f mode w' p mn mx md k I))(HK:KR 87 #[J kind] (X #[.iface 180 (.agg #[Z .i32 (-2147483648),Z .i32 2147483647]),O I]))(HW:KR 260 #[.agg #[Z .i32 (-2147483648),Z .i32 2147483647],Y a] (X #[J s,Y m,O I]))(Q:Int->Int->Prop)(HR:Hid (∀w,CT 185 #[dP p mn mx md k,J s,J 0,aG 0 m,O E] w (AP Q w))):
  CT 145 #[J f,J mode,J kind,Y a] w (AP Q w):=by
 go_enter func145,ntmps145;go_wp2_with (first
  |(go_at_call 86;refine ku (HS _ Gr.g) fun w1 ak=>?_;have qO:=ak.aW w;have hz1:=au qO.1)
  |(go_at_call 87;refine ku (HK _) fun w2 aA=>?_;have yu:=aA.aW w;have:=aA.jK w1;have hz2:=au yu.1)
  |(go_at_call 260;refine ku (HW _) fun w3 aC=>?_;have:=aC.aW w;have:=aC.jK w1)
  |(go_at_call 185;refine(HR _).mono ?_;rintro x w4 ⟨z,fl,hq,rfl,aH⟩;have jy:=aH.aW w))
 exact TK
theorem IG(p mn mx md nan f mode kind a s m:Int)(k:Nat)(HS:Hid (∀w',Gr w w'->wI f mode w' p mn mx md k I))(HK:KR 87 #[J kind] (X #[.iface 182 (gW (-9223372036854775808) 9223372036854775807),O I]))(HW:KR 263 #[gW (-9223372036854775808) 9223372036854775807,Y a] (X #[J s,Y m,O E]))(HN:Ht p mn mx nan 1):
  Aw f mode kind a w nan 1:=by
 go_enter func145,ntmps145;go_wp2_with (first
  |(go_at_call 86;refine ku (HS _ Gr.g) fun w1 ak=>?_;have qO:=ak.aW w;have hz1:=au qO.1)
  |(go_at_call 87;refine ku (HK _) fun w2 aA=>?_;have yu:=aA.aW w;have:=aA.jK w1;have hz2:=au yu.1)
  |(go_at_call 263;refine ku (HW _) fun w3 aC=>?_;have:=aC.aW w;have:=aC.jK w1)
  |(go_at_call 178;refine ku (HN _) fun w4 aH=>?_;have jy:=aH.aW w))
 exact bH (by simp[results,Tryz.results145,go_sem,jy])
theorem Oq(p mn mx md f mode kind a s m:Int)(k:Nat)(HS:Hid (∀w',Gr w w'->wI f mode w' p mn mx md k I))(HK:KR 87 #[J kind] (X #[.iface 182 (gW (-9223372036854775808) 9223372036854775807),O I]))(HW:KR 263 #[gW (-9223372036854775808) 9223372036854775807,Y a] (X #[J s,Y m,O I]))(Q:Int->Int->Prop)(HR:Hid (∀w,CT 185 #[dP p mn mx md k,J s,J 0,aG 0 m,O E] w (AP Q w))):
  CT 145 #[J f,J mode,J kind,Y a] w (AP Q w):=by
 go_enter func145,ntmps145;go_wp2_with (first
  |(go_at_call 86;refine ku (HS _ Gr.g) fun w1 ak=>?_;have qO:=ak.aW w;have hz1:=au qO.1)
  |(go_at_call 87;refine ku (HK _) fun w2 aA=>?_;have yu:=aA.aW w;have:=aA.jK w1;have hz2:=au yu.1)
  |(go_at_call 263;refine ku (HW _) fun w3 aC=>?_;have:=aC.aW w;have:=aC.jK w1)
  |(go_at_call 185;refine(HR _).mono ?_;rintro x w4 ⟨z,fl,hq,rfl,aH⟩;have jy:=aH.aW w))
 exact TK
theorem Xi(p mn mx md nan f mode kind a s m:Int)(k:Nat)(HS:Hid (∀w',Gr w w'->wI f mode w' p mn mx md k I))(HK:KR 87 #[J kind] (X #[.iface 185 (.agg #[Z .u32 0,Z .u32 4294967295]),O I]))(HW:KR 265 #[.agg #[Z .u32 0,Z .u32 4294967295],Y a] (X #[J s,Y m,O E]))(HN:Ht p mn mx nan 1):
  Aw f mode kind a w nan 1:=by
 go_enter func145,ntmps145;go_wp2_with (first
  |(go_at_call 86;refine ku (HS _ Gr.g) fun w1 ak=>?_;have qO:=ak.aW w;have hz1:=au qO.1)
  |(go_at_call 87;refine ku (HK _) fun w2 aA=>?_;have yu:=aA.aW w;have:=aA.jK w1;have hz2:=au yu.1)
  |(go_at_call 265;refine ku (HW _) fun w3 aC=>?_;have:=aC.aW w;have:=aC.jK w1)
  |(go_at_call 178;refine ku (HN _) fun w4 aH=>?_;have jy:=aH.aW w))
 exact bH (by simp[results,Tryz.results145,go_sem,jy])
theorem aAA(p mn mx md f mode kind a s m:Int)(k:Nat)(HS:Hid (∀w',Gr w w'->wI f mode w' p mn mx md k I))(HK:KR 87 #[J kind] (X #[.iface 185 (.agg #[Z .u32 0,Z .u32 4294967295]),O I]))(HW:KR 265 #[.agg #[Z .u32 0,Z .u32 4294967295],Y a] (X #[J s,Y m,O I]))(Q:Int->Int->Prop)(HR:Hid (∀w,CT 185 #[dP p mn mx md k,J s,J 0,aG 0 m,O E] w (AP Q w))):
  CT 145 #[J f,J mode,J kind,Y a] w (AP Q w):=by
 go_enter func145,ntmps145;go_wp2_with (first
  |(go_at_call 86;refine ku (HS _ Gr.g) fun w1 ak=>?_;have qO:=ak.aW w;have hz1:=au qO.1)
  |(go_at_call 87;refine ku (HK _) fun w2 aA=>?_;have yu:=aA.aW w;have:=aA.jK w1;have hz2:=au yu.1)
  |(go_at_call 265;refine ku (HW _) fun w3 aC=>?_;have:=aC.aW w;have:=aC.jK w1)
  |(go_at_call 185;refine(HR _).mono ?_;rintro x w4 ⟨z,fl,hq,rfl,aH⟩;have jy:=aH.aW w))
 exact TK
theorem Xh(p mn mx md nan f mode kind a s m:Int)(k:Nat)(HS:Hid (∀w',Gr w w'->wI f mode w' p mn mx md k I))(HK:KR 87 #[J kind] (X #[.iface 187 (aG 0 18446744073709551615),O I]))(HW:KR 267 #[aG 0 18446744073709551615,Y a] (X #[J s,Y m,O E]))(HN:Ht p mn mx nan 1):
  Aw f mode kind a w nan 1:=by
 go_enter func145,ntmps145;go_wp2_with (first
  |(go_at_call 86;refine ku (HS _ Gr.g) fun w1 ak=>?_;have qO:=ak.aW w;have hz1:=au qO.1)
  |(go_at_call 87;refine ku (HK _) fun w2 aA=>?_;have yu:=aA.aW w;have:=aA.jK w1;have hz2:=au yu.1)
  |(go_at_call 267;refine ku (HW _) fun w3 aC=>?_;have:=aC.aW w;have:=aC.jK w1)
  |(go_at_call 178;refine ku (HN _) fun w4 aH=>?_;have jy:=aH.aW w))
 exact bH (by simp[results,Tryz.results145,go_sem,jy])
theorem aAz(p mn mx md f mode kind a s m:Int)(k:Nat)(HS:Hid (∀w',Gr w w'->wI f mode w' p mn mx md k I))(HK:KR 87 #[J kind] (X #[.iface 187 (aG 0 18446744073709551615),O I]))(HW:KR 267 #[aG 0 18446744073709551615,Y a] (X #[J s,Y m,O I]))(Q:Int->Int->Prop)(HR:Hid (∀w,CT 185 #[dP p mn mx md k,J s,J 0,aG 0 m,O E] w (AP Q w))):
  CT 145 #[J f,J mode,J kind,Y a] w (AP Q w):=by
 go_enter func145,ntmps145;go_wp2_with (first
  |(go_at_call 86;refine ku (HS _ Gr.g) fun w1 ak=>?_;have qO:=ak.aW w;have hz1:=au qO.1)
  |(go_at_call 87;refine ku (HK _) fun w2 aA=>?_;have yu:=aA.aW w;have:=aA.jK w1;have hz2:=au yu.1)
  |(go_at_call 267;refine ku (HW _) fun w3 aC=>?_;have:=aC.aW w;have:=aC.jK w1)
  |(go_at_call 185;refine(HR _).mono ?_;rintro x w4 ⟨z,fl,hq,rfl,aH⟩;have jy:=aH.aW w))
 exact TK
theorem nU(p mn mx md:Int)(k:Nat)(sx ex cx xh xl sy ey cy yh yl:Int)(tx ty:Bool)(m:Int)(hm:max cx cy=m)(h3:m<3)(Q:Int->Int->Int->Int->Int->Bool->Int->Prop)(HO:Hid (∀w,CT 91 #[dP p mn mx md k,aV sx ex cx xh xl tx 0,aV sy ey cy yh yl ty 0] w fun e w'=>∃os oe oc oh ol ot of,Q os oe oc oh ol ot of/\e=.returned (aV os oe oc oh ol ot of)/\Gr w w'))(w:World):
  CT 90 #[dP p mn mx md k,.func (.func 91) #[] #[],aV sx ex cx xh xl tx 0,aV sy ey cy yh yl ty 0] w fun e w'=>∃os oe oc oh ol ot of,Q os oe oc oh ol ot of/\e=.returned (aV os oe oc oh ol ot of)/\Gr w w':=by
 go_enter func90,ntmps90;go_wp2_with (go_at_call 91;refine(HO _).mono ?_;rintro e w1 ⟨os,oe,oc,oh,ol,ot,of,hq,rfl,ak⟩;have fP:=ak.nO w);refine bodyPost_ret (v:=aV os oe oc oh ol ot of) (by simp[results,Tryz.results90,go_sem,fP]) rfl ⟨os,oe,oc,oh,ol,ot,of,hq,rfl,?_⟩;exact Gr.g
theorem aD8{P:Prop}(h:P:=by
 go_enter func37,ntmps37;go_wp2_with (first
  |(go_at_call 86;refine ku (HS _ Gr.g) fun w1 ak=>?_;have qO:=ak.aW w;have hz1:=au qO.1)
  |(go_at_call 87;refine ku (HK _) fun w2 aA=>?_;have yu:=aA.aW w;have Wp:=aA.jK w1;have hz2:=au yu.1;have hy2:=au Wp.1))
 exact bH (by simp[results,Tryz.results37,go_sem,yu])):P:=h
theorem TL{P:Prop}(h:P:=by
 rw[<-hw7];exact(((((((Xd.setCell (a:=⟨w4.heap.size,0,V⟩) hlt _).setCell (a:=⟨w4.heap.size,1,V⟩) hlt _).setCell (a:=⟨w4.heap.size,2,V⟩) hlt _).setCell (a:=⟨w4.heap.size,3,V⟩) hlt _).setCell (a:=⟨w4.heap.size,4,V⟩) hlt _).setCell (a:=⟨w4.heap.size,5,V⟩) hlt _).setCell (a:=⟨w4.heap.size,6,V⟩) hlt _)):P:=h
theorem aEa{P:Prop}(h:P:=by
 subst hq;have hnil:∀w,Sem.run Tryz.prog (nilAhead 367 187 (aG 0 18446744073709551615) "loop.example/s01330/impl.toWord") w=Result.ok (some false) w:=fun w=>by kernel_rfl
 go_enter func37,ntmps37;go_upto_region 6 with(first
  |(go_at_call 86;refine ku (HS _ Gr.g) fun w1 ak=>?_;have qO:=ak.aW w;have hz1:=au qO.1)
  |(go_at_call 87;refine ku (HK _) fun w2 aA=>?_;have yu:=aA.aW w;have Wp:=aA.jK w1;have hz2:=au yu.1;have hy2:=au Wp.1)
  |(go_at_call 88;refine ku (HF _) fun w3 aC=>?_;have XE:=aC.aW w;have ns0:=aC.jK w1;have hz3:=au XE.1;have hy3:=au ns0.1)
  |(go_at_call 89;refine ku (HA _) fun w4 aH=>?_;have jY:=aH.aW w;have ps0:=aH.jK w1;have hz4:=au jY.1;have hy4:=au ps0.1))
 obtain⟨w5,hw5⟩:∃w5,w4.alloc (.cells #[J sx,J ex,J cx,Y xh,Y xl,O tx,J 0] 133)=w5:=⟨_,rfl⟩;have aO:Gr w4 w5:=by rw[<-hw5];exact(Gr.refl _).alloc _ _
 have x0:w5.cell? ⟨w4.heap.size,0,V⟩=U (J sx):=by rw[<-hw5];simp[go_sem]
 have xz0:bG w5 w4.heap.size 0:=by rw[<-hw5];simp[go_sem]
 have x1:w5.cell? ⟨w4.heap.size,1,V⟩=U (J ex):=by rw[<-hw5];simp[go_sem]
 have XB:bG w5 w4.heap.size 1:=by rw[<-hw5];simp[go_sem]
 have x2:w5.cell? ⟨w4.heap.size,2,V⟩=U (J cx):=by rw[<-hw5];simp[go_sem]
 have xz2:bG w5 w4.heap.size 2:=by rw[<-hw5];simp[go_sem]
 have x3:w5.cell? ⟨w4.heap.size,3,V⟩=U (Y xh):=by rw[<-hw5];simp[go_sem]
 have xz3:bG w5 w4.heap.size 3:=by rw[<-hw5];simp[go_sem]
 have x4:w5.cell? ⟨w4.heap.size,4,V⟩=U (Y xl):=by rw[<-hw5];simp[go_sem]
 have xz4:bG w5 w4.heap.size 4:=by rw[<-hw5];simp[go_sem]
 have x5:w5.cell? ⟨w4.heap.size,5,V⟩=U (O tx):=by rw[<-hw5];simp[go_sem]
 have xz5:bG w5 w4.heap.size 5:=by rw[<-hw5];simp[go_sem]
 have x6:w5.cell? ⟨w4.heap.size,6,V⟩=U (J 0):=by rw[<-hw5];simp[go_sem]
 have xz6:bG w5 w4.heap.size 6:=by rw[<-hw5];simp[go_sem]
 have Lc:w4.heap.size<w5.heap.size:=by rw[<-hw5];simp
 rw[hw5];clear hw5;have:=aO.aW w;have:=aO.jK w1;have Xe:Gr w w5:=Gr.g;go_upto_region 7 with(go_at_call 90;refine ku (HC _) fun w6 bJ=>?_;have:=bJ.aW w;have tx0:=bJ.Y70 w4;have hz6:=au tx0.1);obtain⟨w7,hw7⟩:∃w7,((((((w6.setCell ⟨w4.heap.size,0,V⟩ (J os)).setCell ⟨w4.heap.size,1,V⟩ (J oe)).setCell ⟨w4.heap.size,2,V⟩ (J oc)).setCell ⟨w4.heap.size,3,V⟩ (Y oh)).setCell ⟨w4.heap.size,4,V⟩ (Y ol)).setCell ⟨w4.heap.size,5,V⟩ (O ot)).setCell ⟨w4.heap.size,6,V⟩ (J of)=w7:=⟨_,rfl⟩;have Xd:Gr w w6:=Gr.g;have hlt:w.heap.size<=w4.heap.size:=om;have Xc:Gr w w7:=by
  exact TL
 have y0:w7.cell? ⟨w4.heap.size,0,V⟩=U (J os):=by rw[<-hw7];exact kh
 have y1:w7.cell? ⟨w4.heap.size,1,V⟩=U (J oe):=by rw[<-hw7];exact kh
 have y2:w7.cell? ⟨w4.heap.size,2,V⟩=U (J oc):=by rw[<-hw7];exact kh
 have y3:w7.cell? ⟨w4.heap.size,3,V⟩=U (Y oh):=by rw[<-hw7];exact kh
 have y4:w7.cell? ⟨w4.heap.size,4,V⟩=U (Y ol):=by rw[<-hw7];exact kh
 have y5:w7.cell? ⟨w4.heap.size,5,V⟩=U (O ot):=by rw[<-hw7];exact kh
 have y6:w7.cell? ⟨w4.heap.size,6,V⟩=U (J of):=by rw[<-hw7];exact kh
 have yr0:w7.cell? ⟨w.heap.size,0,V⟩=U (Y 0):=by rw[<-hw7];exact kh
 have aBp:bG w7 w.heap.size 0:=by rw[<-hw7];exact kh
 have yr1:w7.cell? ⟨w.heap.size,1,V⟩=U (J 0):=by rw[<-hw7];exact kh
 have aBo:bG w7 w.heap.size 1:=by rw[<-hw7];exact kh
 have hz7:w4.heap.size<w7.heap.size:=au y0;rw[hw7];clear hw7;go_region_held3 (fun w'=>aj w' w4.heap.size 0 (J os)/\aj w' w4.heap.size 1 (J oe)/\aj w' w4.heap.size 2 (J oc)/\aj w' w4.heap.size 3 (Y oh)/\aj w' w4.heap.size 4 (Y ol)/\aj w' w4.heap.size 5 (O ot)/\aj w' w4.heap.size 6 (J of))
  (exact kX)
  (first
   |(go_at_call 92;refine ku (HZ _) fun w8 kY=>?_;have:=kY.aW w)
   |(go_at_call 268;refine ku (HT _) fun w9 aU=>?_;have h_:=aU.aW w;have:=aU.e1 w4.heap.size 6 _))
 all_goals go_wp2
 all_goals
  exact bH (by simp[results,Tryz.results37,go_sem,h_])):P:=h
theorem aEb{P:Prop}(h:P:=by
 subst hq;have hnil:∀w,Sem.run Tryz.prog (nilAhead 367 185 (.agg #[Z .u32 0,Z .u32 4294967295]) "loop.example/s01330/impl.toWord") w=Result.ok (some false) w:=fun w=>by kernel_rfl
 go_enter func37,ntmps37;go_upto_region 6 with(first
  |(go_at_call 86;refine ku (HS _ Gr.g) fun w1 ak=>?_;have qO:=ak.aW w;have hz1:=au qO.1)
  |(go_at_call 87;refine ku (HK _) fun w2 aA=>?_;have yu:=aA.aW w;have Wp:=aA.jK w1;have hz2:=au yu.1;have hy2:=au Wp.1)
  |(go_at_call 88;refine ku (HF _) fun w3 aC=>?_;have XE:=aC.aW w;have ns0:=aC.jK w1;have hz3:=au XE.1;have hy3:=au ns0.1)
  |(go_at_call 89;refine ku (HA _) fun w4 aH=>?_;have jY:=aH.aW w;have ps0:=aH.jK w1;have hz4:=au jY.1;have hy4:=au ps0.1))
 obtain⟨w5,hw5⟩:∃w5,w4.alloc (.cells #[J sx,J ex,J cx,Y xh,Y xl,O tx,J 0] 133)=w5:=⟨_,rfl⟩;have aO:Gr w4 w5:=by rw[<-hw5];exact(Gr.refl _).alloc _ _
 have x0:w5.cell? ⟨w4.heap.size,0,V⟩=U (J sx):=by rw[<-hw5];simp[go_sem]
 have xz0:bG w5 w4.heap.size 0:=by rw[<-hw5];simp[go_sem]
 have x1:w5.cell? ⟨w4.heap.size,1,V⟩=U (J ex):=by rw[<-hw5];simp[go_sem]
 have XB:bG w5 w4.heap.size 1:=by rw[<-hw5];simp[go_sem]
 have x2:w5.cell? ⟨w4.heap.size,2,V⟩=U (J cx):=by rw[<-hw5];simp[go_sem]
 have xz2:bG w5 w4.heap.size 2:=by rw[<-hw5];simp[go_sem]
 have x3:w5.cell? ⟨w4.heap.size,3,V⟩=U (Y xh):=by rw[<-hw5];simp[go_sem]
 have xz3:bG w5 w4.heap.size 3:=by rw[<-hw5];simp[go_sem]
 have x4:w5.cell? ⟨w4.heap.size,4,V⟩=U (Y xl):=by rw[<-hw5];simp[go_sem]
 have xz4:bG w5 w4.heap.size 4:=by rw[<-hw5];simp[go_sem]
 have x5:w5.cell? ⟨w4.heap.size,5,V⟩=U (O tx):=by rw[<-hw5];simp[go_sem]
 have xz5:bG w5 w4.heap.size 5:=by rw[<-hw5];simp[go_sem]
 have x6:w5.cell? ⟨w4.heap.size,6,V⟩=U (J 0):=by rw[<-hw5];simp[go_sem]
 have xz6:bG w5 w4.heap.size 6:=by rw[<-hw5];simp[go_sem]
 have Lc:w4.heap.size<w5.heap.size:=by rw[<-hw5];simp
 rw[hw5];clear hw5;have:=aO.aW w;have:=aO.jK w1;have Xe:Gr w w5:=Gr.g;go_upto_region 7 with(go_at_call 90;refine ku (HC _) fun w6 bJ=>?_;have:=bJ.aW w;have tx0:=bJ.Y70 w4;have hz6:=au tx0.1);obtain⟨w7,hw7⟩:∃w7,((((((w6.setCell ⟨w4.heap.size,0,V⟩ (J os)).setCell ⟨w4.heap.size,1,V⟩ (J oe)).setCell ⟨w4.heap.size,2,V⟩ (J oc)).setCell ⟨w4.heap.size,3,V⟩ (Y oh)).setCell ⟨w4.heap.size,4,V⟩ (Y ol)).setCell ⟨w4.heap.size,5,V⟩ (O ot)).setCell ⟨w4.heap.size,6,V⟩ (J of)=w7:=⟨_,rfl⟩;have Xd:Gr w w6:=Gr.g;have hlt:w.heap.size<=w4.heap.size:=om;have Xc:Gr w w7:=by
  exact TL
 have y0:w7.cell? ⟨w4.heap.size,0,V⟩=U (J os):=by rw[<-hw7];exact kh
 have y1:w7.cell? ⟨w4.heap.size,1,V⟩=U (J oe):=by rw[<-hw7];exact kh
 have y2:w7.cell? ⟨w4.heap.size,2,V⟩=U (J oc):=by rw[<-hw7];exact kh
 have y3:w7.cell? ⟨w4.heap.size,3,V⟩=U (Y oh):=by rw[<-hw7];exact kh
 have y4:w7.cell? ⟨w4.heap.size,4,V⟩=U (Y ol):=by rw[<-hw7];exact kh
 have y5:w7.cell? ⟨w4.heap.size,5,V⟩=U (O ot):=by rw[<-hw7];exact kh
 have y6:w7.cell? ⟨w4.heap.size,6,V⟩=U (J of):=by rw[<-hw7];exact kh
 have yr0:w7.cell? ⟨w.heap.size,0,V⟩=U (Y 0):=by rw[<-hw7];exact kh
 have aBp:bG w7 w.heap.size 0:=by rw[<-hw7];exact kh
 have yr1:w7.cell? ⟨w.heap.size,1,V⟩=U (J 0):=by rw[<-hw7];exact kh
 have aBo:bG w7 w.heap.size 1:=by rw[<-hw7];exact kh
 have hz7:w4.heap.size<w7.heap.size:=au y0;rw[hw7];clear hw7;go_region_held3 (fun w'=>aj w' w4.heap.size 0 (J os)/\aj w' w4.heap.size 1 (J oe)/\aj w' w4.heap.size 2 (J oc)/\aj w' w4.heap.size 3 (Y oh)/\aj w' w4.heap.size 4 (Y ol)/\aj w' w4.heap.size 5 (O ot)/\aj w' w4.heap.size 6 (J of))
  (exact kX)
  (first
   |(go_at_call 92;refine ku (HZ _) fun w8 kY=>?_;have:=kY.aW w)
   |(go_at_call 266;refine ku (HT _) fun w9 aU=>?_;have h_:=aU.aW w;have:=aU.e1 w4.heap.size 6 _))
 all_goals go_wp2
 all_goals
  exact bH (by simp[results,Tryz.results37,go_sem,h_])):P:=h
theorem aEc{P:Prop}(h:P:=by
 subst hq;have hnil:∀w,Sem.run Tryz.prog (nilAhead 367 182 (gW (-9223372036854775808) 9223372036854775807) "loop.example/s01330/impl.toWord") w=Result.ok (some false) w:=fun w=>by kernel_rfl
 go_enter func37,ntmps37;go_upto_region 6 with(first
  |(go_at_call 86;refine ku (HS _ Gr.g) fun w1 ak=>?_;have qO:=ak.aW w;have hz1:=au qO.1)
  |(go_at_call 87;refine ku (HK _) fun w2 aA=>?_;have yu:=aA.aW w;have Wp:=aA.jK w1;have hz2:=au yu.1;have hy2:=au Wp.1)
  |(go_at_call 88;refine ku (HF _) fun w3 aC=>?_;have XE:=aC.aW w;have ns0:=aC.jK w1;have hz3:=au XE.1;have hy3:=au ns0.1)
  |(go_at_call 89;refine ku (HA _) fun w4 aH=>?_;have jY:=aH.aW w;have ps0:=aH.jK w1;have hz4:=au jY.1;have hy4:=au ps0.1))
 obtain⟨w5,hw5⟩:∃w5,w4.alloc (.cells #[J sx,J ex,J cx,Y xh,Y xl,O tx,J 0] 133)=w5:=⟨_,rfl⟩;have aO:Gr w4 w5:=by rw[<-hw5];exact(Gr.refl _).alloc _ _
 have x0:w5.cell? ⟨w4.heap.size,0,V⟩=U (J sx):=by rw[<-hw5];simp[go_sem]
 have xz0:bG w5 w4.heap.size 0:=by rw[<-hw5];simp[go_sem]
 have x1:w5.cell? ⟨w4.heap.size,1,V⟩=U (J ex):=by rw[<-hw5];simp[go_sem]
 have XB:bG w5 w4.heap.size 1:=by rw[<-hw5];simp[go_sem]
 have x2:w5.cell? ⟨w4.heap.size,2,V⟩=U (J cx):=by rw[<-hw5];simp[go_sem]
 have xz2:bG w5 w4.heap.size 2:=by rw[<-hw5];simp[go_sem]
 have x3:w5.cell? ⟨w4.heap.size,3,V⟩=U (Y xh):=by rw[<-hw5];simp[go_sem]
 have xz3:bG w5 w4.heap.size 3:=by rw[<-hw5];simp[go_sem]
 have x4:w5.cell? ⟨w4.heap.size,4,V⟩=U (Y xl):=by rw[<-hw5];simp[go_sem]
 have xz4:bG w5 w4.heap.size 4:=by rw[<-hw5];simp[go_sem]
 have x5:w5.cell? ⟨w4.heap.size,5,V⟩=U (O tx):=by rw[<-hw5];simp[go_sem]
 have xz5:bG w5 w4.heap.size 5:=by rw[<-hw5];simp[go_sem]
 have x6:w5.cell? ⟨w4.heap.size,6,V⟩=U (J 0):=by rw[<-hw5];simp[go_sem]
 have xz6:bG w5 w4.heap.size 6:=by rw[<-hw5];simp[go_sem]
 have Lc:w4.heap.size<w5.heap.size:=by rw[<-hw5];simp
 rw[hw5];clear hw5;have:=aO.aW w;have:=aO.jK w1;have Xe:Gr w w5:=Gr.g;go_upto_region 7 with(go_at_call 90;refine ku (HC _) fun w6 bJ=>?_;have:=bJ.aW w;have tx0:=bJ.Y70 w4;have hz6:=au tx0.1);obtain⟨w7,hw7⟩:∃w7,((((((w6.setCell ⟨w4.heap.size,0,V⟩ (J os)).setCell ⟨w4.heap.size,1,V⟩ (J oe)).setCell ⟨w4.heap.size,2,V⟩ (J oc)).setCell ⟨w4.heap.size,3,V⟩ (Y oh)).setCell ⟨w4.heap.size,4,V⟩ (Y ol)).setCell ⟨w4.heap.size,5,V⟩ (O ot)).setCell ⟨w4.heap.size,6,V⟩ (J of)=w7:=⟨_,rfl⟩;have Xd:Gr w w6:=Gr.g;have hlt:w.heap.size<=w4.heap.size:=om;have Xc:Gr w w7:=by
  exact TL
 have y0:w7.cell? ⟨w4.heap.size,0,V⟩=U (J os):=by rw[<-hw7];exact kh
 have y1:w7.cell? ⟨w4.heap.size,1,V⟩=U (J oe):=by rw[<-hw7];exact kh
 have y2:w7.cell? ⟨w4.heap.size,2,V⟩=U (J oc):=by rw[<-hw7];exact kh
 have y3:w7.cell? ⟨w4.heap.size,3,V⟩=U (Y oh):=by rw[<-hw7];exact kh
 have y4:w7.cell? ⟨w4.heap.size,4,V⟩=U (Y ol):=by rw[<-hw7];exact kh
 have y5:w7.cell? ⟨w4.heap.size,5,V⟩=U (O ot):=by rw[<-hw7];exact kh
 have y6:w7.cell? ⟨w4.heap.size,6,V⟩=U (J of):=by rw[<-hw7];exact kh
 have yr0:w7.cell? ⟨w.heap.size,0,V⟩=U (Y 0):=by rw[<-hw7];exact kh
 have aBp:bG w7 w.heap.size 0:=by rw[<-hw7];exact kh
 have yr1:w7.cell? ⟨w.heap.size,1,V⟩=U (J 0):=by rw[<-hw7];exact kh
 have aBo:bG w7 w.heap.size 1:=by rw[<-hw7];exact kh
 have hz7:w4.heap.size<w7.heap.size:=au y0;rw[hw7];clear hw7;go_region_held3 (fun w'=>aj w' w4.heap.size 0 (J os)/\aj w' w4.heap.size 1 (J oe)/\aj w' w4.heap.size 2 (J oc)/\aj w' w4.heap.size 3 (Y oh)/\aj w' w4.heap.size 4 (Y ol)/\aj w' w4.heap.size 5 (O ot)/\aj w' w4.heap.size 6 (J of))
  (exact kX)
  (first
   |(go_at_call 92;refine ku (HZ _) fun w8 kY=>?_;have:=kY.aW w)
   |(go_at_call 264;refine ku (HT _) fun w9 aU=>?_;have h_:=aU.aW w;have:=aU.e1 w4.heap.size 6 _))
 all_goals go_wp2
 all_goals
  exact bH (by simp[results,Tryz.results37,go_sem,h_])):P:=h
theorem aEd{P:Prop}(h:P:=by
 subst hq;have hnil:∀w,Sem.run Tryz.prog (nilAhead 367 180 (.agg #[Z .i32 (-2147483648),Z .i32 2147483647]) "loop.example/s01330/impl.toWord") w=Result.ok (some false) w:=fun w=>by kernel_rfl
 go_enter func37,ntmps37;go_upto_region 6 with(first
  |(go_at_call 86;refine ku (HS _ Gr.g) fun w1 ak=>?_;have qO:=ak.aW w;have hz1:=au qO.1)
  |(go_at_call 87;refine ku (HK _) fun w2 aA=>?_;have yu:=aA.aW w;have Wp:=aA.jK w1;have hz2:=au yu.1;have hy2:=au Wp.1)
  |(go_at_call 88;refine ku (HF _) fun w3 aC=>?_;have XE:=aC.aW w;have ns0:=aC.jK w1;have hz3:=au XE.1;have hy3:=au ns0.1)
  |(go_at_call 89;refine ku (HA _) fun w4 aH=>?_;have jY:=aH.aW w;have ps0:=aH.jK w1;have hz4:=au jY.1;have hy4:=au ps0.1))
 obtain⟨w5,hw5⟩:∃w5,w4.alloc (.cells #[J sx,J ex,J cx,Y xh,Y xl,O tx,J 0] 133)=w5:=⟨_,rfl⟩;have aO:Gr w4 w5:=by rw[<-hw5];exact(Gr.refl _).alloc _ _
 have x0:w5.cell? ⟨w4.heap.size,0,V⟩=U (J sx):=by rw[<-hw5];simp[go_sem]
 have xz0:bG w5 w4.heap.size 0:=by rw[<-hw5];simp[go_sem]
 have x1:w5.cell? ⟨w4.heap.size,1,V⟩=U (J ex):=by rw[<-hw5];simp[go_sem]
 have XB:bG w5 w4.heap.size 1:=by rw[<-hw5];simp[go_sem]
 have x2:w5.cell? ⟨w4.heap.size,2,V⟩=U (J cx):=by rw[<-hw5];simp[go_sem]
 have xz2:bG w5 w4.heap.size 2:=by rw[<-hw5];simp[go_sem]
 have x3:w5.cell? ⟨w4.heap.size,3,V⟩=U (Y xh):=by rw[<-hw5];simp[go_sem]
 have xz3:bG w5 w4.heap.size 3:=by rw[<-hw5];simp[go_sem]
 have x4:w5.cell? ⟨w4.heap.size,4,V⟩=U (Y xl):=by rw[<-hw5];simp[go_sem]
 have xz4:bG w5 w4.heap.size 4:=by rw[<-hw5];simp[go_sem]
 have x5:w5.cell? ⟨w4.heap.size,5,V⟩=U (O tx):=by rw[<-hw5];simp[go_sem]
 have xz5:bG w5 w4.heap.size 5:=by rw[<-hw5];simp[go_sem]
 have x6:w5.cell? ⟨w4.heap.size,6,V⟩=U (J 0):=by rw[<-hw5];simp[go_sem]
 have xz6:bG w5 w4.heap.size 6:=by rw[<-hw5];simp[go_sem]
 have Lc:w4.heap.size<w5.heap.size:=by rw[<-hw5];simp
 rw[hw5];clear hw5;have:=aO.aW w;have:=aO.jK w1;have Xe:Gr w w5:=Gr.g;go_upto_region 7 with(go_at_call 90;refine ku (HC _) fun w6 bJ=>?_;have:=bJ.aW w;have tx0:=bJ.Y70 w4;have hz6:=au tx0.1);obtain⟨w7,hw7⟩:∃w7,((((((w6.setCell ⟨w4.heap.size,0,V⟩ (J os)).setCell ⟨w4.heap.size,1,V⟩ (J oe)).setCell ⟨w4.heap.size,2,V⟩ (J oc)).setCell ⟨w4.heap.size,3,V⟩ (Y oh)).setCell ⟨w4.heap.size,4,V⟩ (Y ol)).setCell ⟨w4.heap.size,5,V⟩ (O ot)).setCell ⟨w4.heap.size,6,V⟩ (J of)=w7:=⟨_,rfl⟩;have Xd:Gr w w6:=Gr.g;have hlt:w.heap.size<=w4.heap.size:=om;have Xc:Gr w w7:=by
  exact TL
 have y0:w7.cell? ⟨w4.heap.size,0,V⟩=U (J os):=by rw[<-hw7];exact kh
 have y1:w7.cell? ⟨w4.heap.size,1,V⟩=U (J oe):=by rw[<-hw7];exact kh
 have y2:w7.cell? ⟨w4.heap.size,2,V⟩=U (J oc):=by rw[<-hw7];exact kh
 have y3:w7.cell? ⟨w4.heap.size,3,V⟩=U (Y oh):=by rw[<-hw7];exact kh
 have y4:w7.cell? ⟨w4.heap.size,4,V⟩=U (Y ol):=by rw[<-hw7];exact kh
 have y5:w7.cell? ⟨w4.heap.size,5,V⟩=U (O ot):=by rw[<-hw7];exact kh
 have y6:w7.cell? ⟨w4.heap.size,6,V⟩=U (J of):=by rw[<-hw7];exact kh
 have yr0:w7.cell? ⟨w.heap.size,0,V⟩=U (Y 0):=by rw[<-hw7];exact kh
 have aBp:bG w7 w.heap.size 0:=by rw[<-hw7];exact kh
 have yr1:w7.cell? ⟨w.heap.size,1,V⟩=U (J 0):=by rw[<-hw7];exact kh
 have aBo:bG w7 w.heap.size 1:=by rw[<-hw7];exact kh
 have hz7:w4.heap.size<w7.heap.size:=au y0;rw[hw7];clear hw7;go_region_held3 (fun w'=>aj w' w4.heap.size 0 (J os)/\aj w' w4.heap.size 1 (J oe)/\aj w' w4.heap.size 2 (J oc)/\aj w' w4.heap.size 3 (Y oh)/\aj w' w4.heap.size 4 (Y ol)/\aj w' w4.heap.size 5 (O ot)/\aj w' w4.heap.size 6 (J of))
  (exact kX)
  (first
   |(go_at_call 92;refine ku (HZ _) fun w8 kY=>?_;have:=kY.aW w)
   |(go_at_call 261;refine ku (HT _) fun w9 aU=>?_;have h_:=aU.aW w;have:=aU.e1 w4.heap.size 6 _))
 all_goals go_wp2
 all_goals
  exact bH (by simp[results,Tryz.results37,go_sem,h_])):P:=h
theorem vG(s e c mh ml fl:Int)(t:Bool)(h:decide (1<c)=I)(w:World):
  IY s e c mh ml t fl w 1 0:=by
 go_enter func92,ntmps92;go_wp2;go_returns;exact⟨rfl,Gr.g⟩
theorem vF(s e c mh ml fl k rh rl:Int)(t:Bool)(h:decide (1<c)=E)(hk:min e 64=k)(HS:KR 158 #[aG mh ml,J k] (aG rh rl))(w:World):
  IY s e c mh ml t fl w rh rl:=by
 go_enter func92,ntmps92;go_wp2_with (go_at_call 158;refine ku (HS _) fun w1 ak=>?_;have fP:=ak.UZ w);exact bH (by simp[results,Tryz.results92,go_sem,fP])
theorem Yz(p mn mx md f mode kind a:Int)(kv:Value)(kB:Bool)(HS:Hid (∀w',Gr w w'->QR 86 #[J f,J mode] w' (X #[.agg #[J p,J mn,J mx,J md,Value.nilFunc],O E])))(HK:KR 87 #[J kind] (X #[kv,O kB])):
  qE f mode kind a w 0 1:=by
 exact aD8
theorem aFr(p mn mx md f mode kind a:Int)(k:Nat)(HS:Hid (∀w',Gr w w'->wI f mode w' p mn mx md k I))(HK:KR 87 #[J kind] (X #[Value.nilIface,O E])):
  qE f mode kind a w 0 1:=by
 exact aD8
theorem aFq(p mn mx md f mode kind a:Int)(k:Nat)(kv:Value)(HS:Hid (∀w',Gr w w'->wI f mode w' p mn mx md k I))(HK:KR 87 #[J kind] (X #[kv,O I]))(HF:qF p mn mx a E):
  qE f mode kind a w 0 1:=by
 go_enter func37,ntmps37;go_wp2_with (first
  |(go_at_call 86;refine ku (HS _ Gr.g) fun w1 ak=>?_;have qO:=ak.aW w;have hz1:=au qO.1)
  |(go_at_call 87;refine ku (HK _) fun w2 aA=>?_;have yu:=aA.aW w;have Wp:=aA.jK w1;have hz2:=au yu.1;have hy2:=au Wp.1)
  |(go_at_call 88;refine ku (HF _) fun w3 aC=>?_;have XE:=aC.aW w;have ns0:=aC.jK w1;have hz3:=au XE.1;have hy3:=au ns0.1))
 exact bH (by simp[results,Tryz.results37,go_sem,XE])
theorem aHd(p mn mx mode f kind a sx ex cx xh xl os oe oc oh ol of rh rl z:Int)(tx ot q:Bool)(hq:q=E)(k:Nat)(HS:Hid (∀w',Gr w w'->nP f mode w' p mn mx k I))(HK:KR 87 #[J kind] (X #[.iface 180 (.agg #[Z .i32 (-2147483648),Z .i32 2147483647]),O I]))(HF:qF p mn mx a I)(HA:tu p mn mx a sx ex cx xh xl tx 0)(HC:AO p mn mx mode k 91 sx ex cx xh xl tx 0 os oe oc oh ol ot of)(HZ:AL os oe oc oh ol ot of rh rl)(HT:KR 261 #[.agg #[Z .i32 (-2147483648),Z .i32 2147483647],J os,aG rh rl] (X #[Y z,O q])):
  qE f mode kind a w z 1:=by
 exact aEd
theorem aG9(p mn mx mode f kind a sx ex cx xh xl os oe oc oh ol of rh rl z:Int)(tx ot q:Bool)(hq:q=I)(k:Nat)(HS:Hid (∀w',Gr w w'->nP f mode w' p mn mx k I))(HK:KR 87 #[J kind] (X #[.iface 180 (.agg #[Z .i32 (-2147483648),Z .i32 2147483647]),O I]))(HF:qF p mn mx a I)(HA:tu p mn mx a sx ex cx xh xl tx 0)(HC:AO p mn mx mode k 91 sx ex cx xh xl tx 0 os oe oc oh ol ot of)(HZ:AL os oe oc oh ol ot of rh rl)(HT:KR 261 #[.agg #[Z .i32 (-2147483648),Z .i32 2147483647],J os,aG rh rl] (X #[Y z,O q])):
  qE f mode kind a w z of:=by
 exact aEd
theorem aHc(p mn mx mode f kind a sx ex cx xh xl os oe oc oh ol of rh rl z:Int)(tx ot q:Bool)(hq:q=E)(k:Nat)(HS:Hid (∀w',Gr w w'->nP f mode w' p mn mx k I))(HK:KR 87 #[J kind] (X #[.iface 182 (gW (-9223372036854775808) 9223372036854775807),O I]))(HF:qF p mn mx a I)(HA:tu p mn mx a sx ex cx xh xl tx 0)(HC:AO p mn mx mode k 91 sx ex cx xh xl tx 0 os oe oc oh ol ot of)(HZ:AL os oe oc oh ol ot of rh rl)(HT:KR 264 #[gW (-9223372036854775808) 9223372036854775807,J os,aG rh rl] (X #[Y z,O q])):
  qE f mode kind a w z 1:=by
 exact aEc
theorem aG8(p mn mx mode f kind a sx ex cx xh xl os oe oc oh ol of rh rl z:Int)(tx ot q:Bool)(hq:q=I)(k:Nat)(HS:Hid (∀w',Gr w w'->nP f mode w' p mn mx k I))(HK:KR 87 #[J kind] (X #[.iface 182 (gW (-9223372036854775808) 9223372036854775807),O I]))(HF:qF p mn mx a I)(HA:tu p mn mx a sx ex cx xh xl tx 0)(HC:AO p mn mx mode k 91 sx ex cx xh xl tx 0 os oe oc oh ol ot of)(HZ:AL os oe oc oh ol ot of rh rl)(HT:KR 264 #[gW (-9223372036854775808) 9223372036854775807,J os,aG rh rl] (X #[Y z,O q])):
  qE f mode kind a w z of:=by
 exact aEc
theorem aHb(p mn mx mode f kind a sx ex cx xh xl os oe oc oh ol of rh rl z:Int)(tx ot q:Bool)(hq:q=E)(k:Nat)(HS:Hid (∀w',Gr w w'->nP f mode w' p mn mx k I))(HK:KR 87 #[J kind] (X #[.iface 185 (.agg #[Z .u32 0,Z .u32 4294967295]),O I]))(HF:qF p mn mx a I)(HA:tu p mn mx a sx ex cx xh xl tx 0)(HC:AO p mn mx mode k 91 sx ex cx xh xl tx 0 os oe oc oh ol ot of)(HZ:AL os oe oc oh ol ot of rh rl)(HT:KR 266 #[.agg #[Z .u32 0,Z .u32 4294967295],J os,aG rh rl] (X #[Y z,O q])):
  qE f mode kind a w z 1:=by
 exact aEb
theorem aG7(p mn mx mode f kind a sx ex cx xh xl os oe oc oh ol of rh rl z:Int)(tx ot q:Bool)(hq:q=I)(k:Nat)(HS:Hid (∀w',Gr w w'->nP f mode w' p mn mx k I))(HK:KR 87 #[J kind] (X #[.iface 185 (.agg #[Z .u32 0,Z .u32 4294967295]),O I]))(HF:qF p mn mx a I)(HA:tu p mn mx a sx ex cx xh xl tx 0)(HC:AO p mn mx mode k 91 sx ex cx xh xl tx 0 os oe oc oh ol ot of)(HZ:AL os oe oc oh ol ot of rh rl)(HT:KR 266 #[.agg #[Z .u32 0,Z .u32 4294967295],J os,aG rh rl] (X #[Y z,O q])):
  qE f mode kind a w z of:=by
 exact aEb
theorem aHa(p mn mx mode f kind a sx ex cx xh xl os oe oc oh ol of rh rl z:Int)(tx ot q:Bool)(hq:q=E)(k:Nat)(HS:Hid (∀w',Gr w w'->nP f mode w' p mn mx k I))(HK:KR 87 #[J kind] (X #[.iface 187 (aG 0 18446744073709551615),O I]))(HF:qF p mn mx a I)(HA:tu p mn mx a sx ex cx xh xl tx 0)(HC:AO p mn mx mode k 91 sx ex cx xh xl tx 0 os oe oc oh ol ot of)(HZ:AL os oe oc oh ol ot of rh rl)(HT:KR 268 #[aG 0 18446744073709551615,J os,aG rh rl] (X #[Y z,O q])):
  qE f mode kind a w z 1:=by
 exact aEa
theorem aG6(p mn mx mode f kind a sx ex cx xh xl os oe oc oh ol of rh rl z:Int)(tx ot q:Bool)(hq:q=I)(k:Nat)(HS:Hid (∀w',Gr w w'->nP f mode w' p mn mx k I))(HK:KR 87 #[J kind] (X #[.iface 187 (aG 0 18446744073709551615),O I]))(HF:qF p mn mx a I)(HA:tu p mn mx a sx ex cx xh xl tx 0)(HC:AO p mn mx mode k 91 sx ex cx xh xl tx 0 os oe oc oh ol ot of)(HZ:AL os oe oc oh ol ot of rh rl)(HT:KR 268 #[aG 0 18446744073709551615,J os,aG rh rl] (X #[Y z,O q])):
  qE f mode kind a w z of:=by
 exact aEa
