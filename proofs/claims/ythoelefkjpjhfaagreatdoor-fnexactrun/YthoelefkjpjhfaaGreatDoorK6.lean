import Derived.Test.YthoelefkjpjhfaaGreatDoorK4
set_option linter.all false
set_option maxRecDepth 1000000
set_option maxHeartbeats 40000000
open Option renaming none → E
open Bool renaming false → U, true → I
open Go.Proofs.YthoelefkjpjhfaaGreatDoor renaming vI → J, vU → Y
open Go.Value renaming int → Z, bool → X, tuple → V
open Go.Ending renaming returned → O
open Go.Proofs.Tryz
namespace Go.Proofs.YthoelefkjpjhfaaGreatDoor
open Go.RowKit
variable{w:World}
def aK3{P:Prop}(h:P:=by
 refine bodyPost_ret (v:=aU os oe oc oh ol ot 0) (by simp[results,Tryz.results173,go_sem,gG]) rfl ⟨os,oe,oc,oh,ol,ot,hq,rfl,?_⟩;exact Gr.g):P:=h
attribute [local go_sem] aA dB
def Xu(p mn mx md:Int)(k:Nat)(sx ex cx xh xl sy ey cy yh yl:Int)(tx ty:Bool)(m:Int)(hm:max cx cy=m)(h3:m<3)(Q:Int->Int->Int->Int->Int->Bool->Prop)(HO:Hid (∀w,CT 82 #[dN p mn mx md k,aU sx ex cx xh xl tx 0,aU sy ey cy yh yl ty 0] w λe w'=>∃os oe oc oh ol ot,Q os oe oc oh ol ot/\e=O (aU os oe oc oh ol ot 0)/\Gr w w'))(w:World):
  CT 173 #[dN p mn mx md k,.func (.func 82) #[] #[],aU sx ex cx xh xl tx 0,aU sy ey cy yh yl ty 0] w λe w'=>∃os oe oc oh ol ot,Q os oe oc oh ol ot/\e=O (aU os oe oc oh ol ot 0)/\Gr w w':=by
 go_enter func173,ntmps173;go_wp2_with (go_at_call 82;refine(HO _).mono ?_;rintro e w1 ⟨os,oe,oc,oh,ol,ot,hq,rfl,ak⟩;have gG:=ak.nY w);exact aK3
def JO(p mn mx md:Int)(k:Nat)(sx ex cx xh xl sy ey cy yh yl:Int)(tx ty:Bool)(m:Int)(hm:max cx cy=m)(h3:m<3)(Q:Int->Int->Int->Int->Int->Bool->Prop)(HO:Hid (∀w,CT 84 #[dN p mn mx md k,aU sx ex cx xh xl tx 0,aU sy ey cy yh yl ty 0] w λe w'=>∃os oe oc oh ol ot,Q os oe oc oh ol ot/\e=O (aU os oe oc oh ol ot 0)/\Gr w w'))(w:World):
  CT 173 #[dN p mn mx md k,.func (.func 84) #[] #[],aU sx ex cx xh xl tx 0,aU sy ey cy yh yl ty 0] w λe w'=>∃os oe oc oh ol ot,Q os oe oc oh ol ot/\e=O (aU os oe oc oh ol ot 0)/\Gr w w':=by
 go_enter func173,ntmps173;go_wp2_with (go_at_call 84;refine(HO _).mono ?_;rintro e w1 ⟨os,oe,oc,oh,ol,ot,hq,rfl,ak⟩;have gG:=ak.nY w);exact aK3
def wL(p mn mx md f:Int)(k own:Nat)(a b sx ex cx xh xl sy ey cy yh yl:Int)(tx ty:Bool)(HF:Hid (∀w',Gr w w'->rV f md w' p mn mx k I))
  (HA:pJ p mn mx a sx ex cx xh xl tx 0) (HB:pJ p mn mx b sy ey cy yh yl ty 0) (Q:Int->Int->Int->Int->Int->Bool->Int->Prop) (HC:Hid (∀w,CT 173 #[dN p mn mx md k,.func (.func own) #[] #[],aU sx ex cx xh xl tx 0,aU sy ey cy yh yl ty 0] w λe w'=>∃os oe oc oh ol ot of,Q os oe oc oh ol ot of/\e=O (aU os oe oc oh ol ot of)/\Gr w w'))
  (R:Int->Int->Prop) (HP:Hid (∀os oe oc oh ol ot of w,Q os oe oc oh ol ot of->CT 172 #[dN p mn mx md k,aU os oe oc oh ol ot of] w (vS R w))):
  CT 81 #[J f,J md,.func (.func own) #[] #[],Y a,Y b] w (vS R w):=by
 go_enter func81,ntmps81;go_wp2_with (go_at_call 170;refine ku (HF _ Gr.g) λw1 ak=>?_;have wC:=ak.bG w;have iR:=au wC.1);go_region_held3 (λw'=>rC w' w1.heap.size 0 1 2 3 4 (J p) (J mn) (J mx) (J md) (.func (.func k) #[] #[]))(exact o8)(first|(go_at_call 174;first|(with_reducible refine ku (HA.out _) λw2 aB=>?_;have:=aB.bG w)|(with_reducible refine ku (HB.out _) λw2 aB=>?_;have:=aB.bG w))|(go_at_call 173;refine(HC _).mono ?_;rintro e w3 ⟨os,oe,oc,oh,ol,ot,of,hq,rfl,aK⟩;have:=aK.bG w)|(go_at_call 172;refine(HP _ _ _ _ _ _ _ _ hq).mono ?_;rintro e w4 ⟨z,fl,hr,rfl,aV⟩;have PE:=aV.bG w))
 all_goals go_wp2
 all_goals
  refine bodyPost_ret (v:=aP z fl) (by simp[results,Tryz.results81,go_sem,PE]) rfl ⟨z,fl,hr,rfl,?_⟩;exact Gr.g
def aAQ{P:Prop}(h:P:=by
 refine bodyPost_ret (v:=aP z fl) (by simp[results,Tryz.results92,go_sem,jT]) rfl ⟨z,fl,hq,rfl,?_⟩;exact Gr.g):P:=h
def aK5{P:Prop}(h:P:=by
 go_enter func92,ntmps92;go_wp2_with (first|(go_at_call 170;refine ku (HS _ Gr.g) λw1 ak=>?_;have wC:=ak.bG w;have iR:=au wC.1)|(go_at_call 186;refine ku (HK _) λw2 aB=>?_;have CZ:=aB.bG w;have:=aB.oL w1;have lu:=au CZ.1)|(go_at_call 171;refine ku (HN _) λw4 aV=>?_;have jT:=aV.bG w))
 exact bW (by simp[results,Tryz.results92,go_sem,jT])):P:=h
def Xh(p mn mx md nan f aj aF a:Int)(kv:Value)(kB:Bool)(HS:Hid (∀w',Gr w w'->QR 170 #[J f,J aj] w' (V #[.agg #[J p,J mn,J mx,J md,Value.nilFunc],X U])))(HK:KR 186 #[J aF] (V #[kv,X kB]))(HN:F8 p mn mx nan 1):
  Jh f aj aF a w nan 1:=by
 exact aK5
def aG4(p mn mx md nan f aj aF a:Int)(k:Nat)(HS:Hid (∀w',Gr w w'->yw f aj w' p mn mx md k I))(HK:KR 186 #[J aF] (V #[Value.nilIface,X U]))(HN:F8 p mn mx nan 1):
  Jh f aj aF a w nan 1:=by
 exact aK5
def aDG(p mn mx md nan f aj aF a s m:Int)(k:Nat)(HS:Hid (∀w',Gr w w'->yw f aj w' p mn mx md k I))(HK:KR 186 #[J aF] (V #[.iface 261 (.agg #[Z .i32 (-2147483648),Z .i32 2147483647]),X I]))(HW:KR 353 #[.agg #[Z .i32 (-2147483648),Z .i32 2147483647],Y a] (V #[J s,Y m,X U]))(HN:F8 p mn mx nan 1):
  Jh f aj aF a w nan 1:=by
 go_enter func92,ntmps92;go_wp2_with (first|(go_at_call 170;refine ku (HS _ Gr.g) λw1 ak=>?_;have wC:=ak.bG w;have iR:=au wC.1)|(go_at_call 186;refine ku (HK _) λw2 aB=>?_;have CZ:=aB.bG w;have:=aB.oL w1;have lu:=au CZ.1)|(go_at_call 353;refine ku (HW _) λw3 aK=>?_;have:=aK.bG w;have:=aK.oL w1)|(go_at_call 171;refine ku (HN _) λw4 aV=>?_;have jT:=aV.bG w))
 exact bW (by simp[results,Tryz.results92,go_sem,jT])
def aG3(p mn mx md f aj aF a s m:Int)(k:Nat)(HS:Hid (∀w',Gr w w'->yw f aj w' p mn mx md k I))(HK:KR 186 #[J aF] (V #[.iface 261 (.agg #[Z .i32 (-2147483648),Z .i32 2147483647]),X I]))(HW:KR 353 #[.agg #[Z .i32 (-2147483648),Z .i32 2147483647],Y a] (V #[J s,Y m,X I]))(Q:Int->Int->Prop)(HR:Hid (∀w,CT 187 #[dN p mn mx md k,J s,J 0,aN 0 m,X U] w (vS Q w))):
  CT 92 #[J f,J aj,J aF,Y a] w (vS Q w):=by
 go_enter func92,ntmps92;go_wp2_with (first|(go_at_call 170;refine ku (HS _ Gr.g) λw1 ak=>?_;have wC:=ak.bG w;have iR:=au wC.1)|(go_at_call 186;refine ku (HK _) λw2 aB=>?_;have CZ:=aB.bG w;have:=aB.oL w1;have lu:=au CZ.1)|(go_at_call 353;refine ku (HW _) λw3 aK=>?_;have:=aK.bG w;have:=aK.oL w1)|(go_at_call 187;refine(HR _).mono ?_;rintro x w4 ⟨z,fl,hq,rfl,aV⟩;have jT:=aV.bG w))
 exact aAQ
def aDF(p mn mx md nan f aj aF a s m:Int)(k:Nat)(HS:Hid (∀w',Gr w w'->yw f aj w' p mn mx md k I))(HK:KR 186 #[J aF] (V #[.iface 263 (jI (-9223372036854775808) 9223372036854775807),X I]))(HW:KR 356 #[jI (-9223372036854775808) 9223372036854775807,Y a] (V #[J s,Y m,X U]))(HN:F8 p mn mx nan 1):
  Jh f aj aF a w nan 1:=by
 go_enter func92,ntmps92;go_wp2_with (first|(go_at_call 170;refine ku (HS _ Gr.g) λw1 ak=>?_;have wC:=ak.bG w;have iR:=au wC.1)|(go_at_call 186;refine ku (HK _) λw2 aB=>?_;have CZ:=aB.bG w;have:=aB.oL w1;have lu:=au CZ.1)|(go_at_call 356;refine ku (HW _) λw3 aK=>?_;have:=aK.bG w;have:=aK.oL w1)|(go_at_call 171;refine ku (HN _) λw4 aV=>?_;have jT:=aV.bG w))
 exact bW (by simp[results,Tryz.results92,go_sem,jT])
def aG2(p mn mx md f aj aF a s m:Int)(k:Nat)(HS:Hid (∀w',Gr w w'->yw f aj w' p mn mx md k I))(HK:KR 186 #[J aF] (V #[.iface 263 (jI (-9223372036854775808) 9223372036854775807),X I]))(HW:KR 356 #[jI (-9223372036854775808) 9223372036854775807,Y a] (V #[J s,Y m,X I]))(Q:Int->Int->Prop)(HR:Hid (∀w,CT 187 #[dN p mn mx md k,J s,J 0,aN 0 m,X U] w (vS Q w))):
  CT 92 #[J f,J aj,J aF,Y a] w (vS Q w):=by
 go_enter func92,ntmps92;go_wp2_with (first|(go_at_call 170;refine ku (HS _ Gr.g) λw1 ak=>?_;have wC:=ak.bG w;have iR:=au wC.1)|(go_at_call 186;refine ku (HK _) λw2 aB=>?_;have CZ:=aB.bG w;have:=aB.oL w1;have lu:=au CZ.1)|(go_at_call 356;refine ku (HW _) λw3 aK=>?_;have:=aK.bG w;have:=aK.oL w1)|(go_at_call 187;refine(HR _).mono ?_;rintro x w4 ⟨z,fl,hq,rfl,aV⟩;have jT:=aV.bG w))
 exact aAQ
def aDE(p mn mx md nan f aj aF a s m:Int)(k:Nat)(HS:Hid (∀w',Gr w w'->yw f aj w' p mn mx md k I))(HK:KR 186 #[J aF] (V #[.iface 265 (.agg #[Z .u32 0,Z .u32 4294967295]),X I]))(HW:KR 358 #[.agg #[Z .u32 0,Z .u32 4294967295],Y a] (V #[J s,Y m,X U]))(HN:F8 p mn mx nan 1):
  Jh f aj aF a w nan 1:=by
 go_enter func92,ntmps92;go_wp2_with (first|(go_at_call 170;refine ku (HS _ Gr.g) λw1 ak=>?_;have wC:=ak.bG w;have iR:=au wC.1)|(go_at_call 186;refine ku (HK _) λw2 aB=>?_;have CZ:=aB.bG w;have:=aB.oL w1;have lu:=au CZ.1)|(go_at_call 358;refine ku (HW _) λw3 aK=>?_;have:=aK.bG w;have:=aK.oL w1)|(go_at_call 171;refine ku (HN _) λw4 aV=>?_;have jT:=aV.bG w))
 exact bW (by simp[results,Tryz.results92,go_sem,jT])
def aG1(p mn mx md f aj aF a s m:Int)(k:Nat)(HS:Hid (∀w',Gr w w'->yw f aj w' p mn mx md k I))(HK:KR 186 #[J aF] (V #[.iface 265 (.agg #[Z .u32 0,Z .u32 4294967295]),X I]))(HW:KR 358 #[.agg #[Z .u32 0,Z .u32 4294967295],Y a] (V #[J s,Y m,X I]))(Q:Int->Int->Prop)(HR:Hid (∀w,CT 187 #[dN p mn mx md k,J s,J 0,aN 0 m,X U] w (vS Q w))):
  CT 92 #[J f,J aj,J aF,Y a] w (vS Q w):=by
 go_enter func92,ntmps92;go_wp2_with (first|(go_at_call 170;refine ku (HS _ Gr.g) λw1 ak=>?_;have wC:=ak.bG w;have iR:=au wC.1)|(go_at_call 186;refine ku (HK _) λw2 aB=>?_;have CZ:=aB.bG w;have:=aB.oL w1;have lu:=au CZ.1)|(go_at_call 358;refine ku (HW _) λw3 aK=>?_;have:=aK.bG w;have:=aK.oL w1)|(go_at_call 187;refine(HR _).mono ?_;rintro x w4 ⟨z,fl,hq,rfl,aV⟩;have jT:=aV.bG w))
 exact aAQ
def aDD(p mn mx md nan f aj aF a s m:Int)(k:Nat)(HS:Hid (∀w',Gr w w'->yw f aj w' p mn mx md k I))(HK:KR 186 #[J aF] (V #[.iface 267 (aN 0 18446744073709551615),X I]))(HW:KR 360 #[aN 0 18446744073709551615,Y a] (V #[J s,Y m,X U]))(HN:F8 p mn mx nan 1):
  Jh f aj aF a w nan 1:=by
 go_enter func92,ntmps92;go_wp2_with (first|(go_at_call 170;refine ku (HS _ Gr.g) λw1 ak=>?_;have wC:=ak.bG w;have iR:=au wC.1)|(go_at_call 186;refine ku (HK _) λw2 aB=>?_;have CZ:=aB.bG w;have:=aB.oL w1;have lu:=au CZ.1)|(go_at_call 360;refine ku (HW _) λw3 aK=>?_;have:=aK.bG w;have:=aK.oL w1)|(go_at_call 171;refine ku (HN _) λw4 aV=>?_;have jT:=aV.bG w))
 exact bW (by simp[results,Tryz.results92,go_sem,jT])
def aG0(p mn mx md f aj aF a s m:Int)(k:Nat)(HS:Hid (∀w',Gr w w'->yw f aj w' p mn mx md k I))(HK:KR 186 #[J aF] (V #[.iface 267 (aN 0 18446744073709551615),X I]))(HW:KR 360 #[aN 0 18446744073709551615,Y a] (V #[J s,Y m,X I]))(Q:Int->Int->Prop)(HR:Hid (∀w,CT 187 #[dN p mn mx md k,J s,J 0,aN 0 m,X U] w (vS Q w))):
  CT 92 #[J f,J aj,J aF,Y a] w (vS Q w):=by
 go_enter func92,ntmps92;go_wp2_with (first|(go_at_call 170;refine ku (HS _ Gr.g) λw1 ak=>?_;have wC:=ak.bG w;have iR:=au wC.1)|(go_at_call 186;refine ku (HK _) λw2 aB=>?_;have CZ:=aB.bG w;have:=aB.oL w1;have lu:=au CZ.1)|(go_at_call 360;refine ku (HW _) λw3 aK=>?_;have:=aK.bG w;have:=aK.oL w1)|(go_at_call 187;refine(HR _).mono ?_;rintro x w4 ⟨z,fl,hq,rfl,aV⟩;have jT:=aV.bG w))
 exact aAQ
def aEy{P:Prop}(h:P:=by
 refine bodyPost_ret (v:=aU os oe oc oh ol ot of) (by simp[results,Tryz.results173,go_sem,gG]) rfl ⟨os,oe,oc,oh,ol,ot,of,hq,rfl,?_⟩;exact Gr.g):P:=h
def yt(p mn mx md:Int)(k:Nat)(sx ex cx xh xl sy ey cy yh yl:Int)(tx ty:Bool)(m:Int)(hm:max cx cy=m)(h3:m<3)(Q:Int->Int->Int->Int->Int->Bool->Int->Prop)(HO:Hid (∀w,CT 188 #[dN p mn mx md k,aU sx ex cx xh xl tx 0,aU sy ey cy yh yl ty 0] w λe w'=>∃os oe oc oh ol ot of,Q os oe oc oh ol ot of/\e=O (aU os oe oc oh ol ot of)/\Gr w w'))(w:World):
  CT 173 #[dN p mn mx md k,.func (.func 188) #[] #[],aU sx ex cx xh xl tx 0,aU sy ey cy yh yl ty 0] w λe w'=>∃os oe oc oh ol ot of,Q os oe oc oh ol ot of/\e=O (aU os oe oc oh ol ot of)/\Gr w w':=by
 go_enter func173,ntmps173;go_wp2_with (go_at_call 188;refine(HO _).mono ?_;rintro e w1 ⟨os,oe,oc,oh,ol,ot,of,hq,rfl,ak⟩;have gG:=ak.nY w);exact aEy
def aK4{P:Prop}(h:P:=by
 go_enter func94,ntmps94;go_wp2_with (first|(go_at_call 170;refine ku (HS _ Gr.g) λw1 ak=>?_;have wC:=ak.bG w;have iR:=au wC.1)|(go_at_call 186;refine ku (HK _) λw2 aB=>?_;have CZ:=aB.bG w;have ls0:=aB.oL w1;have lu:=au CZ.1;have hy2:=au ls0.1))
 exact bW (by simp[results,Tryz.results94,go_sem,CZ])):P:=h
def Gt{P:Prop}(h:P:=by
 subst hq;obtain⟨aTn,aTm,aTl,aTk⟩:=aMV;go_enter func94,ntmps94;go_upto_region 6 with(first|(go_at_call 170;refine ku (HS _ Gr.g) λw1 ak=>?_;have wC:=ak.bG w;have iR:=au wC.1)|(go_at_call 186;refine ku (HK _) λw2 aB=>?_;have CZ:=aB.bG w;have ls0:=aB.oL w1;have lu:=au CZ.1;have hy2:=au ls0.1)|(go_at_call 169;refine ku (HF _) λw3 aK=>?_;have nr0:=aK.bG w;have ns0:=aK.oL w1;have Pq:=au nr0.1;have hy3:=au ns0.1)|(go_at_call 174;refine ku (HA _) λw4 aV=>?_;have oM:=aV.bG w;have ps0:=aV.oL w1;have hz4:=au oM.1;have hy4:=au ps0.1))
 obtain⟨w5,Ue⟩:=dK (w4.alloc (.cells #[J sx,J ex,J cx,Y xh,Y xl,X tx,J 0] 187));have bJ:Gr w4 w5:=by rw[<-Ue];exact(Gr.refl _).alloc _ _
 have x0:w5.cell? ⟨w4.heap.size,0,E⟩=some (J sx):=by rw[<-Ue];simp[go_sem]
 have xz0:dB w5 w4.heap.size 0:=by rw[<-Ue];simp[go_sem]
 have x1:w5.cell? ⟨w4.heap.size,1,E⟩=some (J ex):=by rw[<-Ue];simp[go_sem]
 have xz1:dB w5 w4.heap.size 1:=by rw[<-Ue];simp[go_sem]
 have x2:w5.cell? ⟨w4.heap.size,2,E⟩=some (J cx):=by rw[<-Ue];simp[go_sem]
 have xz2:dB w5 w4.heap.size 2:=by rw[<-Ue];simp[go_sem]
 have x3:w5.cell? ⟨w4.heap.size,3,E⟩=some (Y xh):=by rw[<-Ue];simp[go_sem]
 have xz3:dB w5 w4.heap.size 3:=by rw[<-Ue];simp[go_sem]
 have x4:w5.cell? ⟨w4.heap.size,4,E⟩=some (Y xl):=by rw[<-Ue];simp[go_sem]
 have xz4:dB w5 w4.heap.size 4:=by rw[<-Ue];simp[go_sem]
 have x5:w5.cell? ⟨w4.heap.size,5,E⟩=some (X tx):=by rw[<-Ue];simp[go_sem]
 have xz5:dB w5 w4.heap.size 5:=by rw[<-Ue];simp[go_sem]
 have x6:w5.cell? ⟨w4.heap.size,6,E⟩=some (J 0):=by rw[<-Ue];simp[go_sem]
 have xz6:dB w5 w4.heap.size 6:=by rw[<-Ue];simp[go_sem]
 have hz5:w4.heap.size<w5.heap.size:=by rw[<-Ue];simp
 rw[Ue];clear Ue;have:=bJ.bG w;have:=bJ.oL w1;have aPH:Gr w w5:=Gr.g;go_upto_region 7 with(go_at_call 173;refine ku (HC _) λw6 fK=>?_;have:=fK.bG w;have tx0:=fK.Y70 w4;have hz6:=au tx0.1);obtain⟨w7,hw7⟩:=dK (((((((w6.setCell ⟨w4.heap.size,0,E⟩ (J os)).setCell ⟨w4.heap.size,1,E⟩ (J oe)).setCell ⟨w4.heap.size,2,E⟩ (J oc)).setCell ⟨w4.heap.size,3,E⟩ (Y oh)).setCell ⟨w4.heap.size,4,E⟩ (Y ol)).setCell ⟨w4.heap.size,5,E⟩ (X ot)).setCell ⟨w4.heap.size,6,E⟩ (J of));have aSh:Gr w w6:=Gr.g;have fF:w.heap.size<=w4.heap.size:=om;have aPG:Gr w w7:=by
  rw[<-hw7];exact(((((((aSh.setCell (a:=⟨w4.heap.size,0,E⟩) fF _).setCell (a:=⟨w4.heap.size,1,E⟩) fF _).setCell (a:=⟨w4.heap.size,2,E⟩) fF _).setCell (a:=⟨w4.heap.size,3,E⟩) fF _).setCell (a:=⟨w4.heap.size,4,E⟩) fF _).setCell (a:=⟨w4.heap.size,5,E⟩) fF _).setCell (a:=⟨w4.heap.size,6,E⟩) fF _)
 have y0:w7.cell? ⟨w4.heap.size,0,E⟩=some (J os):=by rw[<-hw7];exact kh
 have y1:w7.cell? ⟨w4.heap.size,1,E⟩=some (J oe):=by rw[<-hw7];exact kh
 have y2:w7.cell? ⟨w4.heap.size,2,E⟩=some (J oc):=by rw[<-hw7];exact kh
 have y3:w7.cell? ⟨w4.heap.size,3,E⟩=some (Y oh):=by rw[<-hw7];exact kh
 have y4:w7.cell? ⟨w4.heap.size,4,E⟩=some (Y ol):=by rw[<-hw7];exact kh
 have y5:w7.cell? ⟨w4.heap.size,5,E⟩=some (X ot):=by rw[<-hw7];exact kh
 have y6:w7.cell? ⟨w4.heap.size,6,E⟩=some (J of):=by rw[<-hw7];exact kh
 have yr0:w7.cell? ⟨w.heap.size,0,E⟩=some (Y 0):=by rw[<-hw7];exact kh
 have aTw:dB w7 w.heap.size 0:=by rw[<-hw7];exact kh
 have yr1:w7.cell? ⟨w.heap.size,1,E⟩=some (J 0):=by rw[<-hw7];exact kh
 have aTv:dB w7 w.heap.size 1:=by rw[<-hw7];exact kh
 have hz7:w4.heap.size<w7.heap.size:=au y0;rw[hw7];clear hw7;go_region_held3 (λw'=>X0 w' w4.heap.size 0 1 2 3 4 5 6 (J os) (J oe) (J oc) (Y oh) (Y ol) (X ot) (J of))(exact nX)(first|(go_at_call 189;refine ku (HZ _) λw8 WX=>?_;have:=WX.bG w)|((first|go_at_call 354|go_at_call 357|go_at_call 359|go_at_call 361);refine ku (HT _) λw9 bM=>?_;have iQ:=bM.bG w;have:=bM.e1 w4.heap.size 6 _))
 all_goals go_wp2
 all_goals
  exact bW (by simp[results,Tryz.results94,go_sem,iQ])):P:=h
def aMV:(∀w,Sem.run Tryz.prog (nilAhead 433 261 (.agg #[Z .i32 (-2147483648),Z .i32 2147483647]) "loop.example/s01330/impl.toWord") w=Result.ok (some false) w)/\(∀w,Sem.run Tryz.prog (nilAhead 433 263 (jI (-9223372036854775808) 9223372036854775807) "loop.example/s01330/impl.toWord") w=Result.ok (some false) w)/\(∀w,Sem.run Tryz.prog (nilAhead 433 265 (.agg #[Z .u32 0,Z .u32 4294967295]) "loop.example/s01330/impl.toWord") w=Result.ok (some false) w)/\(∀w,Sem.run Tryz.prog (nilAhead 433 267 (aN 0 18446744073709551615) "loop.example/s01330/impl.toWord") w=Result.ok (some false) w):=⟨λw=>by kernel_rfl,λw=>by kernel_rfl,λw=>by kernel_rfl,λw=>by kernel_rfl⟩
def Vb(s e c mh ml fl:Int)(t:Bool)(h:decide (1<c)=I)(w:World):
  QR 189 #[aU s e c mh ml t fl] w (aN 1 0):=by
 go_enter func189,ntmps189;go_wp2;go_returns;exact⟨rfl,Gr.g⟩
def Va(s e c mh ml fl k rh rl:Int)(t:Bool)(h:decide (1<c)=U)(hk:min e 64=k)(HS:KR 256 #[aN mh ml,J k] (aN rh rl))(w:World):
  QR 189 #[aU s e c mh ml t fl] w (aN rh rl):=by
 go_enter func189,ntmps189;go_wp2_with (go_at_call 256;refine ku (HS _) λw1 ak=>?_;have gG:=ak.Y21 w);exact bW (by simp[results,Tryz.results189,go_sem,gG])
def aER(p mn mx md f aj aF a:Int)(kv:Value)(kB:Bool)(HS:Hid (∀w',Gr w w'->QR 170 #[J f,J aj] w' (V #[.agg #[J p,J mn,J mx,J md,Value.nilFunc],X U])))(HK:KR 186 #[J aF] (V #[kv,X kB])):
  wM f aj aF a w 0 1:=by
 exact aK4
def aMh(p mn mx md f aj aF a:Int)(k:Nat)(HS:Hid (∀w',Gr w w'->yw f aj w' p mn mx md k I))(HK:KR 186 #[J aF] (V #[Value.nilIface,X U])):
  wM f aj aF a w 0 1:=by
 exact aK4
def aMg(p mn mx md f aj aF a:Int)(k:Nat)(kv:Value)(HS:Hid (∀w',Gr w w'->yw f aj w' p mn mx md k I))(HK:KR 186 #[J aF] (V #[kv,X I]))(HF:F9 p mn mx a U):
  wM f aj aF a w 0 1:=by
 go_enter func94,ntmps94;go_wp2_with (first|(go_at_call 170;refine ku (HS _ Gr.g) λw1 ak=>?_;have wC:=ak.bG w;have iR:=au wC.1)|(go_at_call 186;refine ku (HK _) λw2 aB=>?_;have CZ:=aB.bG w;have ls0:=aB.oL w1;have lu:=au CZ.1;have hy2:=au ls0.1)|(go_at_call 169;refine ku (HF _) λw3 aK=>?_;have nr0:=aK.bG w;have ns0:=aK.oL w1;have Pq:=au nr0.1;have hy3:=au ns0.1))
 exact bW (by simp[results,Tryz.results94,go_sem,nr0])
def aOu(p mn mx aj f aF a sx ex cx xh xl os oe oc oh ol of rh rl z:Int)(tx ot q:Bool)(hq:q=U)(k:Nat)(HS:Hid (∀w',Gr w w'->rV f aj w' p mn mx k I))(HK:KR 186 #[J aF] (V #[.iface 261 (.agg #[Z .i32 (-2147483648),Z .i32 2147483647]),X I]))(HF:F9 p mn mx a I)(HA:pJ p mn mx a sx ex cx xh xl tx 0)(HC:XQ p mn mx aj k 188 sx ex cx xh xl tx 0 os oe oc oh ol ot of)(HZ:Jl os oe oc oh ol ot of rh rl)(HT:KR 354 #[.agg #[Z .i32 (-2147483648),Z .i32 2147483647],J os,aN rh rl] (V #[Y z,X q])):
  wM f aj aF a w z 1:=by
 exact Gt
def aOp(p mn mx aj f aF a sx ex cx xh xl os oe oc oh ol of rh rl z:Int)(tx ot q:Bool)(hq:q=I)(k:Nat)(HS:Hid (∀w',Gr w w'->rV f aj w' p mn mx k I))(HK:KR 186 #[J aF] (V #[.iface 261 (.agg #[Z .i32 (-2147483648),Z .i32 2147483647]),X I]))(HF:F9 p mn mx a I)(HA:pJ p mn mx a sx ex cx xh xl tx 0)(HC:XQ p mn mx aj k 188 sx ex cx xh xl tx 0 os oe oc oh ol ot of)(HZ:Jl os oe oc oh ol ot of rh rl)(HT:KR 354 #[.agg #[Z .i32 (-2147483648),Z .i32 2147483647],J os,aN rh rl] (V #[Y z,X q])):
  wM f aj aF a w z of:=by
 exact Gt
def aOt(p mn mx aj f aF a sx ex cx xh xl os oe oc oh ol of rh rl z:Int)(tx ot q:Bool)(hq:q=U)(k:Nat)(HS:Hid (∀w',Gr w w'->rV f aj w' p mn mx k I))(HK:KR 186 #[J aF] (V #[.iface 263 (jI (-9223372036854775808) 9223372036854775807),X I]))(HF:F9 p mn mx a I)(HA:pJ p mn mx a sx ex cx xh xl tx 0)(HC:XQ p mn mx aj k 188 sx ex cx xh xl tx 0 os oe oc oh ol ot of)(HZ:Jl os oe oc oh ol ot of rh rl)(HT:KR 357 #[jI (-9223372036854775808) 9223372036854775807,J os,aN rh rl] (V #[Y z,X q])):
  wM f aj aF a w z 1:=by
 exact Gt
def aOo(p mn mx aj f aF a sx ex cx xh xl os oe oc oh ol of rh rl z:Int)(tx ot q:Bool)(hq:q=I)(k:Nat)(HS:Hid (∀w',Gr w w'->rV f aj w' p mn mx k I))(HK:KR 186 #[J aF] (V #[.iface 263 (jI (-9223372036854775808) 9223372036854775807),X I]))(HF:F9 p mn mx a I)(HA:pJ p mn mx a sx ex cx xh xl tx 0)(HC:XQ p mn mx aj k 188 sx ex cx xh xl tx 0 os oe oc oh ol ot of)(HZ:Jl os oe oc oh ol ot of rh rl)(HT:KR 357 #[jI (-9223372036854775808) 9223372036854775807,J os,aN rh rl] (V #[Y z,X q])):
  wM f aj aF a w z of:=by
 exact Gt
def aOs(p mn mx aj f aF a sx ex cx xh xl os oe oc oh ol of rh rl z:Int)(tx ot q:Bool)(hq:q=U)(k:Nat)(HS:Hid (∀w',Gr w w'->rV f aj w' p mn mx k I))(HK:KR 186 #[J aF] (V #[.iface 265 (.agg #[Z .u32 0,Z .u32 4294967295]),X I]))(HF:F9 p mn mx a I)(HA:pJ p mn mx a sx ex cx xh xl tx 0)(HC:XQ p mn mx aj k 188 sx ex cx xh xl tx 0 os oe oc oh ol ot of)(HZ:Jl os oe oc oh ol ot of rh rl)(HT:KR 359 #[.agg #[Z .u32 0,Z .u32 4294967295],J os,aN rh rl] (V #[Y z,X q])):
  wM f aj aF a w z 1:=by
 exact Gt
def aOn(p mn mx aj f aF a sx ex cx xh xl os oe oc oh ol of rh rl z:Int)(tx ot q:Bool)(hq:q=I)(k:Nat)(HS:Hid (∀w',Gr w w'->rV f aj w' p mn mx k I))(HK:KR 186 #[J aF] (V #[.iface 265 (.agg #[Z .u32 0,Z .u32 4294967295]),X I]))(HF:F9 p mn mx a I)(HA:pJ p mn mx a sx ex cx xh xl tx 0)(HC:XQ p mn mx aj k 188 sx ex cx xh xl tx 0 os oe oc oh ol ot of)(HZ:Jl os oe oc oh ol ot of rh rl)(HT:KR 359 #[.agg #[Z .u32 0,Z .u32 4294967295],J os,aN rh rl] (V #[Y z,X q])):
  wM f aj aF a w z of:=by
 exact Gt
def aOr(p mn mx aj f aF a sx ex cx xh xl os oe oc oh ol of rh rl z:Int)(tx ot q:Bool)(hq:q=U)(k:Nat)(HS:Hid (∀w',Gr w w'->rV f aj w' p mn mx k I))(HK:KR 186 #[J aF] (V #[.iface 267 (aN 0 18446744073709551615),X I]))(HF:F9 p mn mx a I)(HA:pJ p mn mx a sx ex cx xh xl tx 0)(HC:XQ p mn mx aj k 188 sx ex cx xh xl tx 0 os oe oc oh ol ot of)(HZ:Jl os oe oc oh ol ot of rh rl)(HT:KR 361 #[aN 0 18446744073709551615,J os,aN rh rl] (V #[Y z,X q])):
  wM f aj aF a w z 1:=by
 exact Gt
def aOm(p mn mx aj f aF a sx ex cx xh xl os oe oc oh ol of rh rl z:Int)(tx ot q:Bool)(hq:q=I)(k:Nat)(HS:Hid (∀w',Gr w w'->rV f aj w' p mn mx k I))(HK:KR 186 #[J aF] (V #[.iface 267 (aN 0 18446744073709551615),X I]))(HF:F9 p mn mx a I)(HA:pJ p mn mx a sx ex cx xh xl tx 0)(HC:XQ p mn mx aj k 188 sx ex cx xh xl tx 0 os oe oc oh ol ot of)(HZ:Jl os oe oc oh ol ot of rh rl)(HT:KR 361 #[aN 0 18446744073709551615,J os,aN rh rl] (V #[Y z,X q])):
  wM f aj aF a w z of:=by
 exact Gt
def FX(p mn mx md:Int)(k:Nat)(sx ex cx xh xl sy ey cy yh yl:Int)(tx ty:Bool)(m:Int)(hm:max cx cy=m)(h3:m<3)(Q:Int->Int->Int->Int->Int->Bool->Int->Prop)(HO:Hid (∀w,CT 97 #[dN p mn mx md k,aU sx ex cx xh xl tx 0,aU sy ey cy yh yl ty 0] w λe w'=>∃os oe oc oh ol ot of,Q os oe oc oh ol ot of/\e=O (aU os oe oc oh ol ot of)/\Gr w w'))(w:World):
  CT 173 #[dN p mn mx md k,.func (.func 97) #[] #[],aU sx ex cx xh xl tx 0,aU sy ey cy yh yl ty 0] w λe w'=>∃os oe oc oh ol ot of,Q os oe oc oh ol ot of/\e=O (aU os oe oc oh ol ot of)/\Gr w w':=by
 go_enter func173,ntmps173;go_wp2_with (go_at_call 97;refine(HO _).mono ?_;rintro e w1 ⟨os,oe,oc,oh,ol,ot,of,hq,rfl,ak⟩;have gG:=ak.nY w);exact aEy
def En(p mn mx md:Int)(k:Nat)(sx ex cx xh xl sy ey cy yh yl:Int)(tx ty:Bool)(m:Int)(hm:max cx cy=m)(h3:m<3)(Q:Int->Int->Int->Int->Int->Bool->Int->Prop)(HO:Hid (∀w,CT 98 #[dN p mn mx md k,aU sx ex cx xh xl tx 0,aU sy ey cy yh yl ty 0] w λe w'=>∃os oe oc oh ol ot of,Q os oe oc oh ol ot of/\e=O (aU os oe oc oh ol ot of)/\Gr w w'))(w:World):
  CT 173 #[dN p mn mx md k,.func (.func 98) #[] #[],aU sx ex cx xh xl tx 0,aU sy ey cy yh yl ty 0] w λe w'=>∃os oe oc oh ol ot of,Q os oe oc oh ol ot of/\e=O (aU os oe oc oh ol ot of)/\Gr w w':=by
 go_enter func173,ntmps173;go_wp2_with (go_at_call 98;refine(HO _).mono ?_;rintro e w1 ⟨os,oe,oc,oh,ol,ot,of,hq,rfl,ak⟩;have gG:=ak.nY w);exact aEy
