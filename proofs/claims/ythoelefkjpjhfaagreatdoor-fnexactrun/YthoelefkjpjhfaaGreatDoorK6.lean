import Derived.Test.YthoelefkjpjhfaaGreatDoorK4
set_option linter.all false
set_option maxRecDepth 1000000
set_option maxHeartbeats 40000000
open Option renaming none → E
open Bool renaming false → U, true → I
open Go.Proofs.YthoelefkjpjhfaaGreatDoor renaming vI → J, vU → Y
open Go.Value renaming int → Z, bool → X, tuple → V
open Go.Ending renaming returned → O
open Go.Proofs.Tryz
namespace Go.Proofs.YthoelefkjpjhfaaGreatDoor
open Go.RowKit
variable {w:ak}
def aMz{P:Prop}(h:P:=by
 refine gY (v:=bP os oe oc oh ol ot 0) (by simp[results,results173,go_sem,iy]) rfl ⟨os,oe,oc,oh,ol,ot,hq,rfl,?_⟩;exact Gr.g):P:=h
attribute [local go_sem] aB dL
def Y8(p mn mx md:Int)(k:Nat)(sx ex cx xh xl sy ey cy yh yl:Int)(tx ty:Bool)(m:Int)(hm:max cx cy=m)(h3:m<3)(Q:Int->Int->Int->Int->Int->Bool->Prop)(HO:Hid (∀w,CT 82 #[eu p mn mx md k,bP sx ex cx xh xl tx 0,bP sy ey cy yh yl ty 0] w λe w'=>∃os oe oc oh ol ot,Q os oe oc oh ol ot/\e=O (bP os oe oc oh ol ot 0)/\Gr w w'))(w:ak):
  CT 173 #[eu p mn mx md k,.func (.func 82) #[] #[],bP sx ex cx xh xl tx 0,bP sy ey cy yh yl ty 0] w λe w'=>∃os oe oc oh ol ot,Q os oe oc oh ol ot/\e=O (bP os oe oc oh ol ot 0)/\Gr w w':=by
 go_enter func173,ntmps173;go_wp2_with (go_at_call 82;refine(HO _).mono ?_;rintro e w1 ⟨os,oe,oc,oh,ol,ot,hq,rfl,au⟩;have iy:=au.ql w);exact aMz
def L9(p mn mx md:Int)(k:Nat)(sx ex cx xh xl sy ey cy yh yl:Int)(tx ty:Bool)(m:Int)(hm:max cx cy=m)(h3:m<3)(Q:Int->Int->Int->Int->Int->Bool->Prop)(HO:Hid (∀w,CT 84 #[eu p mn mx md k,bP sx ex cx xh xl tx 0,bP sy ey cy yh yl ty 0] w λe w'=>∃os oe oc oh ol ot,Q os oe oc oh ol ot/\e=O (bP os oe oc oh ol ot 0)/\Gr w w'))(w:ak):
  CT 173 #[eu p mn mx md k,.func (.func 84) #[] #[],bP sx ex cx xh xl tx 0,bP sy ey cy yh yl ty 0] w λe w'=>∃os oe oc oh ol ot,Q os oe oc oh ol ot/\e=O (bP os oe oc oh ol ot 0)/\Gr w w':=by
 go_enter func173,ntmps173;go_wp2_with (go_at_call 84;refine(HO _).mono ?_;rintro e w1 ⟨os,oe,oc,oh,ol,ot,hq,rfl,au⟩;have iy:=au.ql w);exact aMz
def zi(p mn mx md f:Int)(k own:Nat)(a b sx ex cx xh xl sy ey cy yh yl:Int)(tx ty:Bool)(HF:Hid (∀w',Gr w w'->uO f md w' p mn mx k I))
  (HA:rH p mn mx a sx ex cx xh xl tx 0) (HB:rH p mn mx b sy ey cy yh yl ty 0) (Q:Int->Int->Int->Int->Int->Bool->Int->Prop) (HC:Hid (∀w,CT 173 #[eu p mn mx md k,.func (.func own) #[] #[],bP sx ex cx xh xl tx 0,bP sy ey cy yh yl ty 0] w λe w'=>∃os oe oc oh ol ot of,Q os oe oc oh ol ot of/\e=O (bP os oe oc oh ol ot of)/\Gr w w'))
  (R:Int->Int->Prop) (HP:Hid (∀os oe oc oh ol ot of w,Q os oe oc oh ol ot of->CT 172 #[eu p mn mx md k,bP os oe oc oh ol ot of] w (yG R w))):
  CT 81 #[J f,J md,.func (.func own) #[] #[],Y a,Y b] w (yG R w):=by
 go_enter func81,ntmps81;go_wp2_with (go_at_call 170;refine ku (HF _ Gr.g) λw1 au=>?_;have yS:=au.bK w;have jB:=aA yS.1);go_region_held3 (λw'=>uj w' w1.heap.size 0 1 2 3 4 (J p) (J mn) (J mx) (J md) (.func (.func k) #[] #[]))(exact qX)(first|(go_at_call 174;first|(with_reducible refine ku (HA.out _) λw2 aC=>?_;have:=aC.bK w)|(with_reducible refine ku (HB.out _) λw2 aC=>?_;have:=aC.bK w))|(go_at_call 173;refine(HC _).mono ?_;rintro e w3 ⟨os,oe,oc,oh,ol,ot,of,hq,rfl,aO⟩;have:=aO.bK w)|(go_at_call 172;refine(HP _ _ _ _ _ _ _ _ hq).mono ?_;rintro e w4 ⟨z,fl,hr,rfl,bg⟩;have Rx:=bg.bK w))
 all_goals go_wp2
 all_goals
  refine gY (v:=aU z fl) (by simp[results,results81,go_sem,Rx]) rfl ⟨z,fl,hr,rfl,?_⟩;exact Gr.g
def aCd{P:Prop}(h:P:=by
 refine gY (v:=aU z fl) (by simp[results,results92,go_sem,lJ]) rfl ⟨z,fl,hq,rfl,?_⟩;exact Gr.g):P:=h
def aMB{P:Prop}(h:P:=by
 go_enter func92,ntmps92;go_wp2_with (first|(go_at_call 170;refine ku (HS _ Gr.g) λw1 au=>?_;have yS:=au.bK w;have jB:=aA yS.1)|(go_at_call 186;refine ku (HK _) λw2 aC=>?_;have EG:=aC.bK w;have:=aC.qM w1;have mG:=aA EG.1)|(go_at_call 171;refine ku (HN _) λw4 bg=>?_;have lJ:=bg.bK w))
 exact cO (by simp[results,results92,go_sem,lJ])):P:=h
def YR(p mn mx md nan f aj aG a:Int)(kv:Value)(kB:Bool)(HS:Hid (∀w',Gr w w'->QR 170 #[J f,J aj] w' (V #[.agg #[J p,J mn,J mx,J md,Value.nilFunc],X U])))(HK:KR 186 #[J aG] (V #[kv,X kB]))(HN:IL p mn mx nan 1):
  KO f aj aG a w nan 1:=by
 exact aMB
def aIt(p mn mx md nan f aj aG a:Int)(k:Nat)(HS:Hid (∀w',Gr w w'->Ad f aj w' p mn mx md k I))(HK:KR 186 #[J aG] (V #[Value.nilIface,X U]))(HN:IL p mn mx nan 1):
  KO f aj aG a w nan 1:=by
 exact aMB
def aE6(p mn mx md nan f aj aG a s m:Int)(k:Nat)(HS:Hid (∀w',Gr w w'->Ad f aj w' p mn mx md k I))(HK:KR 186 #[J aG] (V #[.iface 261 (.agg #[Z .i32 (-2147483648),Z .i32 2147483647]),X I]))(HW:KR 353 #[.agg #[Z .i32 (-2147483648),Z .i32 2147483647],Y a] (V #[J s,Y m,X U]))(HN:IL p mn mx nan 1):
  KO f aj aG a w nan 1:=by
 go_enter func92,ntmps92;go_wp2_with (first|(go_at_call 170;refine ku (HS _ Gr.g) λw1 au=>?_;have yS:=au.bK w;have jB:=aA yS.1)|(go_at_call 186;refine ku (HK _) λw2 aC=>?_;have EG:=aC.bK w;have:=aC.qM w1;have mG:=aA EG.1)|(go_at_call 353;refine ku (HW _) λw3 aO=>?_;have:=aO.bK w;have:=aO.qM w1)|(go_at_call 171;refine ku (HN _) λw4 bg=>?_;have lJ:=bg.bK w))
 exact cO (by simp[results,results92,go_sem,lJ])
def aIs(p mn mx md f aj aG a s m:Int)(k:Nat)(HS:Hid (∀w',Gr w w'->Ad f aj w' p mn mx md k I))(HK:KR 186 #[J aG] (V #[.iface 261 (.agg #[Z .i32 (-2147483648),Z .i32 2147483647]),X I]))(HW:KR 353 #[.agg #[Z .i32 (-2147483648),Z .i32 2147483647],Y a] (V #[J s,Y m,X I]))(Q:Int->Int->Prop)(HR:Hid (∀w,CT 187 #[eu p mn mx md k,J s,J 0,aS 0 m,X U] w (yG Q w))):
  CT 92 #[J f,J aj,J aG,Y a] w (yG Q w):=by
 go_enter func92,ntmps92;go_wp2_with (first|(go_at_call 170;refine ku (HS _ Gr.g) λw1 au=>?_;have yS:=au.bK w;have jB:=aA yS.1)|(go_at_call 186;refine ku (HK _) λw2 aC=>?_;have EG:=aC.bK w;have:=aC.qM w1;have mG:=aA EG.1)|(go_at_call 353;refine ku (HW _) λw3 aO=>?_;have:=aO.bK w;have:=aO.qM w1)|(go_at_call 187;refine(HR _).mono ?_;rintro x w4 ⟨z,fl,hq,rfl,bg⟩;have lJ:=bg.bK w))
 exact aCd
def aE5(p mn mx md nan f aj aG a s m:Int)(k:Nat)(HS:Hid (∀w',Gr w w'->Ad f aj w' p mn mx md k I))(HK:KR 186 #[J aG] (V #[.iface 263 (kV (-9223372036854775808) 9223372036854775807),X I]))(HW:KR 356 #[kV (-9223372036854775808) 9223372036854775807,Y a] (V #[J s,Y m,X U]))(HN:IL p mn mx nan 1):
  KO f aj aG a w nan 1:=by
 go_enter func92,ntmps92;go_wp2_with (first|(go_at_call 170;refine ku (HS _ Gr.g) λw1 au=>?_;have yS:=au.bK w;have jB:=aA yS.1)|(go_at_call 186;refine ku (HK _) λw2 aC=>?_;have EG:=aC.bK w;have:=aC.qM w1;have mG:=aA EG.1)|(go_at_call 356;refine ku (HW _) λw3 aO=>?_;have:=aO.bK w;have:=aO.qM w1)|(go_at_call 171;refine ku (HN _) λw4 bg=>?_;have lJ:=bg.bK w))
 exact cO (by simp[results,results92,go_sem,lJ])
def aIr(p mn mx md f aj aG a s m:Int)(k:Nat)(HS:Hid (∀w',Gr w w'->Ad f aj w' p mn mx md k I))(HK:KR 186 #[J aG] (V #[.iface 263 (kV (-9223372036854775808) 9223372036854775807),X I]))(HW:KR 356 #[kV (-9223372036854775808) 9223372036854775807,Y a] (V #[J s,Y m,X I]))(Q:Int->Int->Prop)(HR:Hid (∀w,CT 187 #[eu p mn mx md k,J s,J 0,aS 0 m,X U] w (yG Q w))):
  CT 92 #[J f,J aj,J aG,Y a] w (yG Q w):=by
 go_enter func92,ntmps92;go_wp2_with (first|(go_at_call 170;refine ku (HS _ Gr.g) λw1 au=>?_;have yS:=au.bK w;have jB:=aA yS.1)|(go_at_call 186;refine ku (HK _) λw2 aC=>?_;have EG:=aC.bK w;have:=aC.qM w1;have mG:=aA EG.1)|(go_at_call 356;refine ku (HW _) λw3 aO=>?_;have:=aO.bK w;have:=aO.qM w1)|(go_at_call 187;refine(HR _).mono ?_;rintro x w4 ⟨z,fl,hq,rfl,bg⟩;have lJ:=bg.bK w))
 exact aCd
def aE4(p mn mx md nan f aj aG a s m:Int)(k:Nat)(HS:Hid (∀w',Gr w w'->Ad f aj w' p mn mx md k I))(HK:KR 186 #[J aG] (V #[.iface 265 (.agg #[Z .u32 0,Z .u32 4294967295]),X I]))(HW:KR 358 #[.agg #[Z .u32 0,Z .u32 4294967295],Y a] (V #[J s,Y m,X U]))(HN:IL p mn mx nan 1):
  KO f aj aG a w nan 1:=by
 go_enter func92,ntmps92;go_wp2_with (first|(go_at_call 170;refine ku (HS _ Gr.g) λw1 au=>?_;have yS:=au.bK w;have jB:=aA yS.1)|(go_at_call 186;refine ku (HK _) λw2 aC=>?_;have EG:=aC.bK w;have:=aC.qM w1;have mG:=aA EG.1)|(go_at_call 358;refine ku (HW _) λw3 aO=>?_;have:=aO.bK w;have:=aO.qM w1)|(go_at_call 171;refine ku (HN _) λw4 bg=>?_;have lJ:=bg.bK w))
 exact cO (by simp[results,results92,go_sem,lJ])
def aIq(p mn mx md f aj aG a s m:Int)(k:Nat)(HS:Hid (∀w',Gr w w'->Ad f aj w' p mn mx md k I))(HK:KR 186 #[J aG] (V #[.iface 265 (.agg #[Z .u32 0,Z .u32 4294967295]),X I]))(HW:KR 358 #[.agg #[Z .u32 0,Z .u32 4294967295],Y a] (V #[J s,Y m,X I]))(Q:Int->Int->Prop)(HR:Hid (∀w,CT 187 #[eu p mn mx md k,J s,J 0,aS 0 m,X U] w (yG Q w))):
  CT 92 #[J f,J aj,J aG,Y a] w (yG Q w):=by
 go_enter func92,ntmps92;go_wp2_with (first|(go_at_call 170;refine ku (HS _ Gr.g) λw1 au=>?_;have yS:=au.bK w;have jB:=aA yS.1)|(go_at_call 186;refine ku (HK _) λw2 aC=>?_;have EG:=aC.bK w;have:=aC.qM w1;have mG:=aA EG.1)|(go_at_call 358;refine ku (HW _) λw3 aO=>?_;have:=aO.bK w;have:=aO.qM w1)|(go_at_call 187;refine(HR _).mono ?_;rintro x w4 ⟨z,fl,hq,rfl,bg⟩;have lJ:=bg.bK w))
 exact aCd
def aE3(p mn mx md nan f aj aG a s m:Int)(k:Nat)(HS:Hid (∀w',Gr w w'->Ad f aj w' p mn mx md k I))(HK:KR 186 #[J aG] (V #[.iface 267 (aS 0 18446744073709551615),X I]))(HW:KR 360 #[aS 0 18446744073709551615,Y a] (V #[J s,Y m,X U]))(HN:IL p mn mx nan 1):
  KO f aj aG a w nan 1:=by
 go_enter func92,ntmps92;go_wp2_with (first|(go_at_call 170;refine ku (HS _ Gr.g) λw1 au=>?_;have yS:=au.bK w;have jB:=aA yS.1)|(go_at_call 186;refine ku (HK _) λw2 aC=>?_;have EG:=aC.bK w;have:=aC.qM w1;have mG:=aA EG.1)|(go_at_call 360;refine ku (HW _) λw3 aO=>?_;have:=aO.bK w;have:=aO.qM w1)|(go_at_call 171;refine ku (HN _) λw4 bg=>?_;have lJ:=bg.bK w))
 exact cO (by simp[results,results92,go_sem,lJ])
def aIp(p mn mx md f aj aG a s m:Int)(k:Nat)(HS:Hid (∀w',Gr w w'->Ad f aj w' p mn mx md k I))(HK:KR 186 #[J aG] (V #[.iface 267 (aS 0 18446744073709551615),X I]))(HW:KR 360 #[aS 0 18446744073709551615,Y a] (V #[J s,Y m,X I]))(Q:Int->Int->Prop)(HR:Hid (∀w,CT 187 #[eu p mn mx md k,J s,J 0,aS 0 m,X U] w (yG Q w))):
  CT 92 #[J f,J aj,J aG,Y a] w (yG Q w):=by
 go_enter func92,ntmps92;go_wp2_with (first|(go_at_call 170;refine ku (HS _ Gr.g) λw1 au=>?_;have yS:=au.bK w;have jB:=aA yS.1)|(go_at_call 186;refine ku (HK _) λw2 aC=>?_;have EG:=aC.bK w;have:=aC.qM w1;have mG:=aA EG.1)|(go_at_call 360;refine ku (HW _) λw3 aO=>?_;have:=aO.bK w;have:=aO.qM w1)|(go_at_call 187;refine(HR _).mono ?_;rintro x w4 ⟨z,fl,hq,rfl,bg⟩;have lJ:=bg.bK w))
 exact aCd
def aFZ{P:Prop}(h:P:=by
 refine gY (v:=bP os oe oc oh ol ot of) (by simp[results,results173,go_sem,iy]) rfl ⟨os,oe,oc,oh,ol,ot,of,hq,rfl,?_⟩;exact Gr.g):P:=h
def z_(p mn mx md:Int)(k:Nat)(sx ex cx xh xl sy ey cy yh yl:Int)(tx ty:Bool)(m:Int)(hm:max cx cy=m)(h3:m<3)(Q:Int->Int->Int->Int->Int->Bool->Int->Prop)(HO:Hid (∀w,CT 188 #[eu p mn mx md k,bP sx ex cx xh xl tx 0,bP sy ey cy yh yl ty 0] w λe w'=>∃os oe oc oh ol ot of,Q os oe oc oh ol ot of/\e=O (bP os oe oc oh ol ot of)/\Gr w w'))(w:ak):
  CT 173 #[eu p mn mx md k,.func (.func 188) #[] #[],bP sx ex cx xh xl tx 0,bP sy ey cy yh yl ty 0] w λe w'=>∃os oe oc oh ol ot of,Q os oe oc oh ol ot of/\e=O (bP os oe oc oh ol ot of)/\Gr w w':=by
 go_enter func173,ntmps173;go_wp2_with (go_at_call 188;refine(HO _).mono ?_;rintro e w1 ⟨os,oe,oc,oh,ol,ot,of,hq,rfl,au⟩;have iy:=au.ql w);exact aFZ
def aMA{P:Prop}(h:P:=by
 go_enter func94,ntmps94;go_wp2_with (first|(go_at_call 170;refine ku (HS _ Gr.g) λw1 au=>?_;have yS:=au.bK w;have jB:=aA yS.1)|(go_at_call 186;refine ku (HK _) λw2 aC=>?_;have EG:=aC.bK w;have ls0:=aC.qM w1;have mG:=aA EG.1;have hy2:=aA ls0.1))
 exact cO (by simp[results,results94,go_sem,EG])):P:=h
def I8{P:Prop}(h:P:=by
 subst hq;obtain⟨aUX,aUW,aUV,aUU⟩:=aOv;go_enter func94,ntmps94;go_upto_region 6 with(first|(go_at_call 170;refine ku (HS _ Gr.g) λw1 au=>?_;have yS:=au.bK w;have jB:=aA yS.1)|(go_at_call 186;refine ku (HK _) λw2 aC=>?_;have EG:=aC.bK w;have ls0:=aC.qM w1;have mG:=aA EG.1;have hy2:=aA ls0.1)|(go_at_call 169;refine ku (HF _) λw3 aO=>?_;have nr0:=aO.bK w;have ns0:=aO.qM w1;have Rj:=aA nr0.1;have hy3:=aA ns0.1)|(go_at_call 174;refine ku (HA _) λw4 bg=>?_;have qN:=bg.bK w;have ps0:=bg.qM w1;have hz4:=aA qN.1;have hy4:=aA ps0.1))
 obtain⟨w5,V4⟩:=dP (w4.alloc (.cells #[J sx,J ex,J cx,Y xh,Y xl,X tx,J 0] 187));have bT:Gr w4 w5:=by rw[<-V4];exact(Gr.refl _).alloc _ _
 have x0:w5.cell? ⟨w4.heap.size,0,E⟩=some (J sx):=by rw[<-V4];simp[go_sem]
 have xz0:dL w5 w4.heap.size 0:=by rw[<-V4];simp[go_sem]
 have x1:w5.cell? ⟨w4.heap.size,1,E⟩=some (J ex):=by rw[<-V4];simp[go_sem]
 have xz1:dL w5 w4.heap.size 1:=by rw[<-V4];simp[go_sem]
 have x2:w5.cell? ⟨w4.heap.size,2,E⟩=some (J cx):=by rw[<-V4];simp[go_sem]
 have xz2:dL w5 w4.heap.size 2:=by rw[<-V4];simp[go_sem]
 have x3:w5.cell? ⟨w4.heap.size,3,E⟩=some (Y xh):=by rw[<-V4];simp[go_sem]
 have xz3:dL w5 w4.heap.size 3:=by rw[<-V4];simp[go_sem]
 have x4:w5.cell? ⟨w4.heap.size,4,E⟩=some (Y xl):=by rw[<-V4];simp[go_sem]
 have xz4:dL w5 w4.heap.size 4:=by rw[<-V4];simp[go_sem]
 have x5:w5.cell? ⟨w4.heap.size,5,E⟩=some (X tx):=by rw[<-V4];simp[go_sem]
 have xz5:dL w5 w4.heap.size 5:=by rw[<-V4];simp[go_sem]
 have x6:w5.cell? ⟨w4.heap.size,6,E⟩=some (J 0):=by rw[<-V4];simp[go_sem]
 have xz6:dL w5 w4.heap.size 6:=by rw[<-V4];simp[go_sem]
 have hz5:w4.heap.size<w5.heap.size:=by rw[<-V4];simp
 rw[V4];clear V4;have:=bT.bK w;have:=bT.qM w1;have aRr:Gr w w5:=Gr.g;go_upto_region 7 with(go_at_call 173;refine ku (HC _) λw6 gG=>?_;have:=gG.bK w;have tx0:=gG.Y70 w4;have hz6:=aA tx0.1);obtain⟨w7,hw7⟩:=dP (((((((w6.setCell ⟨w4.heap.size,0,E⟩ (J os)).setCell ⟨w4.heap.size,1,E⟩ (J oe)).setCell ⟨w4.heap.size,2,E⟩ (J oc)).setCell ⟨w4.heap.size,3,E⟩ (Y oh)).setCell ⟨w4.heap.size,4,E⟩ (Y ol)).setCell ⟨w4.heap.size,5,E⟩ (X ot)).setCell ⟨w4.heap.size,6,E⟩ (J of));have aTV:Gr w w6:=Gr.g;have fJ:w.heap.size<=w4.heap.size:=om;have aRq:Gr w w7:=by
  rw[<-hw7];exact(((((((aTV.setCell (a:=⟨w4.heap.size,0,E⟩) fJ _).setCell (a:=⟨w4.heap.size,1,E⟩) fJ _).setCell (a:=⟨w4.heap.size,2,E⟩) fJ _).setCell (a:=⟨w4.heap.size,3,E⟩) fJ _).setCell (a:=⟨w4.heap.size,4,E⟩) fJ _).setCell (a:=⟨w4.heap.size,5,E⟩) fJ _).setCell (a:=⟨w4.heap.size,6,E⟩) fJ _)
 have y0:w7.cell? ⟨w4.heap.size,0,E⟩=some (J os):=by rw[<-hw7];exact kh
 have y1:w7.cell? ⟨w4.heap.size,1,E⟩=some (J oe):=by rw[<-hw7];exact kh
 have y2:w7.cell? ⟨w4.heap.size,2,E⟩=some (J oc):=by rw[<-hw7];exact kh
 have y3:w7.cell? ⟨w4.heap.size,3,E⟩=some (Y oh):=by rw[<-hw7];exact kh
 have y4:w7.cell? ⟨w4.heap.size,4,E⟩=some (Y ol):=by rw[<-hw7];exact kh
 have y5:w7.cell? ⟨w4.heap.size,5,E⟩=some (X ot):=by rw[<-hw7];exact kh
 have y6:w7.cell? ⟨w4.heap.size,6,E⟩=some (J of):=by rw[<-hw7];exact kh
 have yr0:w7.cell? ⟨w.heap.size,0,E⟩=some (Y 0):=by rw[<-hw7];exact kh
 have aU5:dL w7 w.heap.size 0:=by rw[<-hw7];exact kh
 have yr1:w7.cell? ⟨w.heap.size,1,E⟩=some (J 0):=by rw[<-hw7];exact kh
 have aU4:dL w7 w.heap.size 1:=by rw[<-hw7];exact kh
 have hz7:w4.heap.size<w7.heap.size:=aA y0;rw[hw7];clear hw7;go_region_held3 (λw'=>ZC w' w4.heap.size 0 1 2 3 4 5 6 (J os) (J oe) (J oc) (Y oh) (Y ol) (X ot) (J of))(exact qj)(first|(go_at_call 189;refine ku (HZ _) λw8 YF=>?_;have:=YF.bK w)|((first|go_at_call 354|go_at_call 357|go_at_call 359|go_at_call 361);refine ku (HT _) λw9 bV=>?_;have jD:=bV.bK w;have:=bV.e1 w4.heap.size 6 _))
 all_goals go_wp2
 all_goals
  exact cO (by simp[results,results94,go_sem,jD])):P:=h
def aOv:(∀w,Sem.run prog (nilAhead 433 261 (.agg #[Z .i32 (-2147483648),Z .i32 2147483647]) "loop.example/s01330/impl.toWord") w=Result.ok (some false) w)/\(∀w,Sem.run prog (nilAhead 433 263 (kV (-9223372036854775808) 9223372036854775807) "loop.example/s01330/impl.toWord") w=Result.ok (some false) w)/\(∀w,Sem.run prog (nilAhead 433 265 (.agg #[Z .u32 0,Z .u32 4294967295]) "loop.example/s01330/impl.toWord") w=Result.ok (some false) w)/\(∀w,Sem.run prog (nilAhead 433 267 (aS 0 18446744073709551615) "loop.example/s01330/impl.toWord") w=Result.ok (some false) w):=⟨λw=>by kernel_rfl,λw=>by kernel_rfl,λw=>by kernel_rfl,λw=>by kernel_rfl⟩
def Xf(s e c mh ml fl:Int)(t:Bool)(h:decide (1<c)=I)(w:ak):
  QR 189 #[bP s e c mh ml t fl] w (aS 1 0):=by
 go_enter func189,ntmps189;go_wp2;go_returns;exact⟨rfl,Gr.g⟩
def Xe(s e c mh ml fl k rh rl:Int)(t:Bool)(h:decide (1<c)=U)(hk:min e 64=k)(HS:KR 256 #[aS mh ml,J k] (aS rh rl))(w:ak):
  QR 189 #[bP s e c mh ml t fl] w (aS rh rl):=by
 go_enter func189,ntmps189;go_wp2_with (go_at_call 256;refine ku (HS _) λw1 au=>?_;have iy:=au.Y21 w);exact cO (by simp[results,results189,go_sem,iy])
def aGi(p mn mx md f aj aG a:Int)(kv:Value)(kB:Bool)(HS:Hid (∀w',Gr w w'->QR 170 #[J f,J aj] w' (V #[.agg #[J p,J mn,J mx,J md,Value.nilFunc],X U])))(HK:KR 186 #[J aG] (V #[kv,X kB])):
  zk f aj aG a w 0 1:=by
 exact aMA
def aNR(p mn mx md f aj aG a:Int)(k:Nat)(HS:Hid (∀w',Gr w w'->Ad f aj w' p mn mx md k I))(HK:KR 186 #[J aG] (V #[Value.nilIface,X U])):
  zk f aj aG a w 0 1:=by
 exact aMA
def aNQ(p mn mx md f aj aG a:Int)(k:Nat)(kv:Value)(HS:Hid (∀w',Gr w w'->Ad f aj w' p mn mx md k I))(HK:KR 186 #[J aG] (V #[kv,X I]))(HF:IQ p mn mx a U):
  zk f aj aG a w 0 1:=by
 go_enter func94,ntmps94;go_wp2_with (first|(go_at_call 170;refine ku (HS _ Gr.g) λw1 au=>?_;have yS:=au.bK w;have jB:=aA yS.1)|(go_at_call 186;refine ku (HK _) λw2 aC=>?_;have EG:=aC.bK w;have ls0:=aC.qM w1;have mG:=aA EG.1;have hy2:=aA ls0.1)|(go_at_call 169;refine ku (HF _) λw3 aO=>?_;have nr0:=aO.bK w;have ns0:=aO.qM w1;have Rj:=aA nr0.1;have hy3:=aA ns0.1))
 exact cO (by simp[results,results94,go_sem,nr0])
def aQf(p mn mx aj f aG a sx ex cx xh xl os oe oc oh ol of rh rl z:Int)(tx ot q:Bool)(hq:q=U)(k:Nat)(HS:Hid (∀w',Gr w w'->uO f aj w' p mn mx k I))(HK:KR 186 #[J aG] (V #[.iface 261 (.agg #[Z .i32 (-2147483648),Z .i32 2147483647]),X I]))(HF:IQ p mn mx a I)(HA:rH p mn mx a sx ex cx xh xl tx 0)(HC:Zt p mn mx aj k 188 sx ex cx xh xl tx 0 os oe oc oh ol ot of)(HZ:KU os oe oc oh ol ot of rh rl)(HT:KR 354 #[.agg #[Z .i32 (-2147483648),Z .i32 2147483647],J os,aS rh rl] (V #[Y z,X q])):
  zk f aj aG a w z 1:=by
 exact I8
def aQa(p mn mx aj f aG a sx ex cx xh xl os oe oc oh ol of rh rl z:Int)(tx ot q:Bool)(hq:q=I)(k:Nat)(HS:Hid (∀w',Gr w w'->uO f aj w' p mn mx k I))(HK:KR 186 #[J aG] (V #[.iface 261 (.agg #[Z .i32 (-2147483648),Z .i32 2147483647]),X I]))(HF:IQ p mn mx a I)(HA:rH p mn mx a sx ex cx xh xl tx 0)(HC:Zt p mn mx aj k 188 sx ex cx xh xl tx 0 os oe oc oh ol ot of)(HZ:KU os oe oc oh ol ot of rh rl)(HT:KR 354 #[.agg #[Z .i32 (-2147483648),Z .i32 2147483647],J os,aS rh rl] (V #[Y z,X q])):
  zk f aj aG a w z of:=by
 exact I8
def aQe(p mn mx aj f aG a sx ex cx xh xl os oe oc oh ol of rh rl z:Int)(tx ot q:Bool)(hq:q=U)(k:Nat)(HS:Hid (∀w',Gr w w'->uO f aj w' p mn mx k I))(HK:KR 186 #[J aG] (V #[.iface 263 (kV (-9223372036854775808) 9223372036854775807),X I]))(HF:IQ p mn mx a I)(HA:rH p mn mx a sx ex cx xh xl tx 0)(HC:Zt p mn mx aj k 188 sx ex cx xh xl tx 0 os oe oc oh ol ot of)(HZ:KU os oe oc oh ol ot of rh rl)(HT:KR 357 #[kV (-9223372036854775808) 9223372036854775807,J os,aS rh rl] (V #[Y z,X q])):
  zk f aj aG a w z 1:=by
 exact I8
def aP9(p mn mx aj f aG a sx ex cx xh xl os oe oc oh ol of rh rl z:Int)(tx ot q:Bool)(hq:q=I)(k:Nat)(HS:Hid (∀w',Gr w w'->uO f aj w' p mn mx k I))(HK:KR 186 #[J aG] (V #[.iface 263 (kV (-9223372036854775808) 9223372036854775807),X I]))(HF:IQ p mn mx a I)(HA:rH p mn mx a sx ex cx xh xl tx 0)(HC:Zt p mn mx aj k 188 sx ex cx xh xl tx 0 os oe oc oh ol ot of)(HZ:KU os oe oc oh ol ot of rh rl)(HT:KR 357 #[kV (-9223372036854775808) 9223372036854775807,J os,aS rh rl] (V #[Y z,X q])):
  zk f aj aG a w z of:=by
 exact I8
def aQd(p mn mx aj f aG a sx ex cx xh xl os oe oc oh ol of rh rl z:Int)(tx ot q:Bool)(hq:q=U)(k:Nat)(HS:Hid (∀w',Gr w w'->uO f aj w' p mn mx k I))(HK:KR 186 #[J aG] (V #[.iface 265 (.agg #[Z .u32 0,Z .u32 4294967295]),X I]))(HF:IQ p mn mx a I)(HA:rH p mn mx a sx ex cx xh xl tx 0)(HC:Zt p mn mx aj k 188 sx ex cx xh xl tx 0 os oe oc oh ol ot of)(HZ:KU os oe oc oh ol ot of rh rl)(HT:KR 359 #[.agg #[Z .u32 0,Z .u32 4294967295],J os,aS rh rl] (V #[Y z,X q])):
  zk f aj aG a w z 1:=by
 exact I8
def aP8(p mn mx aj f aG a sx ex cx xh xl os oe oc oh ol of rh rl z:Int)(tx ot q:Bool)(hq:q=I)(k:Nat)(HS:Hid (∀w',Gr w w'->uO f aj w' p mn mx k I))(HK:KR 186 #[J aG] (V #[.iface 265 (.agg #[Z .u32 0,Z .u32 4294967295]),X I]))(HF:IQ p mn mx a I)(HA:rH p mn mx a sx ex cx xh xl tx 0)(HC:Zt p mn mx aj k 188 sx ex cx xh xl tx 0 os oe oc oh ol ot of)(HZ:KU os oe oc oh ol ot of rh rl)(HT:KR 359 #[.agg #[Z .u32 0,Z .u32 4294967295],J os,aS rh rl] (V #[Y z,X q])):
  zk f aj aG a w z of:=by
 exact I8
def aQc(p mn mx aj f aG a sx ex cx xh xl os oe oc oh ol of rh rl z:Int)(tx ot q:Bool)(hq:q=U)(k:Nat)(HS:Hid (∀w',Gr w w'->uO f aj w' p mn mx k I))(HK:KR 186 #[J aG] (V #[.iface 267 (aS 0 18446744073709551615),X I]))(HF:IQ p mn mx a I)(HA:rH p mn mx a sx ex cx xh xl tx 0)(HC:Zt p mn mx aj k 188 sx ex cx xh xl tx 0 os oe oc oh ol ot of)(HZ:KU os oe oc oh ol ot of rh rl)(HT:KR 361 #[aS 0 18446744073709551615,J os,aS rh rl] (V #[Y z,X q])):
  zk f aj aG a w z 1:=by
 exact I8
def aP7(p mn mx aj f aG a sx ex cx xh xl os oe oc oh ol of rh rl z:Int)(tx ot q:Bool)(hq:q=I)(k:Nat)(HS:Hid (∀w',Gr w w'->uO f aj w' p mn mx k I))(HK:KR 186 #[J aG] (V #[.iface 267 (aS 0 18446744073709551615),X I]))(HF:IQ p mn mx a I)(HA:rH p mn mx a sx ex cx xh xl tx 0)(HC:Zt p mn mx aj k 188 sx ex cx xh xl tx 0 os oe oc oh ol ot of)(HZ:KU os oe oc oh ol ot of rh rl)(HT:KR 361 #[aS 0 18446744073709551615,J os,aS rh rl] (V #[Y z,X q])):
  zk f aj aG a w z of:=by
 exact I8
def IE(p mn mx md:Int)(k:Nat)(sx ex cx xh xl sy ey cy yh yl:Int)(tx ty:Bool)(m:Int)(hm:max cx cy=m)(h3:m<3)(Q:Int->Int->Int->Int->Int->Bool->Int->Prop)(HO:Hid (∀w,CT 97 #[eu p mn mx md k,bP sx ex cx xh xl tx 0,bP sy ey cy yh yl ty 0] w λe w'=>∃os oe oc oh ol ot of,Q os oe oc oh ol ot of/\e=O (bP os oe oc oh ol ot of)/\Gr w w'))(w:ak):
  CT 173 #[eu p mn mx md k,.func (.func 97) #[] #[],bP sx ex cx xh xl tx 0,bP sy ey cy yh yl ty 0] w λe w'=>∃os oe oc oh ol ot of,Q os oe oc oh ol ot of/\e=O (bP os oe oc oh ol ot of)/\Gr w w':=by
 go_enter func173,ntmps173;go_wp2_with (go_at_call 97;refine(HO _).mono ?_;rintro e w1 ⟨os,oe,oc,oh,ol,ot,of,hq,rfl,au⟩;have iy:=au.ql w);exact aFZ
def Gf(p mn mx md:Int)(k:Nat)(sx ex cx xh xl sy ey cy yh yl:Int)(tx ty:Bool)(m:Int)(hm:max cx cy=m)(h3:m<3)(Q:Int->Int->Int->Int->Int->Bool->Int->Prop)(HO:Hid (∀w,CT 98 #[eu p mn mx md k,bP sx ex cx xh xl tx 0,bP sy ey cy yh yl ty 0] w λe w'=>∃os oe oc oh ol ot of,Q os oe oc oh ol ot of/\e=O (bP os oe oc oh ol ot of)/\Gr w w'))(w:ak):
  CT 173 #[eu p mn mx md k,.func (.func 98) #[] #[],bP sx ex cx xh xl tx 0,bP sy ey cy yh yl ty 0] w λe w'=>∃os oe oc oh ol ot of,Q os oe oc oh ol ot of/\e=O (bP os oe oc oh ol ot of)/\Gr w w':=by
 go_enter func173,ntmps173;go_wp2_with (go_at_call 98;refine(HO _).mono ?_;rintro e w1 ⟨os,oe,oc,oh,ol,ot,of,hq,rfl,au⟩;have iy:=au.ql w);exact aFZ
