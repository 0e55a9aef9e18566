import Derived.Test.YthoelefkjpjhfaaGreatDoorK5
set_option linter.all false
set_option maxRecDepth 1000000
set_option maxHeartbeats 40000000
open Bool renaming false → J
namespace Go.Proofs.YthoelefkjpjhfaaGreatDoor
open Go.RowKit
def aH6(p mn mx md:Int)(k:Nat)(sx ex mh ml sy ey nh nl ax Ah Al ay Bh Bl:Int)(b:Bool)(gs ga Gh Gl ls la Lh Ll dz Qh Ql os oe oc oh ol:Int)(lK ost:Bool)
  (HLx:Jk sx ex 1 mh ml J 0 ax Ah Al) (HLy:Jk sy ey 1 nh nl J 0 ay Bh Bl) (Ub:KR 243 #[aU sx ax 1 Ah Al J 0,aU sy ay 1 Bh Bl J 0] (.bool b))
  (AO:b=J/\sx=gs/\ax=ga/\Ah=Gh/\Al=Gl/\sy=ls/\ay=la/\Bh=Lh/\Bl=Ll) (D7:IntKind.i64.wrap (ga-la)=dz) (OD:tZ Lh Ll dz Qh Ql lK)
  (WZ:(gs=ls/\Hid (∀w,CT 245 #[aN Gh Gl,aN Qh Ql] w λx w'=>∃b',x=.returned (.tuple #[aN oh ol,.bool b'])/\Gr w w')/\gs=os/\ga=oe/\1=oc/\lK=ost)\/((gs==ls)=J/\lK=true/\(∃Th Tl:Int,Hid (∀w,CT 245 #[aN Qh Ql,aN 0 1] w λx w'=>∃b',x=.returned (.tuple #[aN Th Tl,.bool b'])/\Gr w w')/\Hid (∀w,CT 246 #[aN Gh Gl,aN Th Tl] w λx w'=>∃b',x=.returned (.tuple #[aN oh ol,.bool b'])/\Gr w w'))/\(oh==0&&ol==0)=J/\gs=os/\ga=oe/\1=oc/\true=ost)\/((gs==ls)=J/\lK=J/\Hid (∀w,CT 246 #[aN Gh Gl,aN Qh Ql] w λx w'=>∃b',x=.returned (.tuple #[aN oh ol,.bool b'])/\Gr w w')/\(oh==0&&ol==0)=J/\gs=os/\ga=oe/\1=oc/\J=ost)\/((gs==ls)=J/\lK=J/\Hid (∀w,CT 246 #[aN Gh Gl,aN Qh Ql] w λx w'=>∃b',x=.returned (.tuple #[aN 0 0,.bool b'])/\Gr w w')/\KR 176 #[dN p mn mx md k] (aU os oe oc oh ol ost 0))) (w:World):
  QR 175 #[dN p mn mx md k,aU sx ex 1 mh ml J 0,aU sy ey 1 nh nl J 0] w (aU os oe oc oh ol ost 0):=by
 obtain⟨rfl,rfl,rfl,rfl,rfl,rfl,rfl,rfl,rfl⟩:=AO;go_enter Tryz.func175,Tryz.ntmps175;go_wp2;go_cut [] (λwx=>aL5 p mn mx md k w wx sx ax Ah Al sy ay Bh Bl)
 case first=>
  clear WZ OD D7 Ub;go_region_with (go_at_call 242;first|(with_reducible refine ku (HLx.out _) λw1 ak=>?_;have:=ak.oL w;have:=ak.Jg w;have:=ak.Y72 w;have gG:=ak.nY w;have iR:=au gG.1)|(with_reducible refine ku (HLy.out _) λw1 ak=>?_;have:=ak.oL w;have:=ak.Jg w;have:=ak.Y72 w;have gG:=ak.nY w;have iR:=au gG.1))
  all_goals (go_wp2;go_meet)<;>exact {}
 case rest=>
  clear HLx HLy;obtain⟨qg,qs0,qs1,qs2,qs3,qs4,qx0,aRh,qx1,aRg,qx2,aRf,qx3,aRe,qx4,aRd,qx5,aRc,qx6,aRb,qy0,aRa,qy1,aQ9,qy2,aQ8,qy3,aQ7,qy4,aQ6,qy5,aQ5,qy6,aQ4,VF,aIN,qr1,aIM,qr2,aMF,qr3,aME,qr4,aMD,qr5,aMC,qr6,aMB⟩:=hcut;have Ov:=au VF;rcases WZ with⟨he1,HA,rfl,rfl,rfl,rfl⟩|⟨he1,rfl,⟨Th,Tl,HA,HB⟩,he2,rfl,rfl,rfl,rfl⟩|⟨he1,rfl,HB,he2,rfl,rfl,rfl,rfl⟩|⟨he1,rfl,HB,HN⟩
  .subst he1;go_wp2_with (first|(go_at_call 243;refine ku (Ub _) λw2 aB=>?_;have:=aB.oL w;have:=aB.Jg w;have:=aB.Y72 w;have jT:=aB.nY w;have lu:=au jT.1)|(go_at_call 244;refine ku (OD _) λw3 aK=>?_;have:=aK.oL w;have:=aK.A71 w;have:=aK.A12 w;have wI:=aK.A73 w;have Pq:=au wI.1.1)|(go_at_call 245;refine(HA _).mono ?_;rintro e w4 ⟨b4,rfl,aV⟩;have:=aV.Jg w;have yJ:=aV.nY w))
   exact bW (by simp[results,Tryz.results175,go_sem,yJ])
  .have hq:=r_ oh ol 0 0;simp only[he2]at hq;go_wp2_with (first|(go_at_call 243;refine ku (Ub _) λw2 aB=>?_;have:=aB.oL w;have:=aB.Jg w;have:=aB.Y72 w;have jT:=aB.nY w;have lu:=au jT.1)|(go_at_call 244;refine ku (OD _) λw3 aK=>?_;have:=aK.oL w;have:=aK.A71 w;have:=aK.A12 w;have wI:=aK.A73 w;have Pq:=au wI.1.1)|(go_at_call 245;refine(HA _).mono ?_;rintro e w4 ⟨b4,rfl,aV⟩;have:=aV.oL w;have:=aV.Jg w;have dl0:=aV.bG w3;have yJ:=aV.nY w;have hz4:=au dl0.1)|(go_at_call 246;refine(HB _).mono ?_;rintro e w5 ⟨b5,rfl,bJ⟩;have:=bJ.Jg w;have PE:=bJ.nY w))
   exact bW (by simp[results,Tryz.results175,go_sem,PE])
  .have hq:=r_ oh ol 0 0;simp only[he2]at hq;go_wp2_with (first|(go_at_call 243;refine ku (Ub _) λw2 aB=>?_;have:=aB.oL w;have:=aB.Jg w;have:=aB.Y72 w;have jT:=aB.nY w;have lu:=au jT.1)|(go_at_call 244;refine ku (OD _) λw3 aK=>?_;have:=aK.oL w;have:=aK.A71 w;have:=aK.A12 w;have wI:=aK.A73 w;have Pq:=au wI.1.1)|(go_at_call 246;refine(HB _).mono ?_;rintro e w5 ⟨b5,rfl,bJ⟩;have:=bJ.oL w;have:=bJ.Jg w;have PE:=bJ.nY w;have hz5:=au PE.1))
   exact bW (by simp[results,Tryz.results175,go_sem,PE])
  .have hq:=r_ 0 0 0 0;simp only[BEq.rfl,Bool.and_true,Bool.true_and]at hq;go_wp2_with (first|(go_at_call 243;refine ku (Ub _) λw2 aB=>?_;have:=aB.oL w;have:=aB.Jg w;have:=aB.Y72 w;have jT:=aB.nY w;have lu:=au jT.1)|(go_at_call 244;refine ku (OD _) λw3 aK=>?_;have:=aK.oL w;have:=aK.A71 w;have:=aK.A12 w;have wI:=aK.A73 w;have Pq:=au wI.1.1)|(go_at_call 246;refine(HB _).mono ?_;rintro e w5 ⟨b5,rfl,bJ⟩;have:=bJ.oL w;have:=bJ.Jg w;have PE:=bJ.nY w;have hz5:=au PE.1)|(go_at_call 176;refine ku (HN _) λw6 fK=>?_;have fr0:=fK.nY w))
   exact bW (by simp[results,Tryz.results175,go_sem,fr0])
