import Derived.Test.YthoelefkjpjhfaaGreatDoorK5
set_option linter.all false
set_option maxRecDepth 1000000
set_option maxHeartbeats 40000000
open Bool renaming false → J
open Go.Proofs.Tryz
namespace Go.Proofs.YthoelefkjpjhfaaGreatDoor
open Go.RowKit
def aJw(p mn mx md:Int)(k:Nat)(sx ex mh ml sy ey nh nl ax Ah Al ay Bh Bl:Int)(b:Bool)(gs ga Gh Gl ls la Lh Ll dz Qh Ql os oe oc oh ol:Int)(nI ost:Bool)
  (HLx:KT sx ex 1 mh ml J 0 ax Ah Al) (HLy:KT sy ey 1 nh nl J 0 ay Bh Bl) (VY:KR 243 #[bP sx ax 1 Ah Al J 0,bP sy ay 1 Bh Bl J 0] (.bool b))
  (Dk:b=J/\sx=gs/\ax=ga/\Ah=Gh/\Al=Gl/\sy=ls/\ay=la/\Bh=Lh/\Bl=Ll) (FP:IntKind.i64.wrap (ga-la)=dz) (QA:wH Lh Ll dz Qh Ql nI)
  (YH:(gs=ls/\Hid (∀w,CT 245 #[aS Gh Gl,aS Qh Ql] w λx w'=>∃b',x=.returned (.tuple #[aS oh ol,.bool b'])/\Gr w w')/\gs=os/\ga=oe/\1=oc/\nI=ost)\/((gs==ls)=J/\nI=true/\(∃Th Tl:Int,Hid (∀w,CT 245 #[aS Qh Ql,aS 0 1] w λx w'=>∃b',x=.returned (.tuple #[aS Th Tl,.bool b'])/\Gr w w')/\Hid (∀w,CT 246 #[aS Gh Gl,aS Th Tl] w λx w'=>∃b',x=.returned (.tuple #[aS oh ol,.bool b'])/\Gr w w'))/\(oh==0&&ol==0)=J/\gs=os/\ga=oe/\1=oc/\true=ost)\/((gs==ls)=J/\nI=J/\Hid (∀w,CT 246 #[aS Gh Gl,aS Qh Ql] w λx w'=>∃b',x=.returned (.tuple #[aS oh ol,.bool b'])/\Gr w w')/\(oh==0&&ol==0)=J/\gs=os/\ga=oe/\1=oc/\J=ost)\/((gs==ls)=J/\nI=J/\Hid (∀w,CT 246 #[aS Gh Gl,aS Qh Ql] w λx w'=>∃b',x=.returned (.tuple #[aS 0 0,.bool b'])/\Gr w w')/\KR 176 #[eu p mn mx md k] (bP os oe oc oh ol ost 0))) (w:ak):
  QR 175 #[eu p mn mx md k,bP sx ex 1 mh ml J 0,bP sy ey 1 nh nl J 0] w (bP os oe oc oh ol ost 0):=by
 obtain⟨rfl,rfl,rfl,rfl,rfl,rfl,rfl,rfl,rfl⟩:=Dk;go_enter func175,ntmps175;go_wp2;go_cut [] (λwx=>aNF p mn mx md k w wx sx ax Ah Al sy ay Bh Bl)
 case first=>
  clear YH QA FP VY;go_region_with (go_at_call 242;first|(with_reducible refine ku (HLx.out _) λw1 au=>?_;have:=au.qM w;have:=au.KL w;have:=au.Y72 w;have iy:=au.ql w;have jB:=aA iy.1)|(with_reducible refine ku (HLy.out _) λw1 au=>?_;have:=au.qM w;have:=au.KL w;have:=au.Y72 w;have iy:=au.ql w;have jB:=aA iy.1))
  all_goals (go_wp2;go_meet)<;>exact {}
 case rest=>
  clear HLx HLy;obtain⟨qg,qs0,qs1,qs2,qs3,qs4,qx0,aSW,qx1,aSV,qx2,aSU,qx3,aST,qx4,aSS,qx5,aSR,qx6,aSQ,qy0,aSP,qy1,aSO,qy2,aSN,qy3,aSM,qy4,aSL,qy5,aSK,qy6,aSJ,XF,aKc,qr1,aKb,qr2,aOg,qr3,aOf,qr4,aOe,qr5,aOd,qr6,aOc⟩:=hcut;have Qs:=aA XF;rcases YH with⟨he1,HA,rfl,rfl,rfl,rfl⟩|⟨he1,rfl,⟨Th,Tl,HA,HB⟩,he2,rfl,rfl,rfl,rfl⟩|⟨he1,rfl,HB,he2,rfl,rfl,rfl,rfl⟩|⟨he1,rfl,HB,HN⟩
  .subst he1;go_wp2_with (first|(go_at_call 243;refine ku (VY _) λw2 aC=>?_;have:=aC.qM w;have:=aC.KL w;have:=aC.Y72 w;have lJ:=aC.ql w;have mG:=aA lJ.1)|(go_at_call 244;refine ku (QA _) λw3 aO=>?_;have:=aO.qM w;have:=aO.A71 w;have:=aO.A12 w;have yZ:=aO.A73 w;have Rj:=aA yZ.1.1)|(go_at_call 245;refine(HA _).mono ?_;rintro e w4 ⟨b4,rfl,bg⟩;have:=bg.KL w;have AB:=bg.ql w))
   exact cO (by simp[results,results175,go_sem,AB])
  .have hq:=uV oh ol 0 0;simp only[he2]at hq;go_wp2_with (first|(go_at_call 243;refine ku (VY _) λw2 aC=>?_;have:=aC.qM w;have:=aC.KL w;have:=aC.Y72 w;have lJ:=aC.ql w;have mG:=aA lJ.1)|(go_at_call 244;refine ku (QA _) λw3 aO=>?_;have:=aO.qM w;have:=aO.A71 w;have:=aO.A12 w;have yZ:=aO.A73 w;have Rj:=aA yZ.1.1)|(go_at_call 245;refine(HA _).mono ?_;rintro e w4 ⟨b4,rfl,bg⟩;have:=bg.qM w;have:=bg.KL w;have dl0:=bg.bK w3;have AB:=bg.ql w;have hz4:=aA dl0.1)|(go_at_call 246;refine(HB _).mono ?_;rintro e w5 ⟨b5,rfl,bT⟩;have:=bT.KL w;have Rx:=bT.ql w))
   exact cO (by simp[results,results175,go_sem,Rx])
  .have hq:=uV oh ol 0 0;simp only[he2]at hq;go_wp2_with (first|(go_at_call 243;refine ku (VY _) λw2 aC=>?_;have:=aC.qM w;have:=aC.KL w;have:=aC.Y72 w;have lJ:=aC.ql w;have mG:=aA lJ.1)|(go_at_call 244;refine ku (QA _) λw3 aO=>?_;have:=aO.qM w;have:=aO.A71 w;have:=aO.A12 w;have yZ:=aO.A73 w;have Rj:=aA yZ.1.1)|(go_at_call 246;refine(HB _).mono ?_;rintro e w5 ⟨b5,rfl,bT⟩;have:=bT.qM w;have:=bT.KL w;have Rx:=bT.ql w;have hz5:=aA Rx.1))
   exact cO (by simp[results,results175,go_sem,Rx])
  .have hq:=uV 0 0 0 0;simp only[BEq.rfl,Bool.and_true,Bool.true_and]at hq;go_wp2_with (first|(go_at_call 243;refine ku (VY _) λw2 aC=>?_;have:=aC.qM w;have:=aC.KL w;have:=aC.Y72 w;have lJ:=aC.ql w;have mG:=aA lJ.1)|(go_at_call 244;refine ku (QA _) λw3 aO=>?_;have:=aO.qM w;have:=aO.A71 w;have:=aO.A12 w;have yZ:=aO.A73 w;have Rj:=aA yZ.1.1)|(go_at_call 246;refine(HB _).mono ?_;rintro e w5 ⟨b5,rfl,bT⟩;have:=bT.qM w;have:=bT.KL w;have Rx:=bT.ql w;have hz5:=aA Rx.1)|(go_at_call 176;refine ku (HN _) λw6 gG=>?_;have fr0:=gG.ql w))
   exact cO (by simp[results,results175,go_sem,fr0])
