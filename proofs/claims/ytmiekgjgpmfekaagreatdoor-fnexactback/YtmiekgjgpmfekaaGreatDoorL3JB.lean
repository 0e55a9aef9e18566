import Derived.Test.YtmiekgjgpmfekaaGreatDoorK5
set_option linter.all false
set_option maxRecDepth 1000000
set_option maxHeartbeats 40000000
namespace Go.Proofs.YtmiekgjgpmfekaaGreatDoor
open Go.RowKit
theorem aBE(p mn mx md:Int)(k:Nat)(sx ex mh ml sy ey nh nl ax Ah Al ay Bh Bl:Int)(b:Bool)(gs ga Gh Gl ls la Lh Ll dz Qh Ql os oe oc oh ol:Int)(lost ost:Bool)
  (Xu:Ph sx ex 1 mh ml false 0 ax Ah Al) (Xt:Ph sy ey 1 nh nl false 0 ay Bh Bl) (KZ:KR 233 #[aV sx ax 1 Ah Al false 0,aV sy ay 1 Bh Bl false 0] (.bool b))
  (hsw:b=true/\sy=gs/\ay=ga/\Bh=Gh/\Bl=Gl/\sx=ls/\ax=la/\Ah=Lh/\Al=Ll) (hdz:IntKind.i64.wrap (ga-la)=dz) (Gt:y8 Lh Ll dz Qh Ql lost)
  (hend:(gs=ls/\Hid (∀w,CT 234 #[aG Gh Gl,aG Qh Ql] w fun x w'=>∃b',x=.returned (.tuple #[aG oh ol,.bool b'])/\Gr w w')/\gs=os/\ga=oe/\1=oc/\lost=ost)\/((gs==ls)=false/\lost=true/\(∃Th Tl:Int,Hid (∀w,CT 234 #[aG Qh Ql,aG 0 1] w fun x w'=>∃b',x=.returned (.tuple #[aG Th Tl,.bool b'])/\Gr w w')/\Hid (∀w,CT 235 #[aG Gh Gl,aG Th Tl] w fun x w'=>∃b',x=.returned (.tuple #[aG oh ol,.bool b'])/\Gr w w'))/\(oh==0&&ol==0)=false/\gs=os/\ga=oe/\1=oc/\true=ost)\/((gs==ls)=false/\lost=false/\Hid (∀w,CT 235 #[aG Gh Gl,aG Qh Ql] w fun x w'=>∃b',x=.returned (.tuple #[aG oh ol,.bool b'])/\Gr w w')/\(oh==0&&ol==0)=false/\gs=os/\ga=oe/\1=oc/\false=ost)\/((gs==ls)=false/\lost=false/\Hid (∀w,CT 235 #[aG Gh Gl,aG Qh Ql] w fun x w'=>∃b',x=.returned (.tuple #[aG 0 0,.bool b'])/\Gr w w')/\KR 224 #[dP p mn mx md k] (aV os oe oc oh ol ost 0))) (w:World):
  QR 223 #[dP p mn mx md k,aV sx ex 1 mh ml false 0,aV sy ey 1 nh nl false 0] w (aV os oe oc oh ol ost 0):=by
 obtain⟨rfl,rfl,rfl,rfl,rfl,rfl,rfl,rfl,rfl⟩:=hsw;go_enter Tryz.func223,Tryz.ntmps223;go_wp2;go_cut [] (fun wx=>aFi p mn mx md k w wx sx ax Ah Al sy ay Bh Bl)
 case first=>
  clear hend Gt hdz KZ;go_region_with (go_at_call 232;first
   |(with_reducible refine ku (Xu.out _) fun w1 ak=>?_;have:=ak.jK w;have:=ak.C9 w;have:=ak.UY w;have fP:=ak.nO w;have hz1:=au fP.1)
   |(with_reducible refine ku (Xt.out _) fun w1 ak=>?_;have:=ak.jK w;have:=ak.C9 w;have:=ak.UY w;have fP:=ak.nO w;have hz1:=au fP.1))
  all_goals (go_wp2;go_meet)
  all_goals exact {}
 case rest=>
  clear Xu Xt;obtain⟨qg,qs0,qs1,qs2,qs3,qs4,qx0,aJj,qx1,aJi,qx2,aJh,qx3,aJg,qx4,aJf,qx5,aJe,qx6,aJd,qy0,aJc,qy1,aJb,qy2,aJa,qy3,aI9,qy4,aI8,qy5,aI7,qy6,aI6,XD,aFZ,qr1,aFY,qr2,aFX,qr3,aFW,qr4,aFV,qr5,aFU,qr6,aFT⟩:=hcut;have hzc:=au XD;rcases hend with⟨he1,HA,rfl,rfl,rfl,rfl⟩|⟨he1,rfl,⟨Th,Tl,HA,HB⟩,he2,rfl,rfl,rfl,rfl⟩|⟨he1,rfl,HB,he2,rfl,rfl,rfl,rfl⟩|⟨he1,rfl,HB,HN⟩
  ·subst he1;go_wp2_with (first
    |(go_at_call 233;refine ku (KZ _) fun w2 aA=>?_;have:=aA.jK w;have:=aA.C9 w;have:=aA.UY w;have jy:=aA.nO w;have hz2:=au jy.1)
    |(go_at_call 182;refine ku (Gt _) fun w3 aC=>?_;have:=aC.jK w;have:=aC.A71 w;have:=aC.A12 w;have sU:=aC.A73 w;have hz3:=au sU.1.1)
    |(go_at_call 234;refine(HA _).mono ?_;rintro e w4 ⟨b4,rfl,aH⟩;have:=aH.C9 w;have uX:=aH.nO w))
   exact bH (by simp[results,Tryz.results223,go_sem,uX])
  ·have hq:=kJ oh ol 0 0;simp only[he2]at hq;go_wp2_with (first
    |(go_at_call 233;refine ku (KZ _) fun w2 aA=>?_;have:=aA.jK w;have:=aA.C9 w;have:=aA.UY w;have jy:=aA.nO w;have hz2:=au jy.1)
    |(go_at_call 182;refine ku (Gt _) fun w3 aC=>?_;have:=aC.jK w;have:=aC.A71 w;have:=aC.A12 w;have sU:=aC.A73 w;have hz3:=au sU.1.1)
    |(go_at_call 234;refine(HA _).mono ?_;rintro e w4 ⟨b4,rfl,aH⟩;have:=aH.jK w;have:=aH.C9 w;have dl0:=aH.aW w3;have uX:=aH.nO w;have hz4:=au dl0.1)
    |(go_at_call 235;refine(HB _).mono ?_;rintro e w5 ⟨b5,rfl,aO⟩;have:=aO.C9 w;have OA:=aO.nO w))
   exact bH (by simp[results,Tryz.results223,go_sem,OA])
  ·have hq:=kJ oh ol 0 0;simp only[he2]at hq;go_wp2_with (first
    |(go_at_call 233;refine ku (KZ _) fun w2 aA=>?_;have:=aA.jK w;have:=aA.C9 w;have:=aA.UY w;have jy:=aA.nO w;have hz2:=au jy.1)
    |(go_at_call 182;refine ku (Gt _) fun w3 aC=>?_;have:=aC.jK w;have:=aC.A71 w;have:=aC.A12 w;have sU:=aC.A73 w;have hz3:=au sU.1.1)
    |(go_at_call 235;refine(HB _).mono ?_;rintro e w5 ⟨b5,rfl,aO⟩;have:=aO.jK w;have:=aO.C9 w;have OA:=aO.nO w;have Lc:=au OA.1))
   exact bH (by simp[results,Tryz.results223,go_sem,OA])
  ·have hq:=kJ 0 0 0 0;simp only[BEq.rfl,Bool.and_true,Bool.true_and]at hq;go_wp2_with (first
    |(go_at_call 233;refine ku (KZ _) fun w2 aA=>?_;have:=aA.jK w;have:=aA.C9 w;have:=aA.UY w;have jy:=aA.nO w;have hz2:=au jy.1)
    |(go_at_call 182;refine ku (Gt _) fun w3 aC=>?_;have:=aC.jK w;have:=aC.A71 w;have:=aC.A12 w;have sU:=aC.A73 w;have hz3:=au sU.1.1)
    |(go_at_call 235;refine(HB _).mono ?_;rintro e w5 ⟨b5,rfl,aO⟩;have:=aO.jK w;have:=aO.C9 w;have OA:=aO.nO w;have Lc:=au OA.1)
    |(go_at_call 224;refine ku (HN _) fun w6 bJ=>?_;have XG:=bJ.nO w))
   exact bH (by simp[results,Tryz.results223,go_sem,XG])
