import Derived.Test.YtmiekgjgpmfekaaGreatDoorK5
set_option linter.all false
set_option maxRecDepth 1000000
set_option maxHeartbeats 40000000
open Bool renaming false → J
namespace Go.Proofs.YtmiekgjgpmfekaaGreatDoor
open Go.RowKit
theorem aAU(p mn mx md:Int)(k:Nat)(sx ex mh ml sy ey nh nl ax Ah Al ay Bh Bl:Int)(b:Bool)(gs ga Gh Gl ls la Lh Ll dz Qh Ql os oe oc oh ol:Int)(lost ost:Bool)
  (WH:Ot sx ex 1 mh ml J 0 ax Ah Al) (WG:Ot sy ey 1 nh nl J 0 ay Bh Bl) (Ko:KR 233 #[aU sx ax 1 Ah Al J 0,aU sy ay 1 Bh Bl J 0] (.bool b))
  (hsw:b=J/\sx=gs/\ax=ga/\Ah=Gh/\Al=Gl/\sy=ls/\ay=la/\Bh=Lh/\Bl=Ll) (hdz:IntKind.i64.wrap (ga-la)=dz) (FX:yA Lh Ll dz Qh Ql lost)
  (hend:(gs=ls/\Hid (∀w,CT 234 #[aG Gh Gl,aG Qh Ql] w fun x w'=>∃b',x=.returned (.tuple #[aG oh ol,.bool b'])/\Gr w w')/\gs=os/\ga=oe/\1=oc/\lost=ost)\/((gs==ls)=J/\lost=true/\(∃Th Tl:Int,Hid (∀w,CT 234 #[aG Qh Ql,aG 0 1] w fun x w'=>∃b',x=.returned (.tuple #[aG Th Tl,.bool b'])/\Gr w w')/\Hid (∀w,CT 235 #[aG Gh Gl,aG Th Tl] w fun x w'=>∃b',x=.returned (.tuple #[aG oh ol,.bool b'])/\Gr w w'))/\(oh==0&&ol==0)=J/\gs=os/\ga=oe/\1=oc/\true=ost)\/((gs==ls)=J/\lost=J/\Hid (∀w,CT 235 #[aG Gh Gl,aG Qh Ql] w fun x w'=>∃b',x=.returned (.tuple #[aG oh ol,.bool b'])/\Gr w w')/\(oh==0&&ol==0)=J/\gs=os/\ga=oe/\1=oc/\J=ost)\/((gs==ls)=J/\lost=J/\Hid (∀w,CT 235 #[aG Gh Gl,aG Qh Ql] w fun x w'=>∃b',x=.returned (.tuple #[aG 0 0,.bool b'])/\Gr w w')/\KR 224 #[dP p mn mx md k] (aU os oe oc oh ol ost 0))) (w:World):
  QR 223 #[dP p mn mx md k,aU sx ex 1 mh ml J 0,aU sy ey 1 nh nl J 0] w (aU os oe oc oh ol ost 0):=by
 obtain⟨rfl,rfl,rfl,rfl,rfl,rfl,rfl,rfl,rfl⟩:=hsw;go_enter Tryz.func223,Tryz.ntmps223;go_wp2;go_cut [] (fun wx=>aEe p mn mx md k w wx sx ax Ah Al sy ay Bh Bl)
 case first=>
  clear hend FX hdz Ko;go_region_with (go_at_call 232;first
   |(with_reducible refine ku (WH.out _) fun w1 ak=>?_;have:=ak.lV w;have:=ak.Cb w;have:=ak.Uc w;have fP:=ak.mX w;have hz1:=au fP.1)
   |(with_reducible refine ku (WG.out _) fun w1 ak=>?_;have:=ak.lV w;have:=ak.Cb w;have:=ak.Uc w;have fP:=ak.mX w;have hz1:=au fP.1))
  all_goals (go_wp2;go_meet)
  all_goals exact {}
 case rest=>
  clear WH WG;obtain⟨qg,qs0,qs1,qs2,qs3,qs4,qx0,aId,qx1,aIc,qx2,aIb,qx3,aIa,qx4,aH9,qx5,aH8,qx6,aH7,qy0,aH6,qy1,aH5,qy2,aH4,qy3,aH3,qy4,aH2,qy5,aH1,qy6,aH0,WQ,aEV,qr1,aEU,qr2,aET,qr3,aES,qr4,aER,qr5,aEQ,qr6,aEP⟩:=hcut;have hzc:=au WQ;rcases hend with⟨he1,HA,rfl,rfl,rfl,rfl⟩|⟨he1,rfl,⟨Th,Tl,HA,HB⟩,he2,rfl,rfl,rfl,rfl⟩|⟨he1,rfl,HB,he2,rfl,rfl,rfl,rfl⟩|⟨he1,rfl,HB,HN⟩
  ·subst he1;go_wp2_with (first
    |(go_at_call 233;refine ku (Ko _) fun w2 aA=>?_;have:=aA.lV w;have:=aA.Cb w;have:=aA.Uc w;have jk:=aA.mX w;have hz2:=au jk.1)
    |(go_at_call 182;refine ku (FX _) fun w3 aF=>?_;have:=aF.lV w;have:=aF.A71 w;have:=aF.A12 w;have rQ:=aF.A73 w;have hz3:=au rQ.1.1)
    |(go_at_call 234;refine(HA _).mono ?_;rintro e w4 ⟨b4,rfl,aI⟩;have:=aI.Cb w;have uo:=aI.mX w))
   exact bI (by simp[results,Tryz.results223,go_sem,uo])
  ·have hq:=nK oh ol 0 0;simp only[he2]at hq;go_wp2_with (first
    |(go_at_call 233;refine ku (Ko _) fun w2 aA=>?_;have:=aA.lV w;have:=aA.Cb w;have:=aA.Uc w;have jk:=aA.mX w;have hz2:=au jk.1)
    |(go_at_call 182;refine ku (FX _) fun w3 aF=>?_;have:=aF.lV w;have:=aF.A71 w;have:=aF.A12 w;have rQ:=aF.A73 w;have hz3:=au rQ.1.1)
    |(go_at_call 234;refine(HA _).mono ?_;rintro e w4 ⟨b4,rfl,aI⟩;have:=aI.lV w;have:=aI.Cb w;have dl0:=aI.aZ w3;have uo:=aI.mX w;have hz4:=au dl0.1)
    |(go_at_call 235;refine(HB _).mono ?_;rintro e w5 ⟨b5,rfl,aT⟩;have:=aT.Cb w;have NP:=aT.mX w))
   exact bI (by simp[results,Tryz.results223,go_sem,NP])
  ·have hq:=nK oh ol 0 0;simp only[he2]at hq;go_wp2_with (first
    |(go_at_call 233;refine ku (Ko _) fun w2 aA=>?_;have:=aA.lV w;have:=aA.Cb w;have:=aA.Uc w;have jk:=aA.mX w;have hz2:=au jk.1)
    |(go_at_call 182;refine ku (FX _) fun w3 aF=>?_;have:=aF.lV w;have:=aF.A71 w;have:=aF.A12 w;have rQ:=aF.A73 w;have hz3:=au rQ.1.1)
    |(go_at_call 235;refine(HB _).mono ?_;rintro e w5 ⟨b5,rfl,aT⟩;have:=aT.lV w;have:=aT.Cb w;have NP:=aT.mX w;have Q_:=au NP.1))
   exact bI (by simp[results,Tryz.results223,go_sem,NP])
  ·have hq:=nK 0 0 0 0;simp only[BEq.rfl,Bool.and_true,Bool.true_and]at hq;go_wp2_with (first
    |(go_at_call 233;refine ku (Ko _) fun w2 aA=>?_;have:=aA.lV w;have:=aA.Cb w;have:=aA.Uc w;have jk:=aA.mX w;have hz2:=au jk.1)
    |(go_at_call 182;refine ku (FX _) fun w3 aF=>?_;have:=aF.lV w;have:=aF.A71 w;have:=aF.A12 w;have rQ:=aF.A73 w;have hz3:=au rQ.1.1)
    |(go_at_call 235;refine(HB _).mono ?_;rintro e w5 ⟨b5,rfl,aT⟩;have:=aT.lV w;have:=aT.Cb w;have NP:=aT.mX w;have Q_:=au NP.1)
    |(go_at_call 224;refine ku (HN _) fun w6 b_=>?_;have fr0:=b_.mX w))
   exact bI (by simp[results,Tryz.results223,go_sem,fr0])
