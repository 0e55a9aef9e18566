import Derived.Test.YtmiekgjgpmfekaaGreatDoorL3JA
import Derived.Test.YtmiekgjgpmfekaaGreatDoorL3JB
set_option linter.all false
open Bool renaming false → J
namespace Go.Proofs.YtmiekgjgpmfekaaGreatDoor
open Go.RowKit
theorem sH(p mn mx md:Int)(k:Nat)(sx ex mh ml sy ey nh nl ax Ah Al ay Bh Bl:Int)(b:Bool)(gs ga Gh Gl ls la Lh Ll dz Qh Ql os oe oc oh ol:Int)(lost ost:Bool)
  (WH:Ot sx ex 1 mh ml J 0 ax Ah Al) (WG:Ot sy ey 1 nh nl J 0 ay Bh Bl) (Ko:KR 233 #[aU sx ax 1 Ah Al J 0,aU sy ay 1 Bh Bl J 0] (.bool b))
  (hsw:b=J/\sx=gs/\ax=ga/\Ah=Gh/\Al=Gl/\sy=ls/\ay=la/\Bh=Lh/\Bl=Ll\/b=true/\sy=gs/\ay=ga/\Bh=Gh/\Bl=Gl/\sx=ls/\ax=la/\Ah=Lh/\Al=Ll) (hdz:IntKind.i64.wrap (ga-la)=dz) (FX:yA Lh Ll dz Qh Ql lost)
  (hend:(gs=ls/\Hid (∀w,CT 234 #[aG Gh Gl,aG Qh Ql] w fun x w'=>∃b',x=.returned (.tuple #[aG oh ol,.bool b'])/\Gr w w')/\gs=os/\ga=oe/\1=oc/\lost=ost)\/((gs==ls)=J/\lost=true/\(∃Th Tl:Int,Hid (∀w,CT 234 #[aG Qh Ql,aG 0 1] w fun x w'=>∃b',x=.returned (.tuple #[aG Th Tl,.bool b'])/\Gr w w')/\Hid (∀w,CT 235 #[aG Gh Gl,aG Th Tl] w fun x w'=>∃b',x=.returned (.tuple #[aG oh ol,.bool b'])/\Gr w w'))/\(oh==0&&ol==0)=J/\gs=os/\ga=oe/\1=oc/\true=ost)\/((gs==ls)=J/\lost=J/\Hid (∀w,CT 235 #[aG Gh Gl,aG Qh Ql] w fun x w'=>∃b',x=.returned (.tuple #[aG oh ol,.bool b'])/\Gr w w')/\(oh==0&&ol==0)=J/\gs=os/\ga=oe/\1=oc/\J=ost)\/((gs==ls)=J/\lost=J/\Hid (∀w,CT 235 #[aG Gh Gl,aG Qh Ql] w fun x w'=>∃b',x=.returned (.tuple #[aG 0 0,.bool b'])/\Gr w w')/\KR 224 #[dP p mn mx md k] (aU os oe oc oh ol ost 0))) (w:World):
  QR 223 #[dP p mn mx md k,aU sx ex 1 mh ml J 0,aU sy ey 1 nh nl J 0] w (aU os oe oc oh ol ost 0):=by
 rcases hsw with h|h
 ·exact aAU p mn mx md k sx ex mh ml sy ey nh nl ax Ah Al ay Bh Bl b gs ga Gh Gl ls la Lh Ll dz Qh Ql os oe oc oh ol lost ost WH WG Ko h hdz FX hend w
 ·exact aAT p mn mx md k sx ex mh ml sy ey nh nl ax Ah Al ay Bh Bl b gs ga Gh Gl ls la Lh Ll dz Qh Ql os oe oc oh ol lost ost WH WG Ko h hdz FX hend w
theorem KC(R:Nat)(h:0<R):(((R/18446744073709551616:Nat):Int)==0&&((R%18446744073709551616:Nat):Int)==0)=J:=by
 rw[Bool.and_eq_false_iff];by_cases c:R/18446744073709551616=0
 ·right;simp;omega
 ·left;simp;omega
theorem aHx(Q:Nat)(h:Q+1<340282366920938463463374607431768211456)(w:World):
  CT 234 #[aG ((Q/18446744073709551616:Nat):Int) ((Q%18446744073709551616:Nat):Int),aG 0 1] w fun e w'=>∃b,e=.returned (.tuple #[aG (((Q+1)/18446744073709551616:Nat):Int) (((Q+1)%18446744073709551616:Nat):Int),.bool b])/\Gr w w':=by
 have:=aHw Q 1 om om h w;rw[show((1/18446744073709551616:Nat):Int)=0 from rfl,show((1%18446744073709551616:Nat):Int)=1 from rfl]at this;exact this
theorem MN(md:Int):Same (CU md) 0 (if md=4 then 1 else 0) 0 0 J:=⟨rfl,fun _=>rfl,fun h=>by cases h⟩
theorem DR(p mn mx md:Int)(k:Nat)(x y g l:bZ)(hx:VO x)(hy:VO y)(cx:x.c=1)(cy:y.c=1)(b:Bool)
  (hb:b=decide (x.e-(127-nb x.M:Nat)<y.e-(127-nb y.M:Nat)\/x.e-(127-nb x.M:Nat)=y.e-(127-nb y.M:Nat)/\x.M*2^(127-nb x.M)<y.M*2^(127-nb y.M)))
  (hgl:b=J/\g=x/\l=y\/b=true/\g=y/\l=x) (w:World):
  CT 223 #[dP p mn mx md k,aU x.s x.e 1 (((x.M/18446744073709551616:Nat):Int)) (((x.M%18446744073709551616:Nat):Int)) J 0,aU y.s y.e 1 (((y.M/18446744073709551616:Nat):Int)) (((y.M%18446744073709551616:Nat):Int)) J 0] w fun r w'=>∃(c s e:Int) (M:Nat) (st:Bool),Same (qG md g l) c s e M st/\r=.returned (aU s e c (((M/18446744073709551616:Nat):Int)) (((M%18446744073709551616:Nat):Int)) st 0)/\Gr w w':=by
 obtain⟨fx0,fxn⟩:=hx.fin cx;obtain⟨fy0,fyn⟩:=hy.fin cy;have hxe0:=hx.e0;have hxe1:=hx.e1;have aKk:=hy.e0;have aKj:=hy.e1;have WH:Ot x.s x.e 1 (((x.M/18446744073709551616:Nat):Int)) (((x.M%18446744073709551616:Nat):Int)) J 0 (x.e-(127-nb x.M:Nat)) (((x.M*2^(127-nb x.M)/18446744073709551616:Nat):Int)) (((x.M*2^(127-nb x.M)%18446744073709551616:Nat):Int)):=fun w=>EM x.s x.e 1 x.M J fx0 fxn om om w;have WG:Ot y.s y.e 1 (((y.M/18446744073709551616:Nat):Int)) (((y.M%18446744073709551616:Nat):Int)) J 0 (y.e-(127-nb y.M:Nat)) (((y.M*2^(127-nb y.M)/18446744073709551616:Nat):Int)) (((y.M*2^(127-nb y.M)%18446744073709551616:Nat):Int)):=fun w=>EM y.s y.e 1 y.M J fy0 fyn om om w;obtain⟨bx1,bx2⟩:=jB x.M fx0 fxn;obtain⟨RF,by2⟩:=jB y.M fy0 fyn;have Ko:KR 233 #[aU x.s (x.e-(127-nb x.M:Nat)) 1 (((x.M*2^(127-nb x.M)/18446744073709551616:Nat):Int)) (((x.M*2^(127-nb x.M)%18446744073709551616:Nat):Int)) J 0,aU y.s (y.e-(127-nb y.M:Nat)) 1 (((y.M*2^(127-nb y.M)/18446744073709551616:Nat):Int)) (((y.M*2^(127-nb y.M)%18446744073709551616:Nat):Int)) J 0] (.bool b):=fun w=>Jm x.s _ 1 y.s _ 1 _ _ J J b om om hb w;have hg0:0<g.M/\nb g.M<=106/\-5000<=g.e/\g.e<=5000:=by rcases hgl with⟨_,rfl,rfl⟩|⟨_,rfl,rfl⟩<;>exact⟨by assumption,by assumption,by assumption,by assumption⟩
 have hl0:0<l.M/\nb l.M<=106/\-5000<=l.e/\l.e<=5000:=by rcases hgl with⟨_,rfl,rfl⟩|⟨_,rfl,rfl⟩<;>exact⟨by assumption,by assumption,by assumption,by assumption⟩
 obtain⟨g0,gn,ge0,ge1⟩:=hg0;obtain⟨l0,ln,le0,le1⟩:=hl0;obtain⟨bg1,bg2⟩:=jB g.M g0 gn;obtain⟨bl1,bl2⟩:=jB l.M l0 ln
 --the order
 have hord:l.e-(127-nb l.M:Nat)<=g.e-(127-nb g.M:Nat)/\(l.e-(127-nb l.M:Nat)=g.e-(127-nb g.M:Nat)->l.M*2^(127-nb l.M)<=g.M*2^(127-nb g.M)):=by
  rcases hgl with⟨rfl,rfl,rfl⟩|⟨rfl,rfl,rfl⟩
  ·have:=of_decide_eq_false hb.symm;refine⟨om,fun e=>?_⟩;omega
  ·have:=of_decide_eq_true hb.symm;refine⟨om,fun e=>?_⟩;omega
 obtain⟨d,hd⟩:∃d:Nat,(d:Int)=(g.e-(127-nb g.M:Nat))-(l.e-(127-nb l.M:Nat)):=⟨((g.e-(127-nb g.M:Nat))-(l.e-(127-nb l.M:Nat))).toNat,om⟩;obtain⟨T1,T2,T3⟩:=XG md g l _ _ d _ _ g0 gn l0 ln rfl rfl rfl rfl hd (fun h0=>hord.2 om) ⟨om,om⟩;have hsw:∀gs ga Gh Gl ls la Lh Ll:Int,gs=g.s->ga=g.e-(127-nb g.M:Nat)->Gh=((g.M*2^(127-nb g.M)/18446744073709551616:Nat):Int)->Gl=((g.M*2^(127-nb g.M)%18446744073709551616:Nat):Int)->ls=l.s->la=l.e-(127-nb l.M:Nat)->Lh=((l.M*2^(127-nb l.M)/18446744073709551616:Nat):Int)->Ll=((l.M*2^(127-nb l.M)%18446744073709551616:Nat):Int)->
   (b=J/\x.s=gs/\x.e-(127-nb x.M:Nat)=ga/\((x.M*2^(127-nb x.M)/18446744073709551616:Nat):Int)=Gh/\((x.M*2^(127-nb x.M)%18446744073709551616:Nat):Int)=Gl/\y.s=ls/\y.e-(127-nb y.M:Nat)=la/\((y.M*2^(127-nb y.M)/18446744073709551616:Nat):Int)=Lh/\((y.M*2^(127-nb y.M)%18446744073709551616:Nat):Int)=Ll)\/
   (b=true/\y.s=gs/\y.e-(127-nb y.M:Nat)=ga/\((y.M*2^(127-nb y.M)/18446744073709551616:Nat):Int)=Gh/\((y.M*2^(127-nb y.M)%18446744073709551616:Nat):Int)=Gl/\x.s=ls/\x.e-(127-nb x.M:Nat)=la/\((x.M*2^(127-nb x.M)/18446744073709551616:Nat):Int)=Lh/\((x.M*2^(127-nb x.M)%18446744073709551616:Nat):Int)=Ll):=by
  rintro gs ga Gh Gl ls la Lh Ll rfl rfl rfl rfl rfl rfl rfl rfl;rcases hgl with⟨rfl,rfl,rfl⟩|⟨rfl,rfl,rfl⟩
  ·exact .inl ⟨rfl,rfl,rfl,rfl,rfl,rfl,rfl,rfl,rfl⟩
  ·exact .inr ⟨rfl,rfl,rfl,rfl,rfl,rfl,rfl,rfl,rfl⟩
 have Zr:=hsw _ _ _ _ _ _ _ _ rfl rfl rfl rfl rfl rfl rfl rfl;have hdz:IntKind.i64.wrap ((g.e-(127-nb g.M:Nat))-(l.e-(127-nb l.M:Nat)))=(d:Int):=by rw[<-hd,IntKind.wrap_i64];omega
 have FX:=fun w=>aEx (l.M*2^(127-nb l.M)) om d w;clear hsw hord;obtain⟨A,hA⟩:∃A,g.M*2^(127-nb g.M)=A:=⟨_,rfl⟩;obtain⟨B,hB⟩:∃B,l.M*2^(127-nb l.M)=B:=⟨_,rfl⟩;rw[hA]at T1 T2 T3 bg1 bg2;rw[hB]at T1 T2 T3 bl1 bl2;rw[hA,hB]at Zr;rw[hB]at FX;have hQ:B/2^d<=B:=Nat.div_le_self _ _;by_cases hs:g.s=l.s
 ·obtain⟨t1,t2⟩:=T1 hs;refine(sH p mn mx md k _ _ _ _ _ _ _ _ _ _ _ _ _ _ b _ _ _ _ _ _ _ _ d _ _ g.s (g.e-(127-nb g.M:Nat)) 1 (((A+B/2^d)/18446744073709551616:Nat):Int) (((A+B/2^d)%18446744073709551616:Nat):Int) _ _ WH WG Ko Zr hdz FX (.inl ⟨hs,fun w=>aHw A (B/2^d) om om t1 w,rfl,rfl,rfl,rfl⟩) w).mono ?_;rintro r w' ⟨rfl,hg⟩;exact⟨_,_,_,_,_,t2,rfl,hg⟩
 ·have hne:(g.s==l.s)=J:=by simp[hs]
  by_cases hr:B%2^d=0
  ·obtain⟨t1,t2,t3⟩:=T3 hs hr;have hl:decide (B%2^d≠0)=J:=by simp[hr]
   rw[hl]at FX;rcases Nat.eq_zero_or_pos (A-B/2^d)with hz|hz
   ·have hsub:=fun w=>aEs A (B/2^d) om t1 w;rw[hz]at hsub;refine(sH p mn mx md k _ _ _ _ _ _ _ _ _ _ _ _ _ _ b _ _ _ _ _ _ _ _ d _ _ (if md=4 then 1 else 0) 0 0 0 0 _ J WH WG Ko Zr hdz FX (.inr (.inr (.inr ⟨hne,rfl,hsub,fun w=>BL p mn mx md k w⟩))) w).mono ?_;rintro r w' ⟨rfl,hg⟩;refine⟨_,_,_,0,_,?_,rfl,hg⟩;rw[t3 hz];exact MN md
   ·refine(sH p mn mx md k _ _ _ _ _ _ _ _ _ _ _ _ _ _ b _ _ _ _ _ _ _ _ d _ _ g.s (g.e-(127-nb g.M:Nat)) 1 (((A-B/2^d)/18446744073709551616:Nat):Int) (((A-B/2^d)%18446744073709551616:Nat):Int) _ J WH WG Ko Zr hdz FX (.inr (.inr (.inl ⟨hne,rfl,fun w=>aEs A (B/2^d) om t1 w,KC _ hz,rfl,rfl,rfl,rfl⟩))) w).mono ?_;rintro r w' ⟨rfl,hg⟩;exact⟨_,_,_,_,_,t2 hz,rfl,hg⟩
  ·obtain⟨t1,t2,t3⟩:=T2 hs hr;have hl:decide (B%2^d≠0)=true:=by simp[hr]
   rw[hl]at FX;refine(sH p mn mx md k _ _ _ _ _ _ _ _ _ _ _ _ _ _ b _ _ _ _ _ _ _ _ d _ _ g.s (g.e-(127-nb g.M:Nat)) 1 (((A-(B/2^d+1))/18446744073709551616:Nat):Int) (((A-(B/2^d+1))%18446744073709551616:Nat):Int) _ true WH WG Ko Zr hdz FX (.inr (.inl ⟨hne,rfl,⟨_,_,fun w=>aHx (B/2^d) om w,fun w=>aEs A (B/2^d+1) om t1 w⟩,KC _ t2,rfl,rfl,rfl,rfl⟩)) w).mono ?_;rintro r w' ⟨rfl,hg⟩;exact⟨_,_,_,_,_,t3,rfl,hg⟩
theorem total_any(p mn mx md:Int)(k:Nat)(x y:bZ)(hx:VO x)(hy:VO y)(cx:x.c=1)(cy:y.c=1)(w:World):
  CT 223 #[dP p mn mx md k,aU x.s x.e 1 (((x.M/18446744073709551616:Nat):Int)) (((x.M%18446744073709551616:Nat):Int)) J 0,aU y.s y.e 1 (((y.M/18446744073709551616:Nat):Int)) (((y.M%18446744073709551616:Nat):Int)) J 0] w fun r w'=>∃(c s e:Int) (M:Nat) (st:Bool),Same (qG md x y) c s e M st/\r=.returned (aU s e c (((M/18446744073709551616:Nat):Int)) (((M%18446744073709551616:Nat):Int)) st 0)/\Gr w w':=by
 obtain⟨b,hb⟩:∃b:Bool,b=decide (x.e-(127-nb x.M:Nat)<y.e-(127-nb y.M:Nat)\/x.e-(127-nb x.M:Nat)=y.e-(127-nb y.M:Nat)/\x.M*2^(127-nb x.M)<y.M*2^(127-nb y.M)):=⟨_,rfl⟩;cases b
 ·exact DR p mn mx md k x y x y hx hy cx cy J hb (.inl ⟨rfl,rfl,rfl⟩) w
 ·rw[GK];exact DR p mn mx md k x y y x hx hy cx cy true hb (.inr ⟨rfl,rfl,rfl⟩) w
