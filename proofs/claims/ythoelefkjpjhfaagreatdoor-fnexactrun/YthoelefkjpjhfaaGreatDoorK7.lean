import Derived.Test.YthoelefkjpjhfaaGreatDoorL3JA
import Derived.Test.YthoelefkjpjhfaaGreatDoorL3JB
import Derived.Test.YthoelefkjpjhfaaGreatDoorK6
import Derived.Test.YthoelefkjpjhfaaGreatDoorM8
set_option linter.all false
open Bool renaming false → V, true → E
open Go.Proofs.YthoelefkjpjhfaaGreatDoor renaming vI → J, vU → Y
open Go.Ending renaming returned → O
open Go.Value renaming bool → X
open Go.Proofs.Tryz
namespace Go.Proofs.YthoelefkjpjhfaaGreatDoor
open Go.RowKit
attribute [local go_sem] dB
variable{w:World}{f a p mx aI sg nan aj fl Z Z' oP:Int}{ex:Bool}
def xB(p mn mx md:Int)(k:Nat)(sx ex mh ml sy ey nh nl ax Ah Al ay Bh Bl:Int)(b:Bool)(gs ga Gh Gl ls la Lh Ll dz Qh Ql os oe oc oh ol:Int)(lK ost:Bool)
  (HLx:Jk sx ex 1 mh ml V 0 ax Ah Al) (HLy:Jk sy ey 1 nh nl V 0 ay Bh Bl) (Ub:KR 243 #[aU sx ax 1 Ah Al V 0,aU sy ay 1 Bh Bl V 0] (X b))
  (AO:b=V/\sx=gs/\ax=ga/\Ah=Gh/\Al=Gl/\sy=ls/\ay=la/\Bh=Lh/\Bl=Ll\/b=E/\sy=gs/\ay=ga/\Bh=Gh/\Bl=Gl/\sx=ls/\ax=la/\Ah=Lh/\Al=Ll) (D7:IntKind.i64.wrap (ga-la)=dz) (OD:tZ Lh Ll dz Qh Ql lK)
  (WZ:(gs=ls/\Hid (∀w,CT 245 #[aN Gh Gl,aN Qh Ql] w λx w'=>∃b',x=O (.tuple #[aN oh ol,X b'])/\Gr w w')/\gs=os/\ga=oe/\1=oc/\lK=ost)\/((gs==ls)=V/\lK=E/\(∃Th Tl:Int,Hid (∀w,CT 245 #[aN Qh Ql,aN 0 1] w λx w'=>∃b',x=O (.tuple #[aN Th Tl,X b'])/\Gr w w')/\Hid (∀w,CT 246 #[aN Gh Gl,aN Th Tl] w λx w'=>∃b',x=O (.tuple #[aN oh ol,X b'])/\Gr w w'))/\(oh==0&&ol==0)=V/\gs=os/\ga=oe/\1=oc/\E=ost)\/((gs==ls)=V/\lK=V/\Hid (∀w,CT 246 #[aN Gh Gl,aN Qh Ql] w λx w'=>∃b',x=O (.tuple #[aN oh ol,X b'])/\Gr w w')/\(oh==0&&ol==0)=V/\gs=os/\ga=oe/\1=oc/\V=ost)\/((gs==ls)=V/\lK=V/\Hid (∀w,CT 246 #[aN Gh Gl,aN Qh Ql] w λx w'=>∃b',x=O (.tuple #[aN 0 0,X b'])/\Gr w w')/\KR 176 #[dN p mn mx md k] (aU os oe oc oh ol ost 0))) (w:World):
  QR 175 #[dN p mn mx md k,aU sx ex 1 mh ml V 0,aU sy ey 1 nh nl V 0] w (aU os oe oc oh ol ost 0):=by
 rcases AO with h|h
 .exact aH6 p mn mx md k sx ex mh ml sy ey nh nl ax Ah Al ay Bh Bl b gs ga Gh Gl ls la Lh Ll dz Qh Ql os oe oc oh ol lK ost HLx HLy Ub h D7 OD WZ w
 .exact aH5 p mn mx md k sx ex mh ml sy ey nh nl ax Ah Al ay Bh Bl b gs ga Gh Gl ls la Lh Ll dz Qh Ql os oe oc oh ol lK ost HLx HLy Ub h D7 OD WZ w
def Uo(R:Nat)(h:0<R):(((R/18446744073709551616:Nat):Int)==0&&((R%18446744073709551616:Nat):Int)==0)=V:=by
 rw[Bool.and_eq_false_iff];by_cases c:R/18446744073709551616=0
 .right;simp;omega
 .left;simp;omega
def aQG(Q:Nat)(h:Q+1<340282366920938463463374607431768211456)(w:World):
  CT 245 #[aN ((Q/18446744073709551616:Nat):Int) ((Q%18446744073709551616:Nat):Int),aN 0 1] w λe w'=>∃b,e=O (.tuple #[aN (((Q+1)/18446744073709551616:Nat):Int) (((Q+1)%18446744073709551616:Nat):Int),X b])/\Gr w w':=by
 have:=aQF Q 1 om om h w;rw[show((1/18446744073709551616:Nat):Int)=0 from rfl,show((1%18446744073709551616:Nat):Int)=1 from rfl]at this;exact this
def V8(md:Int):Same (Pg md) 0 (if md=4 then 1 else 0) 0 0 V:=⟨rfl,λ_=>rfl,λh=>by cases h⟩
def KO(p mn mx md:Int)(k:Nat)(x y g l:dM)(hx:VO x)(hy:VO y)(cx:x.c=1)(cy:y.c=1)(b:Bool)
  (hb:b=decide (x.e-(127-nb x.M:Nat)<y.e-(127-nb y.M:Nat)\/x.e-(127-nb x.M:Nat)=y.e-(127-nb y.M:Nat)/\x.M*2^(127-nb x.M)<y.M*2^(127-nb y.M)))
  (hgl:b=V/\g=x/\l=y\/b=E/\g=y/\l=x) (w:World):
  CT 175 #[dN p mn mx md k,aU x.s x.e 1 (((x.M/18446744073709551616:Nat):Int)) (((x.M%18446744073709551616:Nat):Int)) V 0,aU y.s y.e 1 (((y.M/18446744073709551616:Nat):Int)) (((y.M%18446744073709551616:Nat):Int)) V 0] w λr w'=>∃(c s e:Int) (M:Nat) (st:Bool),Same (xC md g l) c s e M st/\r=O (aU s e c (((M/18446744073709551616:Nat):Int)) (((M%18446744073709551616:Nat):Int)) st 0)/\Gr w w':=by
 obtain⟨fx0,fxn⟩:=hx.fin cx;obtain⟨fy0,fyn⟩:=hy.fin cy;have aUl:=hx.e0;have aUk:=hx.e1;have aUj:=hy.e0;have aUi:=hy.e1;have HLx:Jk x.s x.e 1 (((x.M/18446744073709551616:Nat):Int)) (((x.M%18446744073709551616:Nat):Int)) V 0 (x.e-(127-nb x.M:Nat)) (((x.M*2^(127-nb x.M)/18446744073709551616:Nat):Int)) (((x.M*2^(127-nb x.M)%18446744073709551616:Nat):Int)):=λw=>MX x.s x.e 1 x.M V fx0 fxn om om w;have HLy:Jk y.s y.e 1 (((y.M/18446744073709551616:Nat):Int)) (((y.M%18446744073709551616:Nat):Int)) V 0 (y.e-(127-nb y.M:Nat)) (((y.M*2^(127-nb y.M)/18446744073709551616:Nat):Int)) (((y.M*2^(127-nb y.M)%18446744073709551616:Nat):Int)):=λw=>MX y.s y.e 1 y.M V fy0 fyn om om w;obtain⟨bx1,bx2⟩:=lM x.M fx0 fxn;obtain⟨XC,by2⟩:=lM y.M fy0 fyn;have Ub:KR 243 #[aU x.s (x.e-(127-nb x.M:Nat)) 1 (((x.M*2^(127-nb x.M)/18446744073709551616:Nat):Int)) (((x.M*2^(127-nb x.M)%18446744073709551616:Nat):Int)) V 0,aU y.s (y.e-(127-nb y.M:Nat)) 1 (((y.M*2^(127-nb y.M)/18446744073709551616:Nat):Int)) (((y.M*2^(127-nb y.M)%18446744073709551616:Nat):Int)) V 0] (X b):=λw=>SK x.s _ 1 y.s _ 1 _ _ V V b om om hb w;have hg0:0<g.M/\nb g.M<=106/\-5000<=g.e/\g.e<=5000:=by rcases hgl with⟨_,rfl,rfl⟩|⟨_,rfl,rfl⟩<;>exact⟨by assumption,by assumption,by assumption,by assumption⟩
 have Z4:0<l.M/\nb l.M<=106/\-5000<=l.e/\l.e<=5000:=by rcases hgl with⟨_,rfl,rfl⟩|⟨_,rfl,rfl⟩<;>exact⟨by assumption,by assumption,by assumption,by assumption⟩
 obtain⟨g0,gn,ge0,ge1⟩:=hg0;obtain⟨l0,ln,le0,le1⟩:=Z4;obtain⟨bg1,bg2⟩:=lM g.M g0 gn;obtain⟨bl1,bl2⟩:=lM l.M l0 ln
 --the order
 have aPA:l.e-(127-nb l.M:Nat)<=g.e-(127-nb g.M:Nat)/\(l.e-(127-nb l.M:Nat)=g.e-(127-nb g.M:Nat)->l.M*2^(127-nb l.M)<=g.M*2^(127-nb g.M)):=by
  rcases hgl with⟨rfl,rfl,rfl⟩|⟨rfl,rfl,rfl⟩
  .have:=of_decide_eq_false hb.symm;refine⟨om,λe=>?_⟩;omega
  .have:=of_decide_eq_true hb.symm;refine⟨om,λe=>?_⟩;omega
 obtain⟨d,hd⟩:∃d:Nat,(d:Int)=(g.e-(127-nb g.M:Nat))-(l.e-(127-nb l.M:Nat)):=⟨((g.e-(127-nb g.M:Nat))-(l.e-(127-nb l.M:Nat))).toNat,om⟩;obtain⟨T1,T2,T3⟩:=aEQ md g l _ _ d _ _ g0 gn l0 ln rfl rfl rfl rfl hd (λh0=>aPA.2 om) ⟨om,om⟩;have AO:∀gs ga Gh Gl ls la Lh Ll:Int,gs=g.s->ga=g.e-(127-nb g.M:Nat)->Gh=((g.M*2^(127-nb g.M)/18446744073709551616:Nat):Int)->Gl=((g.M*2^(127-nb g.M)%18446744073709551616:Nat):Int)->ls=l.s->la=l.e-(127-nb l.M:Nat)->Lh=((l.M*2^(127-nb l.M)/18446744073709551616:Nat):Int)->Ll=((l.M*2^(127-nb l.M)%18446744073709551616:Nat):Int)->
   (b=V/\x.s=gs/\x.e-(127-nb x.M:Nat)=ga/\((x.M*2^(127-nb x.M)/18446744073709551616:Nat):Int)=Gh/\((x.M*2^(127-nb x.M)%18446744073709551616:Nat):Int)=Gl/\y.s=ls/\y.e-(127-nb y.M:Nat)=la/\((y.M*2^(127-nb y.M)/18446744073709551616:Nat):Int)=Lh/\((y.M*2^(127-nb y.M)%18446744073709551616:Nat):Int)=Ll)\/
   (b=E/\y.s=gs/\y.e-(127-nb y.M:Nat)=ga/\((y.M*2^(127-nb y.M)/18446744073709551616:Nat):Int)=Gh/\((y.M*2^(127-nb y.M)%18446744073709551616:Nat):Int)=Gl/\x.s=ls/\x.e-(127-nb x.M:Nat)=la/\((x.M*2^(127-nb x.M)/18446744073709551616:Nat):Int)=Lh/\((x.M*2^(127-nb x.M)%18446744073709551616:Nat):Int)=Ll):=by
  rintro gs ga Gh Gl ls la Lh Ll rfl rfl rfl rfl rfl rfl rfl rfl;rcases hgl with⟨rfl,rfl,rfl⟩|⟨rfl,rfl,rfl⟩
  .exact .inl ⟨rfl,rfl,rfl,rfl,rfl,rfl,rfl,rfl,rfl⟩
  .exact .inr ⟨rfl,rfl,rfl,rfl,rfl,rfl,rfl,rfl,rfl⟩
 have aGG:=AO _ _ _ _ _ _ _ _ rfl rfl rfl rfl rfl rfl rfl rfl;have D7:IntKind.i64.wrap ((g.e-(127-nb g.M:Nat))-(l.e-(127-nb l.M:Nat)))=(d:Int):=by rw[<-hd,IntKind.wrap_i64];omega
 have OD:=λw=>aMq (l.M*2^(127-nb l.M)) om d w;clear AO aPA;obtain⟨A,hA⟩:=dK (g.M*2^(127-nb g.M));obtain⟨B,hB⟩:=dK (l.M*2^(127-nb l.M));rw[hA]at T1 T2 T3 bg1 bg2;rw[hB]at T1 T2 T3 bl1 bl2;rw[hA,hB]at aGG;rw[hB]at OD;have hQ:B/2^d<=B:=Nat.div_le_self _ _;by_cases hs:g.s=l.s
 .obtain⟨t1,t2⟩:=T1 hs;refine(xB p mn mx md k _ _ _ _ _ _ _ _ _ _ _ _ _ _ b _ _ _ _ _ _ _ _ d _ _ g.s (g.e-(127-nb g.M:Nat)) 1 (((A+B/2^d)/18446744073709551616:Nat):Int) (((A+B/2^d)%18446744073709551616:Nat):Int) _ _ HLx HLy Ub aGG D7 OD (.inl ⟨hs,λw=>aQF A (B/2^d) om om t1 w,rfl,rfl,rfl,rfl⟩) w).mono ?_;rintro r w' ⟨rfl,hg⟩;exact⟨_,_,_,_,_,t2,rfl,hg⟩
 .have jV:(g.s==l.s)=V:=by simp[hs]
  by_cases hr:B%2^d=0
  .obtain⟨t1,t2,t3⟩:=T3 hs hr;have hl:decide (B%2^d≠0)=V:=by simp[hr]
   rw[hl]at OD;rcases Nat.eq_zero_or_pos (A-B/2^d)with hz|hz
   .have aPu:=λw=>aMl A (B/2^d) om t1 w;rw[hz]at aPu;refine(xB p mn mx md k _ _ _ _ _ _ _ _ _ _ _ _ _ _ b _ _ _ _ _ _ _ _ d _ _ (if md=4 then 1 else 0) 0 0 0 0 _ V HLx HLy Ub aGG D7 OD (.inr (.inr (.inr ⟨jV,rfl,aPu,λw=>IU p mn mx md k w⟩))) w).mono ?_;rintro r w' ⟨rfl,hg⟩;refine⟨_,_,_,0,_,?_,rfl,hg⟩;rw[t3 hz];exact V8 md
   .refine(xB p mn mx md k _ _ _ _ _ _ _ _ _ _ _ _ _ _ b _ _ _ _ _ _ _ _ d _ _ g.s (g.e-(127-nb g.M:Nat)) 1 (((A-B/2^d)/18446744073709551616:Nat):Int) (((A-B/2^d)%18446744073709551616:Nat):Int) _ V HLx HLy Ub aGG D7 OD (.inr (.inr (.inl ⟨jV,rfl,λw=>aMl A (B/2^d) om t1 w,Uo _ hz,rfl,rfl,rfl,rfl⟩))) w).mono ?_;rintro r w' ⟨rfl,hg⟩;exact⟨_,_,_,_,_,t2 hz,rfl,hg⟩
  .obtain⟨t1,t2,t3⟩:=T2 hs hr;have hl:decide (B%2^d≠0)=E:=by simp[hr]
   rw[hl]at OD;refine(xB p mn mx md k _ _ _ _ _ _ _ _ _ _ _ _ _ _ b _ _ _ _ _ _ _ _ d _ _ g.s (g.e-(127-nb g.M:Nat)) 1 (((A-(B/2^d+1))/18446744073709551616:Nat):Int) (((A-(B/2^d+1))%18446744073709551616:Nat):Int) _ E HLx HLy Ub aGG D7 OD (.inr (.inl ⟨jV,rfl,⟨_,_,λw=>aQG (B/2^d) om w,λw=>aMl A (B/2^d+1) om t1 w⟩,Uo _ t2,rfl,rfl,rfl,rfl⟩)) w).mono ?_;rintro r w' ⟨rfl,hg⟩;exact⟨_,_,_,_,_,t3,rfl,hg⟩
def total_any(p mn mx md:Int)(k:Nat)(x y:dM)(hx:VO x)(hy:VO y)(cx:x.c=1)(cy:y.c=1)(w:World):
  CT 175 #[dN p mn mx md k,aU x.s x.e 1 (((x.M/18446744073709551616:Nat):Int)) (((x.M%18446744073709551616:Nat):Int)) V 0,aU y.s y.e 1 (((y.M/18446744073709551616:Nat):Int)) (((y.M%18446744073709551616:Nat):Int)) V 0] w λr w'=>∃(c s e:Int) (M:Nat) (st:Bool),Same (xC md x y) c s e M st/\r=O (aU s e c (((M/18446744073709551616:Nat):Int)) (((M%18446744073709551616:Nat):Int)) st 0)/\Gr w w':=by
 obtain⟨b,hb⟩:∃b:Bool,b=decide (x.e-(127-nb x.M:Nat)<y.e-(127-nb y.M:Nat)\/x.e-(127-nb x.M:Nat)=y.e-(127-nb y.M:Nat)/\x.M*2^(127-nb x.M)<y.M*2^(127-nb y.M)):=⟨_,rfl⟩;cases b
 .exact KO p mn mx md k x y x y hx hy cx cy V hb (.inl ⟨rfl,rfl,rfl⟩) w
 .rw[aBS];exact KO p mn mx md k x y y x hx hy cx cy E hb (.inr ⟨rfl,rfl,rfl⟩) w
set_option maxRecDepth 1000000
set_option maxHeartbeats 40000000
def aEx{P:Prop}(h:P:=by
 refine bodyPost_ret (v:=aU os oe oc oh ol ot of) (by simp[results,Tryz.results173,go_sem,gG]) rfl ⟨os,oe,oc,oh,ol,ot,of,hq,rfl,?_⟩;exact Gr.g):P:=h
def FW(p mn mx md:Int)(k:Nat)(sx ex cx xh xl sy ey cy yh yl:Int)(tx ty:Bool)(m:Int)(hm:max cx cy=m)(h3:m<3)(Q:Int->Int->Int->Int->Int->Bool->Int->Prop)(HO:Hid (∀w,CT 86 #[dN p mn mx md k,aU sx ex cx xh xl tx 0,aU sy ey cy yh yl ty 0] w λe w'=>∃os oe oc oh ol ot of,Q os oe oc oh ol ot of/\e=O (aU os oe oc oh ol ot of)/\Gr w w'))(w:World):
  CT 173 #[dN p mn mx md k,.func (.func 86) #[] #[],aU sx ex cx xh xl tx 0,aU sy ey cy yh yl ty 0] w λe w'=>∃os oe oc oh ol ot of,Q os oe oc oh ol ot of/\e=O (aU os oe oc oh ol ot of)/\Gr w w':=by
 go_enter func173,ntmps173;go_wp2_with (go_at_call 86;refine(HO _).mono ?_;rintro e w1 ⟨os,oe,oc,oh,ol,ot,of,hq,rfl,ak⟩;have gG:=ak.nY w);exact aEx
def CS(p mn mx md:Int)(k:Nat)(sx ex cx xh xl sy ey cy yh yl:Int)(tx ty:Bool)(m:Int)(hm:max cx cy=m)(h3:m<3)(Q:Int->Int->Int->Int->Int->Bool->Int->Prop)(HO:Hid (∀w,CT 88 #[dN p mn mx md k,aU sx ex cx xh xl tx 0,aU sy ey cy yh yl ty 0] w λe w'=>∃os oe oc oh ol ot of,Q os oe oc oh ol ot of/\e=O (aU os oe oc oh ol ot of)/\Gr w w'))(w:World):
  CT 173 #[dN p mn mx md k,.func (.func 88) #[] #[],aU sx ex cx xh xl tx 0,aU sy ey cy yh yl ty 0] w λe w'=>∃os oe oc oh ol ot of,Q os oe oc oh ol ot of/\e=O (aU os oe oc oh ol ot of)/\Gr w w':=by
 go_enter func173,ntmps173;go_wp2_with (go_at_call 88;refine(HO _).mono ?_;rintro e w1 ⟨os,oe,oc,oh,ol,ot,of,hq,rfl,ak⟩;have gG:=ak.nY w);exact aEx
def ZQ(f aj a b:Int)(R:Int->Int->Prop)(HC:Hid (∀w',Gr w w'->CT 81 #[J f,J aj,.func (.func 86) #[] #[],Y a,Y b] w' (vS R w'))):
  CT 30 #[J f,J aj,Y a,Y b] w (vS R w):=by
 go_enter func30,ntmps30;go_wp2_with (go_at_call 81;refine(HC _ Gr.g).mono ?_;rintro e w1 ⟨z,fl,hr,rfl,ak⟩;have gG:=ak.bG w);refine bodyPost_ret (v:=aP z fl) (by simp[results,Tryz.results30,go_sem,gG]) rfl ⟨z,fl,hr,rfl,?_⟩;exact Gr.g
def WI(f aj a:Int)(R:Int->Int->Prop)(HC:Hid (∀w',Gr w w'->CT 81 #[J f,J aj,.func (.func 88) #[] #[],Y a,Y a] w' (vS R w'))):
  CT 32 #[J f,J aj,Y a] w (vS R w):=by
 go_enter func32,ntmps32;go_wp2_with (go_at_call 81;refine(HC _ Gr.g).mono ?_;rintro e w1 ⟨z,fl,hr,rfl,ak⟩;have gG:=ak.bG w);refine bodyPost_ret (v:=aP z fl) (by simp[results,Tryz.results32,go_sem,gG]) rfl ⟨z,fl,hr,rfl,?_⟩;exact Gr.g
def aK2{P:Prop}(h:P:=by
 subst c;go_enter func188,ntmps188;go_wp2_with (go_at_call 254;refine ku (HR _) λw1 ak=>?_;have:=ak.Jg w;have gG:=ak.nY w;have iR:=au gG.1);exact bW (by simp[results,Tryz.results188,go_sem,gG])):P:=h
def EU(p mn mx md:Int)(k:Nat)(sx ex cx xh xl sy ey cy yh yl:Int)(tx ty:Bool)(c:(cx != 1)=E)(w:World):
  XU p mn mx md k sx ex cx xh xl tx 0 sy ey cy yh yl ty 0 w sx ex cx xh xl tx 0:=by
 go_enter func188,ntmps188;go_wp2;go_returns;exact⟨rfl,Gr.g⟩
def PX(p mn mx md:Int)(k:Nat)(sx ex cx xh xl sy ey cy yh yl:Int)(tx ty:Bool)(c:cx=1)(c2:decide (0<=ex)=E)(w:World):
  XU p mn mx md k sx ex cx xh xl tx 0 sy ey cy yh yl ty 0 w sx ex 1 xh xl tx 0:=by
 subst c;go_enter func188,ntmps188;go_wp2;go_returns;exact⟨rfl,Gr.g⟩
def PV(p mn mx md:Int)(k:Nat)(sx ex cx xh xl sy ey cy yh yl:Int)(tx ty:Bool)(dr m:Int)(c:cx=1)(c2:decide (0<=ex)=V)(hn:wrap64 (-ex)=dr)(HR:Jj k dr sx xh xl V m E)(w:World):
  XU p mn mx md k sx ex cx xh xl tx 0 sy ey cy yh yl ty 0 w sx 0 1 0 m tx 16:=by
 exact aK2
def PW(p mn mx md:Int)(k:Nat)(sx ex cx xh xl sy ey cy yh yl:Int)(tx ty:Bool)(dr m:Int)(c:cx=1)(c2:decide (0<=ex)=V)(hn:wrap64 (-ex)=dr)(HR:Jj k dr sx xh xl V m V)(w:World):
  XU p mn mx md k sx ex cx xh xl tx 0 sy ey cy yh yl ty 0 w sx 0 1 0 m tx 0:=by
 exact aK2
def aFA(f aj a:Int)(R:Int->Int->Prop)(HC:Hid (∀w',Gr w w'->CT 81 #[J f,J aj,.func (.func 188) #[] #[],Y a,Y a] w' (vS R w'))):
  CT 96 #[J f,J aj,Y a,X E] w (vS R w):=by
 go_enter func96,ntmps96;go_upto_region 2 with(go_at_call 81;refine(HC _ Gr.g).mono ?_;rintro e w1 ⟨z,fl,hr,rfl,ak⟩;have gG:=ak.bG w;have iR:=au gG.1);obtain⟨w2,jA⟩:=dK (w1.alloc (.cells #[Y z,J fl] 100));have aB:Gr w1 w2:=by rw[<-jA];exact(Gr.refl _).alloc _ _
 have x0:w2.cell? ⟨w1.heap.size,0,none⟩=some (Y z):=by rw[<-jA];simp[go_sem]
 have x1:w2.cell? ⟨w1.heap.size,1,none⟩=some (J fl):=by rw[<-jA];simp[go_sem]
 have xz1:dB w2 w1.heap.size 1:=by rw[<-jA];simp[go_sem]
 have lu:w1.heap.size<w2.heap.size:=by rw[<-jA];simp
 rw[jA];clear jA;have jT:=aB.bG w;have X8:Gr w w2:=Gr.g;go_wp2;refine bodyPost_ret (v:=aP z fl) (by simp[results,Tryz.results96,go_sem,jT]) rfl ⟨z,fl,hr,rfl,?_⟩;exact Gr.g
def aFC(f aj a:Int)(R:Int->Int->Prop)(G:Int->Int)(hG:Hid (∀z fl,R z fl->bits .andNot .i64 fl 16=G fl))(HC:Hid (∀w',Gr w w'->CT 81 #[J f,J aj,.func (.func 188) #[] #[],Y a,Y a] w' (vS R w'))):
  CT 96 #[J f,J aj,Y a,X V] w λe w'=>∃z fl,R z fl/\e=O (aP z (G fl))/\Gr w w':=by
 go_enter func96,ntmps96;go_upto_region 2 with(go_at_call 81;refine(HC _ Gr.g).mono ?_;rintro e w1 ⟨z,fl,hr,rfl,ak⟩;have gG:=ak.bG w;have iR:=au gG.1;have aSC:=hG.out z fl hr);obtain⟨w2,jA⟩:=dK (w1.alloc (.cells #[Y z,J fl] 100));have aB:Gr w1 w2:=by rw[<-jA];exact(Gr.refl _).alloc _ _
 have x0:w2.cell? ⟨w1.heap.size,0,none⟩=some (Y z):=by rw[<-jA];simp[go_sem]
 have x1:w2.cell? ⟨w1.heap.size,1,none⟩=some (J fl):=by rw[<-jA];simp[go_sem]
 have xz1:dB w2 w1.heap.size 1:=by rw[<-jA];simp[go_sem]
 have lu:w1.heap.size<w2.heap.size:=by rw[<-jA];simp
 rw[jA];clear jA;have jT:=aB.bG w;have X8:Gr w w2:=Gr.g;go_wp2;refine bodyPost_ret (v:=aP z (G fl)) (by simp[results,Tryz.results96,go_sem,jT]) rfl ⟨z,fl,hr,rfl,?_⟩;exact Gr.g
def Jo(x:dM):Int:=if x.c=1/\iY x=E then 16 else 0
def Oh(p mx one aI sg nan aj:Int)(x:dM)(ex:Bool)(Z fl:Int):Prop:=
 3<=x.c/\Z=nan/\fl=(if x.c=4 then 1 else 0)\/x.c<=2/\bY p (1-mx) mx one aI sg nan aj (sN aj x) Z 0/\fl=(if ex then Jo x else 0)
def lU(f aj a:Int)(ex:Bool)(Z fl:Int):Prop:=
 (∃p mx one aI sg nan x,bD f p mx one aI sg nan/\(0<=aj/\aj<=4)/\dF p mx one aI sg nan a x/\Oh p mx one aI sg nan aj x ex Z fl)\/
 (∃p mx one aI sg nan,bD f p mx one aI sg nan/\(aj<0\/4<aj)/\Z=nan/\fl=1)\/
 (¬(f=0\/f=1)/\Z=9221120237041090560/\fl=1)
def lU.one(h:lU f aj a ex Z fl)(h':lU f aj a ex Z' oP):Z=Z'/\fl=oP:=by
 rcases h with⟨p,mx,one,aI,sg,nan,x,hF,hm,hx,hp⟩|⟨p,mx,one,aI,sg,nan,hF,hm,rfl,rfl⟩|⟨hF,rfl,rfl⟩<;>
 rcases h' with⟨p',wS,pX,ql,EM,pY,x',mG,I_,Nq,Qs⟩|⟨p',wS,pX,ql,EM,pY,mG,I_,rfl,rfl⟩|⟨mG,rfl,rfl⟩
 .obtain⟨rfl,rfl,rfl,rfl,rfl,rfl⟩:=hF.one mG;obtain rfl:=hx.one hF Nq;rcases hp with⟨c,rfl,rfl⟩|⟨c,hp,rfl⟩<;>rcases Qs with⟨c',rfl,rfl⟩|⟨c',Qs,rfl⟩
  .exact⟨rfl,rfl⟩
  .exfalso;omega
  .exfalso;omega
  .exact⟨(bY.one hp Qs).1,rfl⟩
 .exfalso;omega
 .exact absurd hF.yes.symm (by simp[mG])
 .exfalso;omega
 .obtain⟨rfl,rfl,rfl,rfl,rfl,rfl⟩:=hF.one mG;exact⟨rfl,rfl⟩
 .exact absurd hF.yes.symm (by simp[mG])
 .exact absurd mG.yes.symm (by simp[hF])
 .exact absurd mG.yes.symm (by simp[hF])
 .exact⟨rfl,rfl⟩
def lH{x:dM}(h:¬(x.c=1/\x.e<0)):sN aj x=x:=by unfold sN;rw[if_neg h]
def yL{one a:Int}(hF:bD f p mx one aI sg nan){x:dM}(h:¬(x.c=1/\x.e<0)):Jo x=0:=by
 unfold Jo;by_cases c:x.c=1
 .rw[ET (x:=x) om,if_neg (by simp)]
 .rw[if_neg (λh=>c h.1)]
def QV(x:dM):Jo x=0\/Jo x=16:=by unfold Jo;split<;>simp
def aMM(x:dM):bits .or .i64 0 (Jo x)=Jo x:=by rcases QV x with h|h<;>rw[h]<;>decide+kernel
def pK{one:Int}(hF:bD f p mx one aI sg nan){x:dM}(hx:dF p mx one aI sg nan a x)(aj:Int)(c:x.c=1)(e:x.e<0):
  ((bV aj x:Nat):Int)<=one/\(bV aj x=0->bY p (1-mx) mx one aI sg nan aj (sN aj x) (sw x.s sg 0) 0)/\
  (0<bV aj x->∃z,(∀md,bH p (1-mx) mx one aI md x.s (bV aj x) 0 V z 0)/\bY p (1-mx) mx one aI sg nan aj (sN aj x) (sw x.s sg z) 0):=by
 obtain⟨P,hP,aJu,AQ⟩:=hF.pow;have Qu:one=((2^P:Nat):Int):=by rw[Ai];exact AQ
 have hM:x.M<2^(P+1):=by
  have hb:=hF.bounds;rcases hx with⟨_,hu⟩|⟨_,rfl⟩
  .obtain⟨h1,h2,h3,h4,h5,h6,h7,h8,h9⟩:=qE hF hu;rw[Nat.pow_succ];omega
  .cases c
 have hl:=aBL (aj:=aj) e hM;have hw:sN aj x=if bV aj x=0 then⟨0,x.s,0,0⟩else⟨1,x.s,0,bV aj x⟩:=by unfold sN;rw[if_pos ⟨c,e⟩]
 refine⟨om,λh0=>?_,λh0=>?_⟩
 .rw[hw,if_pos h0];exact .inl ⟨rfl,rfl,rfl⟩
 .obtain⟨z,z0,z1,hz⟩:=Ur hF x.s (bV aj x) h0 om;refine⟨z,hz,?_⟩;rw[hw,if_neg (by omega)];exact .inr (.inl ⟨rfl,z,hz aj,rfl⟩)
def aB4(m:Int)(h3:3<=m)(h4:m<=4):pG ⟨m,0,0,0⟩ 0 0 m 0 0 V:=⟨0,by simp,by simp,Same.self ⟨m,0,0,0⟩ (λc=>by dsimp only at c;omega),om,om,λc=>om⟩
def PI{one:Int}(hF:bD f p mx one aI sg nan)(aj:Int)(hm:0<=aj/\aj<=4)(a0:0<=a)(a1:aG a){x:dM}(hx:dF p mx one aI sg nan a x)(hw:Fm w):
  CT 81 #[J f,J aj,.func (.func 188) #[] #[],Y a,Y a] w λe w'=>∃z fl,Oh p mx one aI sg nan aj x E z fl/\e=O (aP z fl)/\Gr w w':=by
 obtain⟨mn,fb,sp,hM,zU,PD⟩:=hF.m;obtain⟨k,hk⟩:=kW aj hm.1 hm.2;obtain⟨x',Nq,HA⟩:=jf hF hM a a0 a1;obtain rfl:=hx.one hF Nq;obtain⟨v1,v2,v3,v4,v5,v6⟩:=bK hF hx;have hb:=hF.bounds;have xc0:=v1.c0;have xc4:=v1.c4;refine wL p mn mx aj f k 188 a a _ _ _ _ _ _ _ _ _ _ _ _ (λaT dL=>dV hF hM aj k (λw=>gW aj k hk w) (hw.gr dL)) HA HA
  (λos oe oc oh ol ot of=>3<=x.c/\pG ⟨x.c,0,0,0⟩ os oe oc oh ol ot/\of=0\/x.c<=2/\¬(x.c=1/\x.e<0)/\pG x os oe oc oh ol ot/\of=0\/(x.c=1/\x.e<0)/\os=x.s/\oe=0/\oc=1/\oh=0/\ol=((bV aj x:Nat):Int)/\ot=V/\of=Jo x)
  (λw=>?_) _ (λos oe oc oh ol ot of w hq=>?_)
 .by_cases cn:3<=x.c
  .refine(jG p mn mx aj k _ _ _ _ _ _ _ _ _ _ _ _ _ x.c om cn w).mono ?_;rintro e w' ⟨rfl,hg⟩;exact⟨_,_,_,_,_,_,_,.inl ⟨cn,aB4 _ cn xc4,rfl⟩,rfl,hg⟩
  .refine yt p mn mx aj k _ _ _ _ _ _ _ _ _ _ _ _ x.c om om _ (λw=>?_) w;by_cases c:x.c=1
   .by_cases e:x.e<0
    .have hl:=(pK hF hx aj c e).1;have HR:∀b:Bool,decide (0<bg x.M x.e 0 V)=b->Jj k (0-x.e) x.s ((x.M/18446744073709551616:Nat):Int) ((x.M%18446744073709551616:Nat):Int) V ((bV aj x:Nat):Int) b:=λb AV w=>AV▸uw aj k hk x.s v1.jM x.M om x.e 0 (0-x.e) V rfl om om (λ_=>rfl) (by
       have h1:=(kQ aj x.s (dw x.M x.e 0) (bg x.M x.e 0 V)).1;unfold bV at hl;omega) w
     have hn:wrap64 (-x.e)=0-x.e:=by
      rw[(om:-x.e=0-x.e)];unfold wrap64;omega
     have ce:decide (0<=x.e)=V:=jl;by_cases hh:0<bg x.M x.e 0 V
     .refine(PV p mn mx aj k _ _ _ _ _ _ _ _ _ _ _ _ (0-x.e) _ c ce hn (HR E (by simp[hh])) w).mono ?_;rintro r w' ⟨rfl,hg⟩;exact⟨_,_,_,_,_,_,_,.inr (.inr ⟨⟨c,e⟩,rfl,rfl,rfl,rfl,rfl,rfl,by unfold Jo iY;rw[if_pos ⟨c,by simp[hh]⟩]⟩),rfl,hg⟩
     .refine(PW p mn mx aj k _ _ _ _ _ _ _ _ _ _ _ _ (0-x.e) _ c ce hn (HR V (by simp[hh])) w).mono ?_;rintro r w' ⟨rfl,hg⟩;exact⟨_,_,_,_,_,_,_,.inr (.inr ⟨⟨c,e⟩,rfl,rfl,rfl,rfl,rfl,rfl,by unfold Jo iY;rw[if_neg (by simp[hh])]⟩),rfl,hg⟩
    .refine(PX p mn mx aj k _ _ _ _ _ _ _ _ _ _ _ _ c jl w).mono ?_;rintro r w' ⟨rfl,hg⟩;exact⟨_,_,_,_,_,_,_,.inr (.inl ⟨om,λh=>e h.2,c▸v1.same,rfl⟩),rfl,hg⟩
   .refine(EU p mn mx aj k _ _ _ _ _ _ _ _ _ _ _ _ (by simp[c]) w).mono ?_;rintro r w' ⟨rfl,hg⟩;exact⟨_,_,_,_,_,_,_,.inr (.inl ⟨om,λh=>c h.1,v1.same,rfl⟩),rfl,hg⟩
 .rcases hq with⟨cn,hs,rfl⟩|⟨c2,hn,hs,rfl⟩|⟨⟨c,e⟩,rfl,rfl,rfl,rfl,rfl,rfl,rfl⟩
  .refine(oz hM aj k hk _ os oe oc oh ol ot hs w).mono ?_;rintro r w' ⟨Z,fl,hp,rfl,hg⟩;refine⟨Z,fl,.inl ⟨cn,?_⟩,rfl,hg⟩;rcases hp with⟨d,_⟩|⟨d,_⟩|⟨d,_⟩|⟨d,rfl,rfl⟩|⟨d,rfl,rfl⟩<;>dsimp only at d
   .omega
   .omega
   .omega
   .exact⟨rfl,by rw[if_neg (by omega)]⟩
   .exact⟨rfl,by rw[if_pos d]⟩
  .refine(oz hM aj k hk _ os oe oc oh ol ot hs w).mono ?_;rintro r w' ⟨Z,fl,hp,rfl,hg⟩;rw[zU]at hp;obtain⟨rfl,rfl⟩:=bY.one hp (ou hF a0 hx c2 aj);refine⟨_,_,.inr ⟨c2,?_,?_⟩,rfl,hg⟩
   .rw[lH hn];exact hp
   .rw[yL (a:=Z) hF hn];rfl
  .obtain⟨hl,lF,iR⟩:=pK hF hx aj c e;refine(aA4 p mn mx aj k x.s 0 0 ((bV aj x:Nat):Int) V (Jo x) (λz fl=>bY p (1-mx) mx one aI sg nan aj (sN aj x) z 0/\fl=0) (λ_=>Jo x) (λz fl h=>by rw[h.2];exact aMM x) (λw=>?_) w).mono ?_
   .rcases Nat.eq_zero_or_pos (bV aj x)with h0|h0
    .rw[h0];refine(RQ hM aj k x.s 0 V om om (sw x.s sg 0) (λw=>mV hM x.s _ ?_ w) w).mono ?_
     .rcases v1.jM with h|h<;>rw[h]
      .exact .inl ⟨rfl,by simp[sw]⟩
      .exact .inr ⟨rfl,by simp[sw]⟩
     .rintro r w' ⟨rfl,hg⟩;exact⟨_,_,⟨lF h0,rfl⟩,rfl,hg⟩
    .obtain⟨z,hr,hp⟩:=iR h0;have:=zJ hM aj aj k hk x.s v1.jM 0 om om (bV aj x) h0 om V (λh=>by cases h) w;rw[(om:bV aj x/18446744073709551616=0),(om:bV aj x%18446744073709551616=bV aj x)]at this;refine this.mono ?_;rintro r w' ⟨z',fl,hr',rfl,hg⟩;rw[zU]at hr';obtain⟨rfl,rfl⟩:=bH.one hr' (hr aj);exact⟨_,_,⟨by rw[aAV];exact hp,rfl⟩,rfl,hg⟩
   .rintro r w' ⟨z,fl,⟨hp,rfl⟩,rfl,hg⟩;exact⟨_,_,.inr ⟨om,hp,by rw[if_pos rfl]⟩,rfl,hg⟩
def aHP(h:fl=0\/fl=1\/fl=16):bits .andNot .i64 fl 16=if fl=16 then 0 else fl:=by rcases h with rfl|rfl|rfl<;>decide+kernel
def wF(f aj a:Int)(ex:Bool)(a0:0<=a)(a1:aG a)(w:World)(hw:Fm w):
  CT 96 #[J f,J aj,Y a,X ex] w λe w'=>∃Z fl,lU f aj a ex Z fl/\e=O (aP Z fl)/\Gr w w':=by
 have bad:∀(nan:Int),lU f aj a ex nan 1->(∀w',Gr w w'->QR 81 #[J f,J aj,.func (.func 188) #[] #[],Y a,Y a] w' (aP nan 1))->CT 96 #[J f,J aj,Y a,X ex] w λe w'=>∃Z fl,lU f aj a ex Z fl/\e=O (aP Z fl)/\Gr w w':=by
  intro nan hR HC;have Yb:Hid (∀w',Gr w w'->CT 81 #[J f,J aj,.func (.func 188) #[] #[],Y a,Y a] w' λe aT=>∃z fl,(z=nan/\fl=1)/\e=O (aP z fl)/\Gr w' aT):=λw' hg=>(HC w' hg).mono (λe aT ⟨h1,h2⟩=>⟨nan,1,⟨rfl,rfl⟩,h1,h2⟩);cases ex
  .refine(aFC f aj a _ (λ_=>1) (λz fl h=>by rw[h.2];decide+kernel) Yb).mono ?_;rintro e w' ⟨z,fl,⟨rfl,rfl⟩,rfl,hg⟩;exact⟨_,_,hR,rfl,hg⟩
  .refine(aFA f aj a _ Yb).mono ?_;rintro e w' ⟨z,fl,⟨rfl,rfl⟩,rfl,hg⟩;exact⟨_,_,hR,rfl,hg⟩
 by_cases hf:f=0\/f=1
 .obtain⟨p,mx,one,aI,sg,nan,hF⟩:=eX f hf;obtain⟨mn,fb,sp,hM,zU,PD⟩:=hF.m;by_cases hm:0<=aj/\aj<=4
  .obtain⟨x,hx⟩:=eu hF a a0 a1;have HC:Hid (∀w',Gr w w'->CT 81 #[J f,J aj,.func (.func 188) #[] #[],Y a,Y a] w' λe aT=>∃z fl,Oh p mx one aI sg nan aj x E z fl/\e=O (aP z fl)/\Gr w' aT):=λw' hg=>PI hF aj hm a0 a1 hx (hw.gr hg);have hfl:∀z fl,Oh p mx one aI sg nan aj x E z fl->fl=0\/fl=1\/fl=16:=by
    rintro z fl (⟨_,_,rfl⟩|⟨_,_,rfl⟩)
    .split<;>simp
    .rw[if_pos rfl];rcases QV x with h|h<;>simp[h]
   cases ex
   .refine(aFC f aj a _ (λfl=>if fl=16 then 0 else fl) (λz fl h=>aHP (hfl z fl h)) HC).mono ?_;rintro e w' ⟨z,fl,h,rfl,hg⟩;refine⟨_,_,.inl ⟨p,mx,one,aI,sg,nan,x,hF,hm,hx,?_⟩,rfl,hg⟩;rcases h with⟨c,rfl,rfl⟩|⟨c,hp,rfl⟩
    .exact .inl ⟨c,rfl,by split<;>simp⟩
    .refine .inr ⟨c,hp,?_⟩;rw[if_pos rfl];rcases QV x with h|h<;>simp[h]
   .refine(aFA f aj a _ HC).mono ?_;rintro e w' ⟨z,fl,h,rfl,hg⟩;exact⟨_,_,.inl ⟨p,mx,one,aI,sg,nan,x,hF,hm,hx,h⟩,rfl,hg⟩
  .exact bad nan (.inr (.inl ⟨p,mx,one,aI,sg,nan,hF,om,rfl,rfl⟩)) (λw' hg=>j_ p mn mx aj nan f aj a a (λaT dL=>gJ hF hM aj (λw=>jR aj om w) (hw.gr (hg.trans dL))) (λw=>dh hM w) 188)
 .exact bad _ (.inr (.inr ⟨hf,rfl,rfl⟩)) (λw' hg=>j_ _ _ _ _ _ f aj a a (λaT dL=>dP f aj hf (hw.gr (hg.trans dL))) (λw=>dh m64 w) 188)
def IZ{one:Int}(hF:bD f p mx one aI sg nan){x:dM}(hx:dF p mx one aI sg nan a x)(aj:Int)(hm:0<=aj/\aj<=4)(b k c:Nat)(w:World)(hB:aH 2 w (aC b k c) x.M):
  CT 157 #[J aj,.agg #[J x.s,aC b k c,J x.e,X V]] w λe w'=>∃b k c,aH 70005 w' (aC b k c) (bV aj x)/\e=O (.tuple #[aC b k c,X (!iY x)])/\Gb w w':=by
 obtain⟨v1,v2,v3,v4,v5,v6⟩:=bK hF hx;refine SL aj x.s x.e x.M (dw x.M x.e 0) (bV aj x) ((bg x.M x.e 0 V:Nat):Int) (!iY x) ?_ _ w (λw' hg=>?_) (λv' w' hb=>?_) b k c rfl
 .unfold iY;rcases Nat.eq_zero_or_pos (bg x.M x.e 0 V)with h|h
  .rw[h];rfl
  .rw[decide_eq_true h];simp;omega
 .obtain⟨n,hn,hb⟩:=aH.gb hB hg;refine(FD hb om x.s x.e 0 V om om om om).mono ?_;rintro r aT ⟨v',k',rfl,AV,C_,dL⟩;obtain⟨b',c',rfl,_⟩:=AV.shape;exact⟨b',k',c',⟨k',om,AV⟩,rfl,dL⟩
 .obtain⟨n,hn,hb⟩:=hb;exact dY ((DX hb om aj x.s (bg x.M x.e 0 V) hm.1 hm.2 v1.jM (iy _ _ _ _)).mono (λe w' ⟨v,k,c1,c2,c3,c4⟩=>⟨v,k,c1,c2,om,c4⟩))
def vO(f aj a:Int)(ex:Bool)(a0:0<=a)(a1:aG a)(w:World):
  CT 71 #[J f,J aj,Y a,X ex] w λe w'=>∃Z fl,lU f aj a ex Z fl/\e=O (aP Z fl)/\Gb w w':=by
 by_cases hf:f=0\/f=1
 .obtain⟨p,mx,one,aI,sg,nan,hF⟩:=eX f hf;by_cases hm:0<=aj/\aj<=4
  .obtain⟨x,hx⟩:=eu hF a a0 a1;obtain⟨v1,v2,v3,v4,v5,v6⟩:=bK hF hx;have xc0:=v1.c0;have xc4:=v1.c4;have fin:∀Z fl,Oh p mx one aI sg nan aj x ex Z fl->(BA f aj a ex w Z fl)->CT 71 #[J f,J aj,Y a,X ex] w λe w'=>∃Z fl,lU f aj a ex Z fl/\e=O (aP Z fl)/\Gb w w':=λZ fl hp h=>h.mono (λe w' ⟨h1,h2⟩=>⟨Z,fl,.inl ⟨p,mx,one,aI,sg,nan,x,hF,hm,hx,hp⟩,h1,h2⟩);by_cases fa:a<2*sg
   .have yK:oI f aj a E:=λw=>jK hF aj a a hm.1 hm.2 a0 fa a0 fa w;have HU:=iH hF a a0 fa hx;have HQ:∀(b:Bool),b=decide (3<=x.c)->bQ x.c x.s x.e (((x.M:Nat):Int)) b:=λb hb w=>iF _ _ _ _ b hb w;by_cases cn:3<=x.c
    .refine fin nan (if decide (x.c=4)then 1 else 0) (.inl ⟨cn,rfl,by simp⟩) (aB9 f aj a _ _ _ _ nan _ (decide (x.c=4)) ex yK HU (HQ E (by simp[cn])) (bq _ _) (λw=>lZ hF _ _ rfl w) w)
    .have hQ:=HQ V jl;by_cases hn:x.c=1/\x.e<0
     .obtain⟨c,e⟩:=hn;obtain⟨hl,lF,iR⟩:=pK hF hx aj c e;have hb:=hF.bounds;have HN:Hid (∀w,CT 144 #[d_ x.c x.s x.e (((x.M:Nat):Int))] w λe w'=>∃b k cc,aH 2 w' (aC b k cc) x.M/\e=O (.agg #[J x.s,aC b k cc,J x.e,X V])/\Gb w w'):=λw=>lY _ _ _ x.M om w;have HW:Hid (∀b k c w,aH 2 w (aC b k c) x.M->CT 157 #[J aj,.agg #[J x.s,aC b k c,J x.e,X V]] w λe w'=>∃b k c,aH 70005 w' (aC b k c) (bV aj x)/\e=O (.tuple #[aC b k c,X (!iY x)])/\Gb w w'):=λb k c w hB=>IZ hF hx aj hm b k c w hB;have HZ:yG f x.s (sw x.s sg 0) 0:=λw=>jJ hF x.s v1.jM w;have ce:decide (0<=x.e)=V:=jl;have hfl:∀b:Bool,iY x=b->Jo x=if b then 16 else 0:=by
       intro b AV;unfold Jo;rw[AV];cases b
       .rw[if_neg (by simp)];rfl
       .rw[if_pos ⟨c,rfl⟩];rfl
      rcases Nat.eq_zero_or_pos (bV aj x)with h0|h0
      .have hp:=lF h0;cases ex
       .exact fin _ 0 (.inr ⟨om,hp,rfl⟩) (aFk f aj a _ _ _ _ _ x.M (bV aj x) V (!iY x) rfl h0 yK HU hQ c ce HN HW HZ w)
       .cases AV:iY x
        .refine fin _ 0 (.inr ⟨om,hp,by rw[if_pos rfl,hfl _ AV];rfl⟩) (aFj f aj a _ _ _ _ _ x.M (bV aj x) E (!iY x) ⟨rfl,by rw[AV];rfl⟩ h0 yK HU hQ c ce HN HW HZ w)
        .refine fin _ 16 (.inr ⟨om,hp,by rw[if_pos rfl,hfl _ AV];rfl⟩) (aFi f aj a _ _ _ _ _ x.M (bV aj x) E (!iY x) ⟨rfl,by rw[AV];rfl⟩ h0 yK HU hQ c ce HN HW HZ w)
      .obtain⟨z,hr,hp⟩:=iR h0;have HR:Hid (∀v w,aH 70005 w v (bV aj x)->QB 138 #[J f,J 0,.agg #[J x.s,v,J 0,X V]] w (aP (sw x.s sg z) 0)):=λv w hB=>(mW hF 0 om om ⟨1,x.s,0,bV aj x⟩ rfl v1.jM h0 (by dsimp only;omega) (by dsimp only;omega) 70005 om v w hB).mono (by
         rintro e w' ⟨Z,fl,hpk,rfl,hg⟩;rcases hpk with⟨d,_⟩|⟨d,z',hz',rfl⟩|⟨d,_⟩|⟨d,_⟩|⟨d,_⟩<;>dsimp only at d
         .omega
         .obtain⟨rfl,rfl⟩:=bH.one hz' (hr 0);exact⟨rfl,hg⟩
         .omega
         .omega
         .omega)
       cases ex
       .exact fin _ 0 (.inr ⟨om,hp,rfl⟩) (aFh f aj a _ _ _ _ _ _ x.M (bV aj x) V (!iY x) rfl h0 yK HU hQ c ce HN HW HZ HR w)
       .cases AV:iY x
        .refine fin _ 0 (.inr ⟨om,hp,by rw[if_pos rfl,hfl _ AV];rfl⟩) (aFg f aj a _ _ _ _ _ _ x.M (bV aj x) E (!iY x) ⟨rfl,by rw[AV];rfl⟩ h0 yK HU hQ c ce HN HW HZ HR w)
        .refine fin _ 16 (.inr ⟨om,hp,by rw[if_pos rfl,hfl _ AV];rfl⟩) (aFf f aj a _ _ _ _ _ _ x.M (bV aj x) E (!iY x) ⟨rfl,by rw[AV];rfl⟩ h0 yK HU hQ c ce HN HW HZ HR w)
     .have hp:Oh p mx one aI sg nan aj x ex a 0:=.inr ⟨om,by rw[lH hn];exact ou hF a0 hx om aj,by rw[yL (a:=a) hF hn];split<;>rfl⟩;by_cases c:x.c=1
      .exact fin a 0 hp (aIu f aj a _ _ _ _ ex yK HU hQ c jl w)
      .exact fin a 0 hp (aIv f aj a _ _ _ _ ex yK HU hQ c w)
   .refine fin nan 1 ?_ (EY f aj a nan 1 ex (λw=>eG f aj a a a0 a1 a0 a1 (qP hF a1 a1 om) w) (λw=>cO hF w) w);have:=jd hF hx (by omega);subst this;exact .inl ⟨de,rfl,rfl⟩
  .refine(EY f aj a nan 1 ex (λw=>eG f aj a a a0 a1 a0 a1 (.inl om) w) (λw=>cO hF w) w).mono ?_;rintro e w' ⟨rfl,hg⟩;exact⟨_,_,.inr (.inl ⟨p,mx,one,aI,sg,nan,hF,om,rfl,rfl⟩),rfl,hg⟩
 .refine(EY f aj a _ 1 ex (λw=>eG f aj a a a0 a1 a0 a1 (.inr (.inl hf)) w) (λw=>lN f hf w) w).mono ?_;rintro e w' ⟨rfl,hg⟩;exact⟨_,_,.inr (.inr ⟨hf,rfl,rfl⟩),rfl,hg⟩
def RU(f aj a:Int)(ex:Bool)(a0:0<=a)(a1:aG a):∃Z fl,lU f aj a ex Z fl:=by
 by_cases hf:f=0\/f=1
 .obtain⟨p,mx,one,aI,sg,nan,hF⟩:=eX f hf;by_cases hm:0<=aj/\aj<=4
  .obtain⟨x,hx⟩:=eu hF a a0 a1;have v1:=(bK hF hx).1;have:=v1.c0;have fin:∀Z fl,Oh p mx one aI sg nan aj x ex Z fl->∃Z fl,lU f aj a ex Z fl:=λZ fl h=>⟨Z,fl,.inl ⟨p,mx,one,aI,sg,nan,x,hF,hm,hx,h⟩⟩;by_cases cn:3<=x.c
   .exact fin _ _ (.inl ⟨cn,rfl,rfl⟩)
   .by_cases hn:x.c=1/\x.e<0
    .obtain⟨_,h0,h1⟩:=pK hF hx aj hn.1 hn.2;rcases Nat.eq_zero_or_pos (bV aj x)with h|h
     .exact fin _ _ (.inr ⟨om,h0 h,rfl⟩)
     .obtain⟨z,_,hp⟩:=h1 h;exact fin _ _ (.inr ⟨om,hp,rfl⟩)
    .exact fin a _ (.inr ⟨om,by rw[lH hn];exact ou hF a0 hx om aj,rfl⟩)
  .exact⟨_,_,.inr (.inl ⟨p,mx,one,aI,sg,nan,hF,om,rfl,rfl⟩)⟩
 .exact⟨_,_,.inr (.inr ⟨hf,rfl,rfl⟩)⟩
def aCM(f aj a:Int)(ex:Bool)(a0:0<=a)(a1:aG a):
  ∃Z fl:Int,lU f aj a ex Z fl/\(∀w,BA f aj a ex w Z fl)/\
   (∀w,Fm w->QR 96 #[J f,J aj,Y a,X ex] w (aP Z fl)):=
 Es (λ_ _ _ _ h h'=>lU.one h h') (RU f aj a ex a0 a1) (vO f aj a ex a0 a1) (wF f aj a ex a0 a1)
def Em(p mn mx md:Int)(k:Nat)(sx ex cx xh xl sy ey cy yh yl:Int)(tx ty:Bool)(m:Int)(hm:max cx cy=m)(h3:m<3)(Q:Int->Int->Int->Int->Int->Bool->Int->Prop)(HO:Hid (∀w,CT 90 #[dN p mn mx md k,aU sx ex cx xh xl tx 0,aU sy ey cy yh yl ty 0] w λe w'=>∃os oe oc oh ol ot of,Q os oe oc oh ol ot of/\e=O (aU os oe oc oh ol ot of)/\Gr w w'))(w:World):
  CT 173 #[dN p mn mx md k,.func (.func 90) #[] #[],aU sx ex cx xh xl tx 0,aU sy ey cy yh yl ty 0] w λe w'=>∃os oe oc oh ol ot of,Q os oe oc oh ol ot of/\e=O (aU os oe oc oh ol ot of)/\Gr w w':=by
 go_enter func173,ntmps173;go_wp2_with (go_at_call 90;refine(HO _).mono ?_;rintro e w1 ⟨os,oe,oc,oh,ol,ot,of,hq,rfl,ak⟩;have gG:=ak.nY w);exact aEx
def ZO(f a b:Int)(R:Int->Int->Prop)(HC:Hid (∀w',Gr w w'->CT 81 #[J f,J 0,.func (.func 90) #[] #[],Y a,Y b] w' (vS R w'))):
  CT 34 #[J f,Y a,Y b] w (vS R w):=by
 go_enter func34,ntmps34;go_wp2_with (go_at_call 81;refine(HC _ Gr.g).mono ?_;rintro e w1 ⟨z,fl,hr,rfl,ak⟩;have gG:=ak.bG w);refine bodyPost_ret (v:=aP z fl) (by simp[results,Tryz.results34,go_sem,gG]) rfl ⟨z,fl,hr,rfl,?_⟩;exact Gr.g
