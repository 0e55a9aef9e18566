import Derived.Test.YthoelefkjpjhfaaGreatDoorL3JA
import Derived.Test.YthoelefkjpjhfaaGreatDoorL3JB
import Derived.Test.YthoelefkjpjhfaaGreatDoorK6
import Derived.Test.YthoelefkjpjhfaaGreatDoorTv
set_option linter.all false
open Bool renaming false → V, true → E
open Go.Proofs.YthoelefkjpjhfaaGreatDoor renaming vI → J, vU → Y
open Go.Ending renaming returned → O
open Go.Value renaming bool → X
open Go.Proofs.Tryz
namespace Go.Proofs.YthoelefkjpjhfaaGreatDoor
open Go.RowKit
attribute [local go_sem] dL
variable {w:ak}{f a p mx aN sg nan aj fl Z Z' qQ:Int}{ex:Bool}
def zH(p mn mx md:Int)(k:Nat)(sx ex mh ml sy ey nh nl ax Ah Al ay Bh Bl:Int)(b:Bool)(gs ga Gh Gl ls la Lh Ll dz Qh Ql os oe oc oh ol:Int)(nI ost:Bool)
  (HLx:KT sx ex 1 mh ml V 0 ax Ah Al) (HLy:KT sy ey 1 nh nl V 0 ay Bh Bl) (VY:KR 243 #[bP sx ax 1 Ah Al V 0,bP sy ay 1 Bh Bl V 0] (X b))
  (Dk:b=V/\sx=gs/\ax=ga/\Ah=Gh/\Al=Gl/\sy=ls/\ay=la/\Bh=Lh/\Bl=Ll\/b=E/\sy=gs/\ay=ga/\Bh=Gh/\Bl=Gl/\sx=ls/\ax=la/\Ah=Lh/\Al=Ll) (FP:IntKind.i64.wrap (ga-la)=dz) (QA:wH Lh Ll dz Qh Ql nI)
  (YH:(gs=ls/\Hid (∀w,CT 245 #[aS Gh Gl,aS Qh Ql] w λx w'=>∃b',x=O (.tuple #[aS oh ol,X b'])/\Gr w w')/\gs=os/\ga=oe/\1=oc/\nI=ost)\/((gs==ls)=V/\nI=E/\(∃Th Tl:Int,Hid (∀w,CT 245 #[aS Qh Ql,aS 0 1] w λx w'=>∃b',x=O (.tuple #[aS Th Tl,X b'])/\Gr w w')/\Hid (∀w,CT 246 #[aS Gh Gl,aS Th Tl] w λx w'=>∃b',x=O (.tuple #[aS oh ol,X b'])/\Gr w w'))/\(oh==0&&ol==0)=V/\gs=os/\ga=oe/\1=oc/\E=ost)\/((gs==ls)=V/\nI=V/\Hid (∀w,CT 246 #[aS Gh Gl,aS Qh Ql] w λx w'=>∃b',x=O (.tuple #[aS oh ol,X b'])/\Gr w w')/\(oh==0&&ol==0)=V/\gs=os/\ga=oe/\1=oc/\V=ost)\/((gs==ls)=V/\nI=V/\Hid (∀w,CT 246 #[aS Gh Gl,aS Qh Ql] w λx w'=>∃b',x=O (.tuple #[aS 0 0,X b'])/\Gr w w')/\KR 176 #[eu p mn mx md k] (bP os oe oc oh ol ost 0))) (w:ak):
  QR 175 #[eu p mn mx md k,bP sx ex 1 mh ml V 0,bP sy ey 1 nh nl V 0] w (bP os oe oc oh ol ost 0):=by
 rcases Dk with h|h
 .exact aJw p mn mx md k sx ex mh ml sy ey nh nl ax Ah Al ay Bh Bl b gs ga Gh Gl ls la Lh Ll dz Qh Ql os oe oc oh ol nI ost HLx HLy VY h FP QA YH w
 .exact aJv p mn mx md k sx ex mh ml sy ey nh nl ax Ah Al ay Bh Bl b gs ga Gh Gl ls la Lh Ll dz Qh Ql os oe oc oh ol nI ost HLx HLy VY h FP QA YH w
def Wn(R:Nat)(h:0<R):(((R/18446744073709551616:Nat):Int)==0&&((R%18446744073709551616:Nat):Int)==0)=V:=by
 rw[Bool.and_eq_false_iff];by_cases c:R/18446744073709551616=0
 .right;simp;omega
 .left;simp;omega
def aSn(Q:Nat)(h:Q+1<340282366920938463463374607431768211456)(w:ak):
  CT 245 #[iK Q,aS 0 1] w λe w'=>∃b,e=O (.tuple #[iK (Q+1),X b])/\Gr w w':=by
 exact aSm Q 1 om om h w
def X8(md:Int):Same (Q9 md) 0 (if md=4 then 1 else 0) 0 0 V:=⟨rfl,λ_=>rfl,λh=>by cases h⟩
def Nz(p mn mx md:Int)(k:Nat)(x y g l:d_)(hx:VO x)(hy:VO y)(cx:x.c=1)(cy:y.c=1)(b:Bool)
  (hb:b=decide (x.e-(127-nb x.M:Nat)<y.e-(127-nb y.M:Nat)\/x.e-(127-nb x.M:Nat)=y.e-(127-nb y.M:Nat)/\x.M*2^(127-nb x.M)<y.M*2^(127-nb y.M)))
  (hgl:b=V/\g=x/\l=y\/b=E/\g=y/\l=x) (w:ak):
  CT 175 #[eu p mn mx md k,iP x.s x.e 1 x.M V 0,iP y.s y.e 1 y.M V 0] w λr w'=>∃(c s e:Int) (M:Nat) (st:Bool),Same (zI md g l) c s e M st/\r=O (iP s e c M st 0)/\Gr w w':=by
 obtain⟨fx0,fxn⟩:=hx.fin cx;obtain⟨fy0,fyn⟩:=hy.fin cy;have aVU:=hx.e0;have aVT:=hx.e1;have aVS:=hy.e0;have aVR:=hy.e1;have HLx:KT x.s x.e 1 (((x.M/18446744073709551616:Nat):Int)) (((x.M%18446744073709551616:Nat):Int)) V 0 (x.e-(127-nb x.M:Nat)) (((x.M*2^(127-nb x.M)/18446744073709551616:Nat):Int)) (((x.M*2^(127-nb x.M)%18446744073709551616:Nat):Int)):=λw=>OV x.s x.e 1 x.M V fx0 fxn om om w;have HLy:KT y.s y.e 1 (((y.M/18446744073709551616:Nat):Int)) (((y.M%18446744073709551616:Nat):Int)) V 0 (y.e-(127-nb y.M:Nat)) (((y.M*2^(127-nb y.M)/18446744073709551616:Nat):Int)) (((y.M*2^(127-nb y.M)%18446744073709551616:Nat):Int)):=λw=>OV y.s y.e 1 y.M V fy0 fyn om om w;obtain⟨bx1,bx2⟩:=nJ x.M fx0 fxn;obtain⟨Zf,by2⟩:=nJ y.M fy0 fyn;have VY:KR 243 #[iP x.s (x.e-(127-nb x.M:Nat)) 1 (x.M*2^(127-nb x.M)) V 0,iP y.s (y.e-(127-nb y.M:Nat)) 1 (y.M*2^(127-nb y.M)) V 0] (X b):=λw=>U9 x.s _ 1 y.s _ 1 _ _ V V b om om hb w;have hg0:0<g.M/\nb g.M<=106/\-5000<=g.e/\g.e<=5000:=by rcases hgl with⟨_,rfl,rfl⟩|⟨_,rfl,rfl⟩<;>exact⟨by assumption,by assumption,by assumption,by assumption⟩
 have hl0:0<l.M/\nb l.M<=106/\-5000<=l.e/\l.e<=5000:=by rcases hgl with⟨_,rfl,rfl⟩|⟨_,rfl,rfl⟩<;>exact⟨by assumption,by assumption,by assumption,by assumption⟩
 obtain⟨g0,gn,ge0,ge1⟩:=hg0;obtain⟨l0,ln,le0,le1⟩:=hl0;obtain⟨bg1,bg2⟩:=nJ g.M g0 gn;obtain⟨bl1,bl2⟩:=nJ l.M l0 ln
 --the order
 have aRj:l.e-(127-nb l.M:Nat)<=g.e-(127-nb g.M:Nat)/\(l.e-(127-nb l.M:Nat)=g.e-(127-nb g.M:Nat)->l.M*2^(127-nb l.M)<=g.M*2^(127-nb g.M)):=by
  rcases hgl with⟨rfl,rfl,rfl⟩|⟨rfl,rfl,rfl⟩
  .have:=of_decide_eq_false hb.symm;refine⟨om,λe=>?_⟩;omega
  .have:=of_decide_eq_true hb.symm;refine⟨om,λe=>?_⟩;omega
 obtain⟨d,hd⟩:∃d:Nat,(d:Int)=(g.e-(127-nb g.M:Nat))-(l.e-(127-nb l.M:Nat)):=⟨((g.e-(127-nb g.M:Nat))-(l.e-(127-nb l.M:Nat))).toNat,om⟩;obtain⟨T1,T2,T3⟩:=aGh md g l _ _ d _ _ g0 gn l0 ln rfl rfl rfl rfl hd (λh0=>aRj.2 om) ⟨om,om⟩;have Dk:∀gs ga Gh Gl ls la Lh Ll:Int,gs=g.s->ga=g.e-(127-nb g.M:Nat)->Gh=((g.M*2^(127-nb g.M)/18446744073709551616:Nat):Int)->Gl=((g.M*2^(127-nb g.M)%18446744073709551616:Nat):Int)->ls=l.s->la=l.e-(127-nb l.M:Nat)->Lh=((l.M*2^(127-nb l.M)/18446744073709551616:Nat):Int)->Ll=((l.M*2^(127-nb l.M)%18446744073709551616:Nat):Int)->
   (b=V/\x.s=gs/\x.e-(127-nb x.M:Nat)=ga/\((x.M*2^(127-nb x.M)/18446744073709551616:Nat):Int)=Gh/\((x.M*2^(127-nb x.M)%18446744073709551616:Nat):Int)=Gl/\y.s=ls/\y.e-(127-nb y.M:Nat)=la/\((y.M*2^(127-nb y.M)/18446744073709551616:Nat):Int)=Lh/\((y.M*2^(127-nb y.M)%18446744073709551616:Nat):Int)=Ll)\/
   (b=E/\y.s=gs/\y.e-(127-nb y.M:Nat)=ga/\((y.M*2^(127-nb y.M)/18446744073709551616:Nat):Int)=Gh/\((y.M*2^(127-nb y.M)%18446744073709551616:Nat):Int)=Gl/\x.s=ls/\x.e-(127-nb x.M:Nat)=la/\((x.M*2^(127-nb x.M)/18446744073709551616:Nat):Int)=Lh/\((x.M*2^(127-nb x.M)%18446744073709551616:Nat):Int)=Ll):=by
  rintro gs ga Gh Gl ls la Lh Ll rfl rfl rfl rfl rfl rfl rfl rfl;rcases hgl with⟨rfl,rfl,rfl⟩|⟨rfl,rfl,rfl⟩
  .exact .inl ⟨rfl,rfl,rfl,rfl,rfl,rfl,rfl,rfl,rfl⟩
  .exact .inr ⟨rfl,rfl,rfl,rfl,rfl,rfl,rfl,rfl,rfl⟩
 have aH4:=Dk _ _ _ _ _ _ _ _ rfl rfl rfl rfl rfl rfl rfl rfl;have FP:IntKind.i64.wrap ((g.e-(127-nb g.M:Nat))-(l.e-(127-nb l.M:Nat)))=(d:Int):=by rw[<-hd,dI];omega
 have QA:=λw=>aN0 (l.M*2^(127-nb l.M)) om d w;clear Dk aRj;obtain⟨A,hA⟩:=dP (g.M*2^(127-nb g.M));obtain⟨B,hB⟩:=dP (l.M*2^(127-nb l.M));rw[hA]at T1 T2 T3 bg1 bg2;rw[hB]at T1 T2 T3 bl1 bl2;rw[hA,hB]at aH4;rw[hB]at QA;have hQ:B/2^d<=B:=Nat.div_le_self _ _;by_cases hs:g.s=l.s
 .obtain⟨t1,t2⟩:=T1 hs;refine(zH p mn mx md k _ _ _ _ _ _ _ _ _ _ _ _ _ _ b _ _ _ _ _ _ _ _ d _ _ g.s (g.e-(127-nb g.M:Nat)) 1 (((A+B/2^d)/18446744073709551616:Nat):Int) (((A+B/2^d)%18446744073709551616:Nat):Int) _ _ HLx HLy VY aH4 FP QA (.inl ⟨hs,λw=>aSm A (B/2^d) om om t1 w,rfl,rfl,rfl,rfl⟩) w).mono ?_;rintro r w' ⟨rfl,hg⟩;exact⟨_,_,_,_,_,t2,rfl,hg⟩
 .have lM:(g.s==l.s)=V:=by simp[hs]
  by_cases hr:B%2^d=0
  .obtain⟨t1,t2,t3⟩:=T3 hs hr;have hl:decide (B%2^d≠0)=V:=by simp[hr]
   rw[hl]at QA;rcases jL (A-B/2^d)with hz|hz
   .have aRd:=λw=>aNV A (B/2^d) om t1 w;rw[hz]at aRd;refine(zH p mn mx md k _ _ _ _ _ _ _ _ _ _ _ _ _ _ b _ _ _ _ _ _ _ _ d _ _ (if md=4 then 1 else 0) 0 0 0 0 _ V HLx HLy VY aH4 FP QA (.inr (.inr (.inr ⟨lM,rfl,aRd,λw=>J_ p mn mx md k w⟩))) w).mono ?_;rintro r w' ⟨rfl,hg⟩;refine⟨_,_,_,0,_,?_,rfl,hg⟩;rw[t3 hz];exact X8 md
   .refine(zH p mn mx md k _ _ _ _ _ _ _ _ _ _ _ _ _ _ b _ _ _ _ _ _ _ _ d _ _ g.s (g.e-(127-nb g.M:Nat)) 1 (((A-B/2^d)/18446744073709551616:Nat):Int) (((A-B/2^d)%18446744073709551616:Nat):Int) _ V HLx HLy VY aH4 FP QA (.inr (.inr (.inl ⟨lM,rfl,λw=>aNV A (B/2^d) om t1 w,Wn _ hz,rfl,rfl,rfl,rfl⟩))) w).mono ?_;rintro r w' ⟨rfl,hg⟩;exact⟨_,_,_,_,_,t2 hz,rfl,hg⟩
  .obtain⟨t1,t2,t3⟩:=T2 hs hr;have hl:decide (B%2^d≠0)=E:=by simp[hr]
   rw[hl]at QA;refine(zH p mn mx md k _ _ _ _ _ _ _ _ _ _ _ _ _ _ b _ _ _ _ _ _ _ _ d _ _ g.s (g.e-(127-nb g.M:Nat)) 1 (((A-(B/2^d+1))/18446744073709551616:Nat):Int) (((A-(B/2^d+1))%18446744073709551616:Nat):Int) _ E HLx HLy VY aH4 FP QA (.inr (.inl ⟨lM,rfl,⟨_,_,λw=>aSn (B/2^d) om w,λw=>aNV A (B/2^d+1) om t1 w⟩,Wn _ t2,rfl,rfl,rfl,rfl⟩)) w).mono ?_;rintro r w' ⟨rfl,hg⟩;exact⟨_,_,_,_,_,t3,rfl,hg⟩
def total_any(p mn mx md:Int)(k:Nat)(x y:d_)(hx:VO x)(hy:VO y)(cx:x.c=1)(cy:y.c=1)(w:ak):
  CT 175 #[eu p mn mx md k,iP x.s x.e 1 x.M V 0,iP y.s y.e 1 y.M V 0] w λr w'=>∃(c s e:Int) (M:Nat) (st:Bool),Same (zI md x y) c s e M st/\r=O (iP s e c M st 0)/\Gr w w':=by
 obtain⟨b,hb⟩:∃b:Bool,b=decide (x.e-(127-nb x.M:Nat)<y.e-(127-nb y.M:Nat)\/x.e-(127-nb x.M:Nat)=y.e-(127-nb y.M:Nat)/\x.M*2^(127-nb x.M)<y.M*2^(127-nb y.M)):=⟨_,rfl⟩;cases b
 .exact Nz p mn mx md k x y x y hx hy cx cy V hb (.inl ⟨rfl,rfl,rfl⟩) w
 .rw[aDi];exact Nz p mn mx md k x y y x hx hy cx cy E hb (.inr ⟨rfl,rfl,rfl⟩) w
set_option maxRecDepth 1000000
set_option maxHeartbeats 40000000
def aFY{P:Prop}(h:P:=by
 refine gY (v:=bP os oe oc oh ol ot of) (by simp[results,results173,go_sem,iy]) rfl ⟨os,oe,oc,oh,ol,ot,of,hq,rfl,?_⟩;exact Gr.g):P:=h
def IC(p mn mx md:Int)(k:Nat)(sx ex cx xh xl sy ey cy yh yl:Int)(tx ty:Bool)(m:Int)(hm:max cx cy=m)(h3:m<3)(Q:Int->Int->Int->Int->Int->Bool->Int->Prop)(HO:Hid (∀w,CT 86 #[eu p mn mx md k,bP sx ex cx xh xl tx 0,bP sy ey cy yh yl ty 0] w λe w'=>∃os oe oc oh ol ot of,Q os oe oc oh ol ot of/\e=O (bP os oe oc oh ol ot of)/\Gr w w'))(w:ak):
  CT 173 #[eu p mn mx md k,.func (.func 86) #[] #[],bP sx ex cx xh xl tx 0,bP sy ey cy yh yl ty 0] w λe w'=>∃os oe oc oh ol ot of,Q os oe oc oh ol ot of/\e=O (bP os oe oc oh ol ot of)/\Gr w w':=by
 go_enter func173,ntmps173;go_wp2_with (go_at_call 86;refine(HO _).mono ?_;rintro e w1 ⟨os,oe,oc,oh,ol,ot,of,hq,rfl,au⟩;have iy:=au.ql w);exact aFY
def Ey(p mn mx md:Int)(k:Nat)(sx ex cx xh xl sy ey cy yh yl:Int)(tx ty:Bool)(m:Int)(hm:max cx cy=m)(h3:m<3)(Q:Int->Int->Int->Int->Int->Bool->Int->Prop)(HO:Hid (∀w,CT 88 #[eu p mn mx md k,bP sx ex cx xh xl tx 0,bP sy ey cy yh yl ty 0] w λe w'=>∃os oe oc oh ol ot of,Q os oe oc oh ol ot of/\e=O (bP os oe oc oh ol ot of)/\Gr w w'))(w:ak):
  CT 173 #[eu p mn mx md k,.func (.func 88) #[] #[],bP sx ex cx xh xl tx 0,bP sy ey cy yh yl ty 0] w λe w'=>∃os oe oc oh ol ot of,Q os oe oc oh ol ot of/\e=O (bP os oe oc oh ol ot of)/\Gr w w':=by
 go_enter func173,ntmps173;go_wp2_with (go_at_call 88;refine(HO _).mono ?_;rintro e w1 ⟨os,oe,oc,oh,ol,ot,of,hq,rfl,au⟩;have iy:=au.ql w);exact aFY
def aBt(f aj a b:Int)(R:Int->Int->Prop)(HC:Hid (∀w',Gr w w'->CT 81 #[J f,J aj,.func (.func 86) #[] #[],Y a,Y b] w' (yG R w'))):
  CT 30 #[J f,J aj,Y a,Y b] w (yG R w):=by
 go_enter func30,ntmps30;go_wp2_with (go_at_call 81;refine(HC _ Gr.g).mono ?_;rintro e w1 ⟨z,fl,hr,rfl,au⟩;have iy:=au.bK w);refine gY (v:=aU z fl) (by simp[results,results30,go_sem,iy]) rfl ⟨z,fl,hr,rfl,?_⟩;exact Gr.g
def Yp(f aj a:Int)(R:Int->Int->Prop)(HC:Hid (∀w',Gr w w'->CT 81 #[J f,J aj,.func (.func 88) #[] #[],Y a,Y a] w' (yG R w'))):
  CT 32 #[J f,J aj,Y a] w (yG R w):=by
 go_enter func32,ntmps32;go_wp2_with (go_at_call 81;refine(HC _ Gr.g).mono ?_;rintro e w1 ⟨z,fl,hr,rfl,au⟩;have iy:=au.bK w);refine gY (v:=aU z fl) (by simp[results,results32,go_sem,iy]) rfl ⟨z,fl,hr,rfl,?_⟩;exact Gr.g
def aMy{P:Prop}(h:P:=by
 subst c;go_enter func188,ntmps188;go_wp2_with (go_at_call 254;refine ku (HR _) λw1 au=>?_;have:=au.KL w;have iy:=au.ql w;have jB:=aA iy.1);exact cO (by simp[results,results188,go_sem,iy])):P:=h
def GZ(p mn mx md:Int)(k:Nat)(sx ex cx xh xl sy ey cy yh yl:Int)(tx ty:Bool)(c:(cx != 1)=E)(w:ak):
  Zw p mn mx md k sx ex cx xh xl tx 0 sy ey cy yh yl ty 0 w sx ex cx xh xl tx 0:=by
 go_enter func188,ntmps188;go_wp2;go_returns;exact⟨rfl,Gr.g⟩
def RV(p mn mx md:Int)(k:Nat)(sx ex cx xh xl sy ey cy yh yl:Int)(tx ty:Bool)(c:cx=1)(c2:decide (0<=ex)=E)(w:ak):
  Zw p mn mx md k sx ex cx xh xl tx 0 sy ey cy yh yl ty 0 w sx ex 1 xh xl tx 0:=by
 subst c;go_enter func188,ntmps188;go_wp2;go_returns;exact⟨rfl,Gr.g⟩
def RS(p mn mx md:Int)(k:Nat)(sx ex cx xh xl sy ey cy yh yl:Int)(tx ty:Bool)(dr m:Int)(c:cx=1)(c2:decide (0<=ex)=V)(hn:wrap64 (-ex)=dr)(HR:KQ k dr sx xh xl V m E)(w:ak):
  Zw p mn mx md k sx ex cx xh xl tx 0 sy ey cy yh yl ty 0 w sx 0 1 0 m tx 16:=by
 exact aMy
def RU(p mn mx md:Int)(k:Nat)(sx ex cx xh xl sy ey cy yh yl:Int)(tx ty:Bool)(dr m:Int)(c:cx=1)(c2:decide (0<=ex)=V)(hn:wrap64 (-ex)=dr)(HR:KQ k dr sx xh xl V m V)(w:ak):
  Zw p mn mx md k sx ex cx xh xl tx 0 sy ey cy yh yl ty 0 w sx 0 1 0 m tx 0:=by
 exact aMy
def aG0(f aj a:Int)(R:Int->Int->Prop)(HC:Hid (∀w',Gr w w'->CT 81 #[J f,J aj,.func (.func 188) #[] #[],Y a,Y a] w' (yG R w'))):
  CT 96 #[J f,J aj,Y a,X E] w (yG R w):=by
 go_enter func96,ntmps96;go_upto_region 2 with(go_at_call 81;refine(HC _ Gr.g).mono ?_;rintro e w1 ⟨z,fl,hr,rfl,au⟩;have iy:=au.bK w;have jB:=aA iy.1);obtain⟨w2,kK⟩:=dP (w1.alloc (.cells #[Y z,J fl] 100));have aC:Gr w1 w2:=by rw[<-kK];exact(Gr.refl _).alloc _ _
 have x0:w2.cell? ⟨w1.heap.size,0,none⟩=some (Y z):=by rw[<-kK];simp[go_sem]
 have x1:w2.cell? ⟨w1.heap.size,1,none⟩=some (J fl):=by rw[<-kK];simp[go_sem]
 have xz1:dL w2 w1.heap.size 1:=by rw[<-kK];simp[go_sem]
 have mG:w1.heap.size<w2.heap.size:=by rw[<-kK];simp
 rw[kK];clear kK;have lJ:=aC.bK w;have ZK:Gr w w2:=Gr.g;go_wp2;refine gY (v:=aU z fl) (by simp[results,results96,go_sem,lJ]) rfl ⟨z,fl,hr,rfl,?_⟩;exact Gr.g
def aG2(f aj a:Int)(R:Int->Int->Prop)(G:Int->Int)(hG:Hid (∀z fl,R z fl->bits .andNot .i64 fl 16=G fl))(HC:Hid (∀w',Gr w w'->CT 81 #[J f,J aj,.func (.func 188) #[] #[],Y a,Y a] w' (yG R w'))):
  CT 96 #[J f,J aj,Y a,X V] w λe w'=>∃z fl,R z fl/\e=O (aU z (G fl))/\Gr w w':=by
 go_enter func96,ntmps96;go_upto_region 2 with(go_at_call 81;refine(HC _ Gr.g).mono ?_;rintro e w1 ⟨z,fl,hr,rfl,au⟩;have iy:=au.bK w;have jB:=aA iy.1;have aUf:=hG.out z fl hr);obtain⟨w2,kK⟩:=dP (w1.alloc (.cells #[Y z,J fl] 100));have aC:Gr w1 w2:=by rw[<-kK];exact(Gr.refl _).alloc _ _
 have x0:w2.cell? ⟨w1.heap.size,0,none⟩=some (Y z):=by rw[<-kK];simp[go_sem]
 have x1:w2.cell? ⟨w1.heap.size,1,none⟩=some (J fl):=by rw[<-kK];simp[go_sem]
 have xz1:dL w2 w1.heap.size 1:=by rw[<-kK];simp[go_sem]
 have mG:w1.heap.size<w2.heap.size:=by rw[<-kK];simp
 rw[kK];clear kK;have lJ:=aC.bK w;have ZK:Gr w w2:=Gr.g;go_wp2;refine gY (v:=aU z (G fl)) (by simp[results,results96,go_sem,lJ]) rfl ⟨z,fl,hr,rfl,?_⟩;exact Gr.g
def KY(x:d_):Int:=if x.c=1/\jJ x=E then 16 else 0
def Qe(p mx one aN sg nan aj:Int)(x:d_)(ex:Bool)(Z fl:Int):Prop:=
 3<=x.c/\Z=nan/\fl=(if x.c=4 then 1 else 0)\/x.c<=2/\cZ p (1-mx) mx one aN sg nan aj (vG aj x) Z 0/\fl=(if ex then KY x else 0)
def nU(f aj a:Int)(ex:Bool)(Z fl:Int):Prop:=
 (∃p mx one aN sg nan x,bI f p mx one aN sg nan/\(0<=aj/\aj<=4)/\dO p mx one aN sg nan a x/\Qe p mx one aN sg nan aj x ex Z fl)\/
 (∃p mx one aN sg nan,bI f p mx one aN sg nan/\(aj<0\/4<aj)/\Z=nan/\fl=1)\/
 (¬(f=0\/f=1)/\Z=9221120237041090560/\fl=1)
def nU.one(h:nU f aj a ex Z fl)(h':nU f aj a ex Z' qQ):Z=Z'/\fl=qQ:=by
 rcases h with⟨p,mx,one,aN,sg,nan,x,hF,hm,hx,hp⟩|⟨p,mx,one,aN,sg,nan,hF,hm,rfl,rfl⟩|⟨hF,rfl,rfl⟩<;>
 rcases h' with⟨p',zq,rX,r_,GK,rY,x',oC,KD,O8,SY⟩|⟨p',zq,rX,r_,GK,rY,oC,KD,rfl,rfl⟩|⟨oC,rfl,rfl⟩
 .obtain⟨rfl,rfl,rfl,rfl,rfl,rfl⟩:=hF.one oC;obtain rfl:=hx.one hF O8;rcases hp with⟨c,rfl,rfl⟩|⟨c,hp,rfl⟩<;>rcases SY with⟨c',rfl,rfl⟩|⟨c',SY,rfl⟩
  .exact⟨rfl,rfl⟩
  .exfalso;omega
  .exfalso;omega
  .exact⟨(cZ.one hp SY).1,rfl⟩
 .exfalso;omega
 .exact bG hF.yes.symm (by simp[oC])
 .exfalso;omega
 .obtain⟨rfl,rfl,rfl,rfl,rfl,rfl⟩:=hF.one oC;exact⟨rfl,rfl⟩
 .exact bG hF.yes.symm (by simp[oC])
 .exact bG oC.yes.symm (by simp[hF])
 .exact bG oC.yes.symm (by simp[hF])
 .exact⟨rfl,rfl⟩
def nD{x:d_}(h:¬(x.c=1/\x.e<0)):vG aj x=x:=by unfold vG;rw[aH h]
def AO{one a:Int}(hF:bI f p mx one aN sg nan){x:d_}(h:¬(x.c=1/\x.e<0)):KY x=0:=by
 unfold KY;by_cases c:x.c=1
 .rw[GY (x:=x) om,aH (by simp)]
 .rw[aH (λh=>c h.1)]
def TU(x:d_):KY x=0\/KY x=16:=by unfold KY;split<;>simp
def aOm(x:d_):bits .or .i64 0 (KY x)=KY x:=by rcases TU x with h|h<;>rw[h]<;>decide+kernel
def rO{one:Int}(hF:bI f p mx one aN sg nan){x:d_}(hx:dO p mx one aN sg nan a x)(aj:Int)(c:x.c=1)(e:x.e<0):
  ((cu aj x:Nat):Int)<=one/\(cu aj x=0->cZ p (1-mx) mx one aN sg nan aj (vG aj x) (sw x.s sg 0) 0)/\
  (0<cu aj x->∃z,(∀md,bM p (1-mx) mx one aN md x.s (cu aj x) 0 V z 0)/\cZ p (1-mx) mx one aN sg nan aj (vG aj x) (sw x.s sg z) 0):=by
 obtain⟨P,hP,aKX,Dn⟩:=hF.pow;have S9:one=((2^P:Nat):Int):=by rw[CU];exact Dn
 have hM:x.M<2^(P+1):=by
  have hb:=hF.bounds;rcases hx with⟨_,hu⟩|⟨_,rfl⟩
  .obtain⟨h1,h2,h3,h4,h5,h6,h7,h8,h9⟩:=sN hF hu;rw[jE];omega
  .cases c
 have hl:=aDb (aj:=aj) e hM;have hw:vG aj x=if cu aj x=0 then⟨0,x.s,0,0⟩else⟨1,x.s,0,cu aj x⟩:=by unfold vG;rw[aQ ⟨c,e⟩]
 refine⟨om,λh0=>?_,λh0=>?_⟩
 .rw[hw,aQ h0];exact .inl ⟨rfl,rfl,rfl⟩
 .obtain⟨z,z0,z1,hz⟩:=Wp hF x.s (cu aj x) h0 om;refine⟨z,hz,?_⟩;rw[hw,aH (by omega)];exact .inr (.inl ⟨rfl,z,hz aj,rfl⟩)
def aDt(m:Int)(h3:3<=m)(h4:m<=4):rF ⟨m,0,0,0⟩ 0 0 m 0 0 V:=⟨0,by simp,by simp,Same.self ⟨m,0,0,0⟩ (λc=>by dsimp only at c;omega),om,om,λc=>om⟩
def RD{one:Int}(hF:bI f p mx one aN sg nan)(aj:Int)(hm:0<=aj/\aj<=4)(a0:0<=a)(a1:aI a){x:d_}(hx:dO p mx one aN sg nan a x)(hw:Fm w):
  CT 81 #[J f,J aj,.func (.func 188) #[] #[],Y a,Y a] w λe w'=>∃z fl,Qe p mx one aN sg nan aj x E z fl/\e=O (aU z fl)/\Gr w w':=by
 obtain⟨mn,fb,sp,hM,Ce,Ru⟩:=hF.m;obtain⟨k,hk⟩:=mP aj hm.1 hm.2;obtain⟨x',O8,HA⟩:=jP hF hM a a0 a1;obtain rfl:=hx.one hF O8;obtain⟨v1,v2,v3,v4,v5,v6⟩:=bU hF hx;have hb:=hF.bounds;have xc0:=v1.c0;have xc4:=v1.c4;refine zi p mn mx aj f k 188 a a _ _ _ _ _ _ _ _ _ _ _ _ (λbf dY=>eX hF hM aj k (λw=>iI aj k hk w) (hw.gr dY)) HA HA
  (λos oe oc oh ol ot of=>3<=x.c/\rF ⟨x.c,0,0,0⟩ os oe oc oh ol ot/\of=0\/x.c<=2/\¬(x.c=1/\x.e<0)/\rF x os oe oc oh ol ot/\of=0\/(x.c=1/\x.e<0)/\os=x.s/\oe=0/\oc=1/\oh=0/\ol=((cu aj x:Nat):Int)/\ot=V/\of=KY x)
  (λw=>?_) _ (λos oe oc oh ol ot of w hq=>?_)
 .by_cases cn:3<=x.c
  .refine(kS p mn mx aj k _ _ _ _ _ _ _ _ _ _ _ _ _ x.c om cn w).mono ?_;rintro e w' ⟨rfl,hg⟩;exact⟨_,_,_,_,_,_,_,.inl ⟨cn,aDt _ cn xc4,rfl⟩,rfl,hg⟩
  .refine z_ p mn mx aj k _ _ _ _ _ _ _ _ _ _ _ _ x.c om om _ (λw=>?_) w;by_cases c:x.c=1
   .by_cases e:x.e<0
    .have hl:=(rO hF hx aj c e).1;have HR:∀b:Bool,decide (0<bH x.M x.e 0 V)=b->KQ k (0-x.e) x.s ((x.M/18446744073709551616:Nat):Int) ((x.M%18446744073709551616:Nat):Int) V ((cu aj x:Nat):Int) b:=λb Dq w=>Dq▸wW aj k hk x.s v1.lD x.M om x.e 0 (0-x.e) V rfl om om (λ_=>rfl) (by
       have h1:=(mF aj x.s (dH x.M x.e 0) (bH x.M x.e 0 V)).1;unfold cu at hl;omega) w
     have hn:wrap64 (-x.e)=0-x.e:=by
      rw[(om:-x.e=0-x.e)];unfold wrap64;omega
     have ce:decide (0<=x.e)=V:=jA;by_cases hh:0<bH x.M x.e 0 V
     .refine(RS p mn mx aj k _ _ _ _ _ _ _ _ _ _ _ _ (0-x.e) _ c ce hn (HR E (by simp[hh])) w).mono ?_;rintro r w' ⟨rfl,hg⟩;exact⟨_,_,_,_,_,_,_,.inr (.inr ⟨⟨c,e⟩,rfl,rfl,rfl,rfl,rfl,rfl,by unfold KY jJ;rw[aQ ⟨c,by simp[hh]⟩]⟩),rfl,hg⟩
     .refine(RU p mn mx aj k _ _ _ _ _ _ _ _ _ _ _ _ (0-x.e) _ c ce hn (HR V (by simp[hh])) w).mono ?_;rintro r w' ⟨rfl,hg⟩;exact⟨_,_,_,_,_,_,_,.inr (.inr ⟨⟨c,e⟩,rfl,rfl,rfl,rfl,rfl,rfl,by unfold KY jJ;rw[aH (by simp[hh])]⟩),rfl,hg⟩
    .refine(RV p mn mx aj k _ _ _ _ _ _ _ _ _ _ _ _ c jA w).mono ?_;rintro r w' ⟨rfl,hg⟩;exact⟨_,_,_,_,_,_,_,.inr (.inl ⟨om,λh=>e h.2,c▸v1.same,rfl⟩),rfl,hg⟩
   .refine(GZ p mn mx aj k _ _ _ _ _ _ _ _ _ _ _ _ (by simp[c]) w).mono ?_;rintro r w' ⟨rfl,hg⟩;exact⟨_,_,_,_,_,_,_,.inr (.inl ⟨om,λh=>c h.1,v1.same,rfl⟩),rfl,hg⟩
 .rcases hq with⟨cn,hs,rfl⟩|⟨c2,hn,hs,rfl⟩|⟨⟨c,e⟩,rfl,rfl,rfl,rfl,rfl,rfl,rfl⟩
  .refine(qB hM aj k hk _ os oe oc oh ol ot hs w).mono ?_;rintro r w' ⟨Z,fl,hp,rfl,hg⟩;refine⟨Z,fl,.inl ⟨cn,?_⟩,rfl,hg⟩;rcases hp with⟨d,_⟩|⟨d,_⟩|⟨d,_⟩|⟨d,rfl,rfl⟩|⟨d,rfl,rfl⟩<;>dsimp only at d
   .omega
   .omega
   .omega
   .exact⟨rfl,by rw[aH (by omega)]⟩
   .exact⟨rfl,by rw[aQ d]⟩
  .refine(qB hM aj k hk _ os oe oc oh ol ot hs w).mono ?_;rintro r w' ⟨Z,fl,hp,rfl,hg⟩;rw[Ce]at hp;obtain⟨rfl,rfl⟩:=cZ.one hp (qA hF a0 hx c2 aj);refine⟨_,_,.inr ⟨c2,?_,?_⟩,rfl,hg⟩
   .rw[nD hn];exact hp
   .rw[AO (a:=Z) hF hn];rfl
  .obtain⟨hl,mD,jB⟩:=rO hF hx aj c e;refine(aCu p mn mx aj k x.s 0 0 ((cu aj x:Nat):Int) V (KY x) (λz fl=>cZ p (1-mx) mx one aN sg nan aj (vG aj x) z 0/\fl=0) (λ_=>KY x) (λz fl h=>by rw[h.2];exact aOm x) (λw=>?_) w).mono ?_
   .rcases jL (cu aj x)with h0|h0
    .rw[h0];refine(UC hM aj k x.s 0 V om om (sw x.s sg 0) (λw=>oK hM x.s _ ?_ w) w).mono ?_
     .rcases v1.lD with h|h<;>rw[h]
      .exact .inl ⟨rfl,by simp[sw]⟩
      .exact .inr ⟨rfl,by simp[sw]⟩
     .rintro r w' ⟨rfl,hg⟩;exact⟨_,_,⟨mD h0,rfl⟩,rfl,hg⟩
    .obtain⟨z,hr,hp⟩:=jB h0;have:=BO hM aj aj k hk x.s v1.lD 0 om om (cu aj x) h0 om V (λh=>by cases h) w;unfold iK at this;rw[(om:cu aj x/18446744073709551616=0),(om:cu aj x%18446744073709551616=cu aj x)]at this;refine this.mono ?_;rintro r w' ⟨z',fl,hr',rfl,hg⟩;rw[Ce]at hr';obtain⟨rfl,rfl⟩:=bM.one hr' (hr aj);exact⟨_,_,⟨by rw[aCj];exact hp,rfl⟩,rfl,hg⟩
   .rintro r w' ⟨z,fl,⟨hp,rfl⟩,rfl,hg⟩;exact⟨_,_,.inr ⟨om,hp,by rw[aQ rfl]⟩,rfl,hg⟩
def aJd(h:fl=0\/fl=1\/fl=16):bits .andNot .i64 fl 16=if fl=16 then 0 else fl:=by rcases h with rfl|rfl|rfl<;>decide+kernel
def yT(f aj a:Int)(ex:Bool)(a0:0<=a)(a1:aI a)(w:ak)(hw:Fm w):
  CT 96 #[J f,J aj,Y a,X ex] w λe w'=>∃Z fl,nU f aj a ex Z fl/\e=O (aU Z fl)/\Gr w w':=by
 have bad:∀(nan:Int),nU f aj a ex nan 1->(∀w',Gr w w'->QR 81 #[J f,J aj,.func (.func 188) #[] #[],Y a,Y a] w' (aU nan 1))->CT 96 #[J f,J aj,Y a,X ex] w λe w'=>∃Z fl,nU f aj a ex Z fl/\e=O (aU Z fl)/\Gr w w':=by
  intro nan hR HC;have ZP:Hid (∀w',Gr w w'->CT 81 #[J f,J aj,.func (.func 188) #[] #[],Y a,Y a] w' λe bf=>∃z fl,(z=nan/\fl=1)/\e=O (aU z fl)/\Gr w' bf):=λw' hg=>(HC w' hg).mono (λe bf ⟨h1,h2⟩=>⟨nan,1,⟨rfl,rfl⟩,h1,h2⟩);cases ex
  .refine(aG2 f aj a _ (λ_=>1) (λz fl h=>by rw[h.2];decide+kernel) ZP).mono ?_;rintro e w' ⟨z,fl,⟨rfl,rfl⟩,rfl,hg⟩;exact⟨_,_,hR,rfl,hg⟩
  .refine(aG0 f aj a _ ZP).mono ?_;rintro e w' ⟨z,fl,⟨rfl,rfl⟩,rfl,hg⟩;exact⟨_,_,hR,rfl,hg⟩
 by_cases hf:f=0\/f=1
 .obtain⟨p,mx,one,aN,sg,nan,hF⟩:=fQ f hf;obtain⟨mn,fb,sp,hM,Ce,Ru⟩:=hF.m;by_cases hm:0<=aj/\aj<=4
  .obtain⟨x,hx⟩:=fH hF a a0 a1;have HC:Hid (∀w',Gr w w'->CT 81 #[J f,J aj,.func (.func 188) #[] #[],Y a,Y a] w' λe bf=>∃z fl,Qe p mx one aN sg nan aj x E z fl/\e=O (aU z fl)/\Gr w' bf):=λw' hg=>RD hF aj hm a0 a1 hx (hw.gr hg);have hfl:∀z fl,Qe p mx one aN sg nan aj x E z fl->fl=0\/fl=1\/fl=16:=by
    rintro z fl (⟨_,_,rfl⟩|⟨_,_,rfl⟩)
    .split<;>simp
    .rw[aQ rfl];rcases TU x with h|h<;>simp[h]
   cases ex
   .refine(aG2 f aj a _ (λfl=>if fl=16 then 0 else fl) (λz fl h=>aJd (hfl z fl h)) HC).mono ?_;rintro e w' ⟨z,fl,h,rfl,hg⟩;refine⟨_,_,.inl ⟨p,mx,one,aN,sg,nan,x,hF,hm,hx,?_⟩,rfl,hg⟩;rcases h with⟨c,rfl,rfl⟩|⟨c,hp,rfl⟩
    .exact .inl ⟨c,rfl,by split<;>simp⟩
    .refine .inr ⟨c,hp,?_⟩;rw[aQ rfl];rcases TU x with h|h<;>simp[h]
   .refine(aG0 f aj a _ HC).mono ?_;rintro e w' ⟨z,fl,h,rfl,hg⟩;exact⟨_,_,.inl ⟨p,mx,one,aN,sg,nan,x,hF,hm,hx,h⟩,rfl,hg⟩
  .exact bad nan (.inr (.inl ⟨p,mx,one,aN,sg,nan,hF,om,rfl,rfl⟩)) (λw' hg=>lV p mn mx aj nan f aj a a (λbf dY=>iC hF hM aj (λw=>lG aj om w) (hw.gr (hg.trans dY))) (λw=>dF hM w) 188)
 .exact bad _ (.inr (.inr ⟨hf,rfl,rfl⟩)) (λw' hg=>lV _ _ _ _ _ f aj a a (λbf dY=>eG f aj hf (hw.gr (hg.trans dY))) (λw=>dF m64 w) 188)
def Kv{one:Int}(hF:bI f p mx one aN sg nan){x:d_}(hx:dO p mx one aN sg nan a x)(aj:Int)(hm:0<=aj/\aj<=4)(b k c:Nat)(w:ak)(hB:aK 2 w (aF b k c) x.M):
  CT 157 #[J aj,.agg #[J x.s,aF b k c,J x.e,X V]] w λe w'=>∃b k c,aK 70005 w' (aF b k c) (cu aj x)/\e=O (.tuple #[aF b k c,X (!jJ x)])/\Gb w w':=by
 obtain⟨v1,v2,v3,v4,v5,v6⟩:=bU hF hx;refine U_ aj x.s x.e x.M (dH x.M x.e 0) (cu aj x) ((bH x.M x.e 0 V:Nat):Int) (!jJ x) ?_ _ w (λw' hg=>?_) (λv' w' hb=>?_) b k c rfl
 .unfold jJ;rcases jL (bH x.M x.e 0 V)with h|h
  .rw[h];rfl
  .rw[h_ h];simp;omega
 .obtain⟨n,hn,hb⟩:=aK.gb hB hg;refine(Ij hb om x.s x.e 0 V om om om om).mono ?_;rintro r bf ⟨v',k',rfl,Dq,EI,dY⟩;obtain⟨b',c',rfl,_⟩:=Dq.shape;exact⟨b',k',c',⟨k',om,Dq⟩,rfl,dY⟩
 .obtain⟨n,hn,hb⟩:=hb;exact fE ((FC hb om aj x.s (bH x.M x.e 0 V) hm.1 hm.2 v1.lD (iZ _ _ _ _)).mono (λe w' ⟨v,k,c1,c2,c3,c4⟩=>⟨v,k,c1,c2,om,c4⟩))
def yE(f aj a:Int)(ex:Bool)(a0:0<=a)(a1:aI a)(w:ak):
  CT 71 #[J f,J aj,Y a,X ex] w λe w'=>∃Z fl,nU f aj a ex Z fl/\e=O (aU Z fl)/\Gb w w':=by
 by_cases hf:f=0\/f=1
 .obtain⟨p,mx,one,aN,sg,nan,hF⟩:=fQ f hf;by_cases hm:0<=aj/\aj<=4
  .obtain⟨x,hx⟩:=fH hF a a0 a1;obtain⟨v1,v2,v3,v4,v5,v6⟩:=bU hF hx;have xc0:=v1.c0;have xc4:=v1.c4;have fin:∀Z fl,Qe p mx one aN sg nan aj x ex Z fl->(DN f aj a ex w Z fl)->CT 71 #[J f,J aj,Y a,X ex] w λe w'=>∃Z fl,nU f aj a ex Z fl/\e=O (aU Z fl)/\Gb w w':=λZ fl hp h=>h.mono (λe w' ⟨h1,h2⟩=>⟨Z,fl,.inl ⟨p,mx,one,aN,sg,nan,x,hF,hm,hx,hp⟩,h1,h2⟩);by_cases fa:a<2*sg
   .have AL:qI f aj a E:=λw=>kZ hF aj a a hm.1 hm.2 a0 fa a0 fa w;have HU:=ji hF a a0 fa hx;have HQ:∀(b:Bool),b=decide (3<=x.c)->bY x.c x.s x.e (((x.M:Nat):Int)) b:=λb hb w=>jf _ _ _ _ b hb w;by_cases cn:3<=x.c
    .refine fin nan (if decide (x.c=4)then 1 else 0) (.inl ⟨cn,rfl,by simp⟩) (aDy f aj a _ _ _ _ nan _ (decide (x.c=4)) ex AL HU (HQ E (by simp[cn])) (bq _ _) (λw=>nZ hF _ _ rfl w) w)
    .have hQ:=HQ V jA;by_cases hn:x.c=1/\x.e<0
     .obtain⟨c,e⟩:=hn;obtain⟨hl,mD,jB⟩:=rO hF hx aj c e;have hb:=hF.bounds;have HN:Hid (∀w,CT 144 #[fG x.c x.s x.e (((x.M:Nat):Int))] w λe w'=>∃b k cc,aK 2 w' (aF b k cc) x.M/\e=O (.agg #[J x.s,aF b k cc,J x.e,X V])/\Gb w w'):=λw=>nY _ _ _ x.M om w;have HW:Hid (∀b k c w,aK 2 w (aF b k c) x.M->CT 157 #[J aj,.agg #[J x.s,aF b k c,J x.e,X V]] w λe w'=>∃b k c,aK 70005 w' (aF b k c) (cu aj x)/\e=O (.tuple #[aF b k c,X (!jJ x)])/\Gb w w'):=λb k c w hB=>Kv hF hx aj hm b k c w hB;have HZ:Ar f x.s (sw x.s sg 0) 0:=λw=>kY hF x.s v1.lD w;have ce:decide (0<=x.e)=V:=jA;have hfl:∀b:Bool,jJ x=b->KY x=if b then 16 else 0:=by
       intro b Dq;unfold KY;rw[Dq];cases b
       .rw[aH (by simp)];rfl
       .rw[aQ ⟨c,rfl⟩];rfl
      rcases jL (cu aj x)with h0|h0
      .have hp:=mD h0;cases ex
       .exact fin _ 0 (.inr ⟨om,hp,rfl⟩) (aGL f aj a _ _ _ _ _ x.M (cu aj x) V (!jJ x) rfl h0 AL HU hQ c ce HN HW HZ w)
       .cases Dq:jJ x
        .refine fin _ 0 (.inr ⟨om,hp,by rw[aQ rfl,hfl _ Dq];rfl⟩) (aGK f aj a _ _ _ _ _ x.M (cu aj x) E (!jJ x) ⟨rfl,by rw[Dq];rfl⟩ h0 AL HU hQ c ce HN HW HZ w)
        .refine fin _ 16 (.inr ⟨om,hp,by rw[aQ rfl,hfl _ Dq];rfl⟩) (aGJ f aj a _ _ _ _ _ x.M (cu aj x) E (!jJ x) ⟨rfl,by rw[Dq];rfl⟩ h0 AL HU hQ c ce HN HW HZ w)
      .obtain⟨z,hr,hp⟩:=jB h0;have HR:Hid (∀v w,aK 70005 w v (cu aj x)->QB 138 #[J f,J 0,.agg #[J x.s,v,J 0,X V]] w (aU (sw x.s sg z) 0)):=λv w hB=>(oL hF 0 om om ⟨1,x.s,0,cu aj x⟩ rfl v1.lD h0 (by dsimp only;omega) (by dsimp only;omega) 70005 om v w hB).mono (by
         rintro e w' ⟨Z,fl,hpk,rfl,hg⟩;rcases hpk with⟨d,_⟩|⟨d,z',Yx,rfl⟩|⟨d,_⟩|⟨d,_⟩|⟨d,_⟩<;>dsimp only at d
         .omega
         .obtain⟨rfl,rfl⟩:=bM.one Yx (hr 0);exact⟨rfl,hg⟩
         .omega
         .omega
         .omega)
       cases ex
       .exact fin _ 0 (.inr ⟨om,hp,rfl⟩) (aGI f aj a _ _ _ _ _ _ x.M (cu aj x) V (!jJ x) rfl h0 AL HU hQ c ce HN HW HZ HR w)
       .cases Dq:jJ x
        .refine fin _ 0 (.inr ⟨om,hp,by rw[aQ rfl,hfl _ Dq];rfl⟩) (aGH f aj a _ _ _ _ _ _ x.M (cu aj x) E (!jJ x) ⟨rfl,by rw[Dq];rfl⟩ h0 AL HU hQ c ce HN HW HZ HR w)
        .refine fin _ 16 (.inr ⟨om,hp,by rw[aQ rfl,hfl _ Dq];rfl⟩) (aGG f aj a _ _ _ _ _ _ x.M (cu aj x) E (!jJ x) ⟨rfl,by rw[Dq];rfl⟩ h0 AL HU hQ c ce HN HW HZ HR w)
     .have hp:Qe p mx one aN sg nan aj x ex a 0:=.inr ⟨om,by rw[nD hn];exact qA hF a0 hx om aj,by rw[AO (a:=a) hF hn];split<;>rfl⟩;by_cases c:x.c=1
      .exact fin a 0 hp (aJT f aj a _ _ _ _ ex AL HU hQ c jA w)
      .exact fin a 0 hp (aJU f aj a _ _ _ _ ex AL HU hQ c w)
   .refine fin nan 1 ?_ (Hf f aj a nan 1 ex (λw=>fK f aj a a a0 a1 a0 a1 (tJ hF a1 a1 om) w) (λw=>dA hF w) w);have:=jM hF hx (by omega);subst this;exact .inl ⟨de,rfl,rfl⟩
  .refine(Hf f aj a nan 1 ex (λw=>fK f aj a a a0 a1 a0 a1 (.inl om) w) (λw=>dA hF w) w).mono ?_;rintro e w' ⟨rfl,hg⟩;exact⟨_,_,.inr (.inl ⟨p,mx,one,aN,sg,nan,hF,om,rfl,rfl⟩),rfl,hg⟩
 .refine(Hf f aj a _ 1 ex (λw=>fK f aj a a a0 a1 a0 a1 (.inr (.inl hf)) w) (λw=>nK f hf w) w).mono ?_;rintro e w' ⟨rfl,hg⟩;exact⟨_,_,.inr (.inr ⟨hf,rfl,rfl⟩),rfl,hg⟩
def UE(f aj a:Int)(ex:Bool)(a0:0<=a)(a1:aI a):∃Z fl,nU f aj a ex Z fl:=by
 by_cases hf:f=0\/f=1
 .obtain⟨p,mx,one,aN,sg,nan,hF⟩:=fQ f hf;by_cases hm:0<=aj/\aj<=4
  .obtain⟨x,hx⟩:=fH hF a a0 a1;have v1:=(bU hF hx).1;have:=v1.c0;have fin:∀Z fl,Qe p mx one aN sg nan aj x ex Z fl->∃Z fl,nU f aj a ex Z fl:=λZ fl h=>⟨Z,fl,.inl ⟨p,mx,one,aN,sg,nan,x,hF,hm,hx,h⟩⟩;by_cases cn:3<=x.c
   .exact fin _ _ (.inl ⟨cn,rfl,rfl⟩)
   .by_cases hn:x.c=1/\x.e<0
    .obtain⟨_,h0,h1⟩:=rO hF hx aj hn.1 hn.2;rcases jL (cu aj x)with h|h
     .exact fin _ _ (.inr ⟨om,h0 h,rfl⟩)
     .obtain⟨z,_,hp⟩:=h1 h;exact fin _ _ (.inr ⟨om,hp,rfl⟩)
    .exact fin a _ (.inr ⟨om,by rw[nD hn];exact qA hF a0 hx om aj,rfl⟩)
  .exact⟨_,_,.inr (.inl ⟨p,mx,one,aN,sg,nan,hF,om,rfl,rfl⟩)⟩
 .exact⟨_,_,.inr (.inr ⟨hf,rfl,rfl⟩)⟩
def aEb(f aj a:Int)(ex:Bool)(a0:0<=a)(a1:aI a):
  ∃Z fl:Int,nU f aj a ex Z fl/\(∀w,DN f aj a ex w Z fl)/\
   (∀w,Fm w->QR 96 #[J f,J aj,Y a,X ex] w (aU Z fl)):=
 Gj (λ_ _ _ _ h h'=>nU.one h h') (UE f aj a ex a0 a1) (yE f aj a ex a0 a1) (yT f aj a ex a0 a1)
def F9(p mn mx md:Int)(k:Nat)(sx ex cx xh xl sy ey cy yh yl:Int)(tx ty:Bool)(m:Int)(hm:max cx cy=m)(h3:m<3)(Q:Int->Int->Int->Int->Int->Bool->Int->Prop)(HO:Hid (∀w,CT 90 #[eu p mn mx md k,bP sx ex cx xh xl tx 0,bP sy ey cy yh yl ty 0] w λe w'=>∃os oe oc oh ol ot of,Q os oe oc oh ol ot of/\e=O (bP os oe oc oh ol ot of)/\Gr w w'))(w:ak):
  CT 173 #[eu p mn mx md k,.func (.func 90) #[] #[],bP sx ex cx xh xl tx 0,bP sy ey cy yh yl ty 0] w λe w'=>∃os oe oc oh ol ot of,Q os oe oc oh ol ot of/\e=O (bP os oe oc oh ol ot of)/\Gr w w':=by
 go_enter func173,ntmps173;go_wp2_with (go_at_call 90;refine(HO _).mono ?_;rintro e w1 ⟨os,oe,oc,oh,ol,ot,of,hq,rfl,au⟩;have iy:=au.ql w);exact aFY
def aBr(f a b:Int)(R:Int->Int->Prop)(HC:Hid (∀w',Gr w w'->CT 81 #[J f,J 0,.func (.func 90) #[] #[],Y a,Y b] w' (yG R w'))):
  CT 34 #[J f,Y a,Y b] w (yG R w):=by
 go_enter func34,ntmps34;go_wp2_with (go_at_call 81;refine(HC _ Gr.g).mono ?_;rintro e w1 ⟨z,fl,hr,rfl,au⟩;have iy:=au.bK w);refine gY (v:=aU z fl) (by simp[results,results34,go_sem,iy]) rfl ⟨z,fl,hr,rfl,?_⟩;exact Gr.g
