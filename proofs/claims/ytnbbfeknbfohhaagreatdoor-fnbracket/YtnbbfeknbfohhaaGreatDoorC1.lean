import Derived.Test.YtnbbfeknbfohhaaGreatDoorL3JA
import Derived.Test.YtnbbfeknbfohhaaGreatDoorL3JB
import Derived.Test.YtnbbfeknbfohhaaGreatDoorC0
import Derived.Test.YtnbbfeknbfohhaaGreatDoorB7
import Derived.Test.YtnbbfeknbfohhaaGreatDoorB2
import Derived.Test.YtnbbfeknbfohhaaGreatDoorU1
set_option linter.unusedVariables false
set_option linter.unusedSimpArgs false
open Go.Value renaming int → J, agg → O, bool → V
open Go.IntKind renaming i64 → Y, u64 → Z
open Go.Ending renaming returned → X
namespace Go.Proofs.YtnbbfeknbfohhaaGreatDoor
open Go.RowKit
theorem o7(p mn mx md:Int)(k:Nat)(sx ex mh ml sy ey nh nl ax Ah Al ay Bh Bl:Int)(b:Bool)(gs ga Gh Gl ls la Lh Ll dz Qh Ql os oe oc oh ol:Int)(lost ost:Bool)
  (Rn:KR 236 #[O #[J Y sx,J Y ex,J Y 1,J Z mh,J Z ml,V false,J Y 0]] (O #[J Y sx,J Y ax,J Y 1,J Z Ah,J Z Al,V false,J Y 0])) (Rl:KR 236 #[O #[J Y sy,J Y ey,J Y 1,J Z nh,J Z nl,V false,J Y 0]] (O #[J Y sy,J Y ay,J Y 1,J Z Bh,J Z Bl,V false,J Y 0])) (Ez:KR 237 #[O #[J Y sx,J Y ax,J Y 1,J Z Ah,J Z Al,V false,J Y 0],O #[J Y sy,J Y ay,J Y 1,J Z Bh,J Z Bl,V false,J Y 0]] (V b))
  (hsw:b=false∧sx=gs∧ax=ga∧Ah=Gh∧Al=Gl∧sy=ls∧ay=la∧Bh=Lh∧Bl=Ll∨b=true∧sy=gs∧ay=ga∧Bh=Gh∧Bl=Gl∧sx=ls∧ax=la∧Ah=Lh∧Al=Ll) (hdz:IntKind.i64.wrap (ga-la)=dz) (A8:KR 192 #[O #[J Z Lh,J Z Ll],J Y dz] (.tuple #[O #[J Z Qh,J Z Ql],V lost]))
  (hend:(gs=ls∧Hid (∀w,CT 238 #[O #[J Z Gh,J Z Gl],O #[J Z Qh,J Z Ql]] w fun x w'=>∃b',x=X (.tuple #[O #[J Z oh,J Z ol],V b'])∧Gr w w')∧gs=os∧ga=oe∧1=oc∧lost=ost)∨((gs==ls)=false∧lost=true∧(∃Th Tl:Int,Hid (∀w,CT 238 #[O #[J Z Qh,J Z Ql],O #[J Z 0,J Z 1]] w fun x w'=>∃b',x=X (.tuple #[O #[J Z Th,J Z Tl],V b'])∧Gr w w')∧Hid (∀w,CT 239 #[O #[J Z Gh,J Z Gl],O #[J Z Th,J Z Tl]] w fun x w'=>∃b',x=X (.tuple #[O #[J Z oh,J Z ol],V b'])∧Gr w w'))∧(oh==0&&ol==0)=false∧gs=os∧ga=oe∧1=oc∧true=ost)∨((gs==ls)=false∧lost=false∧Hid (∀w,CT 239 #[O #[J Z Gh,J Z Gl],O #[J Z Qh,J Z Ql]] w fun x w'=>∃b',x=X (.tuple #[O #[J Z oh,J Z ol],V b'])∧Gr w w')∧(oh==0&&ol==0)=false∧gs=os∧ga=oe∧1=oc∧false=ost)∨((gs==ls)=false∧lost=false∧Hid (∀w,CT 239 #[O #[J Z Gh,J Z Gl],O #[J Z Qh,J Z Ql]] w fun x w'=>∃b',x=X (.tuple #[O #[J Z 0,J Z 0],V b'])∧Gr w w')∧KR 217 #[O #[J Y p,J Y mn,J Y mx,J Y md,.func (.func k) #[] #[]]] (O #[J Y os,J Y oe,J Y oc,J Z oh,J Z ol,V ost,J Y 0]))) (w:World):
  QR 216 #[O #[J Y p,J Y mn,J Y mx,J Y md,.func (.func k) #[] #[]],O #[J Y sx,J Y ex,J Y 1,J Z mh,J Z ml,V false,J Y 0],O #[J Y sy,J Y ey,J Y 1,J Z nh,J Z nl,V false,J Y 0]] w (O #[J Y os,J Y oe,J Y oc,J Z oh,J Z ol,V ost,J Y 0]):=by
 rcases hsw with h|h
 ·exact WV p mn mx md k sx ex mh ml sy ey nh nl ax Ah Al ay Bh Bl b gs ga Gh Gl ls la Lh Ll dz Qh Ql os oe oc oh ol lost ost Rn Rl Ez h hdz A8 hend w
 ·exact WU p mn mx md k sx ex mh ml sy ey nh nl ax Ah Al ay Bh Bl b gs ga Gh Gl ls la Lh Ll dz Qh Ql os oe oc oh ol lost ost Rn Rl Ez h hdz A8 hend w
theorem EJ(R:Nat)(h:0<R):(((R/18446744073709551616:Nat):Int)==0&&((R%18446744073709551616:Nat):Int)==0)=false:=by
 rw[Bool.and_eq_false_iff]
 by_cases c:R/18446744073709551616=0
 ·right;simp;omega
 ·left;simp;omega
theorem aC2(Q:Nat)(h:Q+1<340282366920938463463374607431768211456)(w:World):
  CT 238 #[O #[J Z ((Q/18446744073709551616:Nat):Int),J Z ((Q%18446744073709551616:Nat):Int)],O #[J Z 0,J Z 1]] w fun e w'=>∃b,e=X (.tuple #[O #[J Z (((Q+1)/18446744073709551616:Nat):Int),J Z (((Q+1)%18446744073709551616:Nat):Int)],V b])∧Gr w w':=by
 have:=aC1 Q 1 om om h w
 rw[show((1/18446744073709551616:Nat):Int)=0 from rfl,show((1%18446744073709551616:Nat):Int)=1 from rfl]at this
 exact this
theorem FY(md:Int):Same (xX md) 0 (if md=4 then 1 else 0) 0 0 false:=⟨rfl,fun _=>rfl,fun h=>by cases h⟩
theorem yR(p mn mx md:Int)(k:Nat)(x y g l:bI)(hx:VO x)(hy:VO y)(cx:x.c=1)(cy:y.c=1)(b:Bool)
  (hb:b=decide (x.e-(127-nb x.M:Nat)<y.e-(127-nb y.M:Nat)∨x.e-(127-nb x.M:Nat)=y.e-(127-nb y.M:Nat)∧x.M*2^(127-nb x.M)<y.M*2^(127-nb y.M)))
  (hgl:b=false∧g=x∧l=y∨b=true∧g=y∧l=x) (w:World):
  CT 216 #[O #[J Y p,J Y mn,J Y mx,J Y md,.func (.func k) #[] #[]],O #[J Y x.s,J Y x.e,J Y 1,J Z (((x.M/18446744073709551616:Nat):Int)),J Z (((x.M%18446744073709551616:Nat):Int)),V false,J Y 0],O #[J Y y.s,J Y y.e,J Y 1,J Z (((y.M/18446744073709551616:Nat):Int)),J Z (((y.M%18446744073709551616:Nat):Int)),V false,J Y 0]] w fun r w'=>∃(c s e:Int) (M:Nat) (st:Bool),Same (ou md g l) c s e M st∧r=X (O #[J Y s,J Y e,J Y c,J Z (((M/18446744073709551616:Nat):Int)),J Z (((M%18446744073709551616:Nat):Int)),V st,J Y 0])∧Gr w w':=by
 obtain⟨fx0,fxn⟩:=hx.fin cx
 obtain⟨fy0,fyn⟩:=hy.fin cy
 have hxe0:=hx.e0
 have hxe1:=hx.e1
 have aFa:=hy.e0
 have aE9:=hy.e1
 have Rn:KR 236 #[O #[J Y x.s,J Y x.e,J Y 1,J Z (((x.M/18446744073709551616:Nat):Int)),J Z (((x.M%18446744073709551616:Nat):Int)),V false,J Y 0]] (O #[J Y x.s,J Y (x.e-(127-nb x.M:Nat)),J Y 1,J Z (((x.M*2^(127-nb x.M)/18446744073709551616:Nat):Int)),J Z (((x.M*2^(127-nb x.M)%18446744073709551616:Nat):Int)),V false,J Y 0]):=fun w=>zL x.s x.e 1 x.M false fx0 fxn om om w
 have Rl:KR 236 #[O #[J Y y.s,J Y y.e,J Y 1,J Z (((y.M/18446744073709551616:Nat):Int)),J Z (((y.M%18446744073709551616:Nat):Int)),V false,J Y 0]] (O #[J Y y.s,J Y (y.e-(127-nb y.M:Nat)),J Y 1,J Z (((y.M*2^(127-nb y.M)/18446744073709551616:Nat):Int)),J Z (((y.M*2^(127-nb y.M)%18446744073709551616:Nat):Int)),V false,J Y 0]):=fun w=>zL y.s y.e 1 y.M false fy0 fyn om om w
 obtain⟨bx1,ug⟩:=jf x.M fx0 fxn
 obtain⟨BL,L9⟩:=jf y.M fy0 fyn
 have Ez:KR 237 #[O #[J Y x.s,J Y (x.e-(127-nb x.M:Nat)),J Y 1,J Z (((x.M*2^(127-nb x.M)/18446744073709551616:Nat):Int)),J Z (((x.M*2^(127-nb x.M)%18446744073709551616:Nat):Int)),V false,J Y 0],O #[J Y y.s,J Y (y.e-(127-nb y.M:Nat)),J Y 1,J Z (((y.M*2^(127-nb y.M)/18446744073709551616:Nat):Int)),J Z (((y.M*2^(127-nb y.M)%18446744073709551616:Nat):Int)),V false,J Y 0]] (V b):=fun w=>DN x.s _ 1 y.s _ 1 _ _ false false b om om hb w
 have hg0:0<g.M∧nb g.M≤106∧-5000≤g.e∧g.e≤5000:=by rcases hgl with⟨_,rfl,rfl⟩|⟨_,rfl,rfl⟩<;>exact⟨by assumption,by assumption,by assumption,by assumption⟩
 have hl0:0<l.M∧nb l.M≤106∧-5000≤l.e∧l.e≤5000:=by rcases hgl with⟨_,rfl,rfl⟩|⟨_,rfl,rfl⟩<;>exact⟨by assumption,by assumption,by assumption,by assumption⟩
 obtain⟨g0,gn,ge0,ge1⟩:=hg0
 obtain⟨l0,ln,le0,le1⟩:=hl0
 obtain⟨bg1,bg2⟩:=jf g.M g0 gn
 obtain⟨bl1,bl2⟩:=jf l.M l0 ln
 --the order
 have hord:l.e-(127-nb l.M:Nat)≤g.e-(127-nb g.M:Nat)∧(l.e-(127-nb l.M:Nat)=g.e-(127-nb g.M:Nat)→l.M*2^(127-nb l.M)≤g.M*2^(127-nb g.M)):=by
  rcases hgl with⟨rfl,rfl,rfl⟩|⟨rfl,rfl,rfl⟩
  ·have:=of_decide_eq_false hb.symm
   refine⟨om,fun e=>?_⟩
   omega
  ·have:=of_decide_eq_true hb.symm
   refine⟨om,fun e=>?_⟩
   omega
 obtain⟨d,hd⟩:∃d:Nat,(d:Int)=(g.e-(127-nb g.M:Nat))-(l.e-(127-nb l.M:Nat)):=⟨((g.e-(127-nb g.M:Nat))-(l.e-(127-nb l.M:Nat))).toNat,om⟩
 obtain⟨T1,T2,T3⟩:=S9 md g l _ _ d _ _ g0 gn l0 ln rfl rfl rfl rfl hd (fun h0=>hord.2 om) ⟨om,om⟩
 have hsw:∀gs ga Gh Gl ls la Lh Ll:Int,gs=g.s→ga=g.e-(127-nb g.M:Nat)→Gh=((g.M*2^(127-nb g.M)/18446744073709551616:Nat):Int)→Gl=((g.M*2^(127-nb g.M)%18446744073709551616:Nat):Int)→ls=l.s→la=l.e-(127-nb l.M:Nat)→Lh=((l.M*2^(127-nb l.M)/18446744073709551616:Nat):Int)→Ll=((l.M*2^(127-nb l.M)%18446744073709551616:Nat):Int)→
   (b=false∧x.s=gs∧x.e-(127-nb x.M:Nat)=ga∧((x.M*2^(127-nb x.M)/18446744073709551616:Nat):Int)=Gh∧((x.M*2^(127-nb x.M)%18446744073709551616:Nat):Int)=Gl∧y.s=ls∧y.e-(127-nb y.M:Nat)=la∧((y.M*2^(127-nb y.M)/18446744073709551616:Nat):Int)=Lh∧((y.M*2^(127-nb y.M)%18446744073709551616:Nat):Int)=Ll)∨
   (b=true∧y.s=gs∧y.e-(127-nb y.M:Nat)=ga∧((y.M*2^(127-nb y.M)/18446744073709551616:Nat):Int)=Gh∧((y.M*2^(127-nb y.M)%18446744073709551616:Nat):Int)=Gl∧x.s=ls∧x.e-(127-nb x.M:Nat)=la∧((x.M*2^(127-nb x.M)/18446744073709551616:Nat):Int)=Lh∧((x.M*2^(127-nb x.M)%18446744073709551616:Nat):Int)=Ll):=by
  rintro gs ga Gh Gl ls la Lh Ll rfl rfl rfl rfl rfl rfl rfl rfl
  rcases hgl with⟨rfl,rfl,rfl⟩|⟨rfl,rfl,rfl⟩
  ·exact .inl ⟨rfl,rfl,rfl,rfl,rfl,rfl,rfl,rfl,rfl⟩
  ·exact .inr ⟨rfl,rfl,rfl,rfl,rfl,rfl,rfl,rfl,rfl⟩
 have UN:=hsw _ _ _ _ _ _ _ _ rfl rfl rfl rfl rfl rfl rfl rfl
 have hdz:IntKind.i64.wrap ((g.e-(127-nb g.M:Nat))-(l.e-(127-nb l.M:Nat)))=(d:Int):=by rw[←hd,IntKind.wrap_i64];omega
 have A8:=fun w=>aAr (l.M*2^(127-nb l.M)) om d w
 clear hsw hord
 obtain⟨A,hA⟩:∃A,g.M*2^(127-nb g.M)=A:=⟨_,rfl⟩
 obtain⟨B,hB⟩:∃B,l.M*2^(127-nb l.M)=B:=⟨_,rfl⟩
 rw[hA]at T1 T2 T3 bg1 bg2
 rw[hB]at T1 T2 T3 bl1 bl2
 rw[hA,hB]at UN
 rw[hB]at A8
 have hQ:B/2^d≤B:=Nat.div_le_self _ _
 by_cases hs:g.s=l.s
 ·obtain⟨t1,t2⟩:=T1 hs
  refine(o7 p mn mx md k _ _ _ _ _ _ _ _ _ _ _ _ _ _ b _ _ _ _ _ _ _ _ d _ _ g.s (g.e-(127-nb g.M:Nat)) 1 (((A+B/2^d)/18446744073709551616:Nat):Int) (((A+B/2^d)%18446744073709551616:Nat):Int) _ _ Rn Rl Ez UN hdz A8 (.inl ⟨hs,fun w=>aC1 A (B/2^d) om om t1 w,rfl,rfl,rfl,rfl⟩) w).mono ?_
  rintro r w' ⟨rfl,hg⟩
  exact⟨_,_,_,_,_,t2,rfl,hg⟩
 ·have hne:(g.s==l.s)=false:=by simp[hs]
  by_cases hr:B%2^d=0
  ·obtain⟨t1,t2,t3⟩:=T3 hs hr
   have hl:decide (B%2^d≠0)=false:=by simp[hr]
   rw[hl]at A8
   rcases Nat.eq_zero_or_pos (A-B/2^d)with hz|hz
   ·have hsub:=fun w=>aAm A (B/2^d) om t1 w
    rw[hz]at hsub
    refine(o7 p mn mx md k _ _ _ _ _ _ _ _ _ _ _ _ _ _ b _ _ _ _ _ _ _ _ d _ _ (if md=4 then 1 else 0) 0 0 0 0 _ false Rn Rl Ez UN hdz A8 (.inr (.inr (.inr ⟨hne,rfl,hsub,fun w=>xg p mn mx md k w⟩))) w).mono ?_
    rintro r w' ⟨rfl,hg⟩
    refine⟨_,_,_,0,_,?_,rfl,hg⟩
    rw[t3 hz]
    exact FY md
   ·refine(o7 p mn mx md k _ _ _ _ _ _ _ _ _ _ _ _ _ _ b _ _ _ _ _ _ _ _ d _ _ g.s (g.e-(127-nb g.M:Nat)) 1 (((A-B/2^d)/18446744073709551616:Nat):Int) (((A-B/2^d)%18446744073709551616:Nat):Int) _ false Rn Rl Ez UN hdz A8 (.inr (.inr (.inl ⟨hne,rfl,fun w=>aAm A (B/2^d) om t1 w,EJ _ hz,rfl,rfl,rfl,rfl⟩))) w).mono ?_
    rintro r w' ⟨rfl,hg⟩
    exact⟨_,_,_,_,_,t2 hz,rfl,hg⟩
  ·obtain⟨t1,t2,t3⟩:=T2 hs hr
   have hl:decide (B%2^d≠0)=true:=by simp[hr]
   rw[hl]at A8
   refine(o7 p mn mx md k _ _ _ _ _ _ _ _ _ _ _ _ _ _ b _ _ _ _ _ _ _ _ d _ _ g.s (g.e-(127-nb g.M:Nat)) 1 (((A-(B/2^d+1))/18446744073709551616:Nat):Int) (((A-(B/2^d+1))%18446744073709551616:Nat):Int) _ true Rn Rl Ez UN hdz A8 (.inr (.inl ⟨hne,rfl,⟨_,_,fun w=>aC2 (B/2^d) om w,fun w=>aAm A (B/2^d+1) om t1 w⟩,EJ _ t2,rfl,rfl,rfl,rfl⟩)) w).mono ?_
   rintro r w' ⟨rfl,hg⟩
   exact⟨_,_,_,_,_,t3,rfl,hg⟩
theorem total_any(p mn mx md:Int)(k:Nat)(x y:bI)(hx:VO x)(hy:VO y)(cx:x.c=1)(cy:y.c=1)(w:World):
  CT 216 #[O #[J Y p,J Y mn,J Y mx,J Y md,.func (.func k) #[] #[]],O #[J Y x.s,J Y x.e,J Y 1,J Z (((x.M/18446744073709551616:Nat):Int)),J Z (((x.M%18446744073709551616:Nat):Int)),V false,J Y 0],O #[J Y y.s,J Y y.e,J Y 1,J Z (((y.M/18446744073709551616:Nat):Int)),J Z (((y.M%18446744073709551616:Nat):Int)),V false,J Y 0]] w fun r w'=>∃(c s e:Int) (M:Nat) (st:Bool),Same (ou md x y) c s e M st∧r=X (O #[J Y s,J Y e,J Y c,J Z (((M/18446744073709551616:Nat):Int)),J Z (((M%18446744073709551616:Nat):Int)),V st,J Y 0])∧Gr w w':=by
 obtain⟨b,hb⟩:∃b:Bool,b=decide (x.e-(127-nb x.M:Nat)<y.e-(127-nb y.M:Nat)∨x.e-(127-nb x.M:Nat)=y.e-(127-nb y.M:Nat)∧x.M*2^(127-nb x.M)<y.M*2^(127-nb y.M)):=⟨_,rfl⟩
 cases b
 ·exact yR p mn mx md k x y x y hx hy cx cy false hb (.inl ⟨rfl,rfl,rfl⟩) w
 ·rw[OA]
  exact yR p mn mx md k x y y x hx hy cx cy true hb (.inr ⟨rfl,rfl,rfl⟩) w
theorem Ur(md:Int):(xX md).s =0∨(xX md).s =1:=by
 unfold xX;dsimp only;split
 ·exact .inr rfl
 ·exact .inl rfl
theorem Nc(md:Int)(x y:bI)(hx:x.s=0∨x.s=1)(hy:y.s=0∨y.s=1):((ou md x y).c =0∨(ou md x y).c =1)∧((ou md x y).s =0∨(ou md x y).s =1):=by
 unfold ou
 split
 ·exact⟨.inr rfl,hx⟩
 ·split
  ·exact⟨.inl rfl,Ur md⟩
  ·split
   ·exact⟨.inr rfl,hx⟩
   ·exact⟨.inr rfl,hy⟩
theorem sum_any(p mn mx md:Int)(k:Nat)(x y:bI)(hx:VO x)(hy:VO y)(h2:max x.c y.c<3)(w:World):
  CT 169 #[O #[J Y p,J Y mn,J Y mx,J Y md,.func (.func k) #[] #[]],O #[J Y x.s,J Y x.e,J Y x.c,J Z (((x.M/18446744073709551616:Nat):Int)),J Z (((x.M%18446744073709551616:Nat):Int)),V false,J Y 0],O #[J Y y.s,J Y y.e,J Y y.c,J Z (((y.M/18446744073709551616:Nat):Int)),J Z (((y.M%18446744073709551616:Nat):Int)),V false,J Y 0]] w fun e w'=>∃os oe oc oh ol ot,rC (fM md x y) os oe oc oh ol ot∧e=X (O #[J Y os,J Y oe,J Y oc,J Z oh,J Z ol,V ot,J Y 0])∧Gr w w':=by
 have c0:=hx.c0
 have d0:=hy.c0
 unfold fM
 rw[if_neg (show ¬3≤max x.c y.c by omega)]
 by_cases c1:y.c<x.c
 ·rw[if_pos c1]
  refine(aAl p mn mx md k _ _ _ _ _ _ _ _ _ _ _ _ c1 w).mono ?_
  rintro r w' ⟨rfl,hg⟩
  exact⟨_,_,_,_,_,_,hx.same,rfl,hg⟩
 ·rw[if_neg c1]
  by_cases c2:x.c<y.c
  ·rw[if_pos c2]
   refine(sum_lt p mn mx md k _ _ _ _ _ _ _ _ _ _ _ _ c2 w).mono ?_
   rintro r w' ⟨rfl,hg⟩
   exact⟨_,_,_,_,_,_,hy.same,rfl,hg⟩
  ·rw[if_neg c2]
   by_cases c3:x.c=1
   ·rw[if_pos c3]
    refine(W_ p mn mx md k _ _ _ _ _ _ _ _ _ _ _ _ c3 om (fun os oe oc oh ol ot=>rC (ou md x y) os oe oc oh ol ot) (fun w=>?_) w).mono (fun e w' h=>h)
    refine(total_any p mn mx md k x y hx hy c3 om w).mono ?_
    rintro r w' ⟨c,s,e,M,st,hsm,rfl,hg⟩
    obtain⟨t1,t2⟩:=Nc md x y hx.nN hy.nN
    have tc:=hsm.1
    exact⟨_,_,_,_,_,_,⟨M,rfl,rfl,hsm,om,om,fun hc=>by rw[←hsm.2.1 hc];exact t2⟩,rfl,hg⟩
   ·rw[if_neg c3]
    by_cases c4:x.s=y.s
    ·rw[if_pos c4]
     refine(aAk p mn mx md k _ _ _ _ _ _ _ _ _ _ _ _ om (by simp[c3]) c4 w).mono ?_
     rintro r w' ⟨rfl,hg⟩
     exact⟨_,_,_,_,_,_,hx.same,rfl,hg⟩
    ·rw[if_neg c4]
     by_cases c5:x.c=2
     ·rw[if_pos c5]
      refine(Xa p mn mx md k _ _ _ _ _ _ _ _ _ _ _ _ c5 om (by simp[c4]) w).mono ?_
      rintro r w' ⟨rfl,hg⟩
      exact⟨_,_,_,_,_,_,⟨0,rfl,rfl,⟨rfl,fun _=>rfl,(fun h=>by cases h)⟩,(show(0:Int)≤4 by omega),(show(4:Int)≤4 by omega),fun _=>.inl rfl⟩,rfl,hg⟩
     ·rw[if_neg c5]
      refine(sum_nil p mn mx md k _ _ _ _ _ _ _ _ _ _ _ _ om om (by simp[c4]) _ _ _ _ _ _ (fun w=>xg p mn mx md k w) w).mono ?_
      rintro r w' ⟨rfl,hg⟩
      exact⟨_,_,_,_,_,_,⟨0,rfl,rfl,FY md,om,om,fun _=>Ur md⟩,rfl,hg⟩
theorem VO.turn{x:bI}(h:VO x):VO (jZ x):=⟨h.c0,h.c4,by have:=h.nN;unfold jZ;dsimp only;omega,h.fin,h.nil,h.e0,h.e1⟩
theorem oz(md:Int)(x y:bI)(h:3≤max x.c y.c):fM md x y=⟨max x.c y.c,0,0,0⟩:=by unfold fM;rw[if_pos h]
theorem yg(p mn mx md:Int)(k:Nat)(x y:bI)(hx:VO x)(hy:VO y)(w:World):
  CT 74 #[O #[J Y p,J Y mn,J Y mx,J Y md,.func (.func k) #[] #[]],.func (.func 169) #[] #[],O #[J Y x.s,J Y x.e,J Y x.c,J Z (((x.M/18446744073709551616:Nat):Int)),J Z (((x.M%18446744073709551616:Nat):Int)),V false,J Y 0],O #[J Y y.s,J Y y.e,J Y y.c,J Z (((y.M/18446744073709551616:Nat):Int)),J Z (((y.M%18446744073709551616:Nat):Int)),V false,J Y 0]] w fun e w'=>∃os oe oc oh ol ot,rC (fM md x y) os oe oc oh ol ot∧e=X (O #[J Y os,J Y oe,J Y oc,J Z oh,J Z ol,V ot,J Y 0])∧Gr w w':=by
 by_cases h:3≤max x.c y.c
 ·refine(jV p mn mx md k _ _ _ _ _ _ _ _ _ _ _ _ 169 _ rfl h w).mono ?_
  rintro r w' ⟨rfl,hg⟩
  have:=hx.c4
  have:=hy.c4
  rw[oz md x y h]
  exact⟨_,_,_,_,_,_,F6 _ h om,rfl,hg⟩
 ·exact G_ p mn mx md k _ _ _ _ _ _ _ _ _ _ _ _ _ rfl om _ (fun w=>sum_any p mn mx md k x y hx hy om w) w
theorem FN(p mn mx md:Int)(k:Nat)(x y:bI)(hx:VO x)(hy:VO y)(hxM:x.M<18446744073709551616)(hyM:y.M<18446744073709551616)(h2:max x.c y.c<3)(w:World):
  QR 174 #[O #[J Y p,J Y mn,J Y mx,J Y md,.func (.func k) #[] #[]],O #[J Y x.s,J Y x.e,J Y x.c,J Z (((x.M/18446744073709551616:Nat):Int)),J Z (((x.M%18446744073709551616:Nat):Int)),V false,J Y 0],O #[J Y y.s,J Y y.e,J Y y.c,J Z (((y.M/18446744073709551616:Nat):Int)),J Z (((y.M%18446744073709551616:Nat):Int)),V false,J Y 0]] w (O #[J Y ((cu x y).s),J Y ((cu x y).e),J Y ((cu x y).c),J Z ((((cu x y).M /18446744073709551616:Nat):Int)),J Z ((((cu x y).M %18446744073709551616:Nat):Int)),V false,J Y 0]):=by
 have HT:Hid (∀w,QR 218 #[O #[J Y x.s,J Y x.e],O #[J Y y.s,J Y y.e]] w (O #[J Y (mulS x.s y.s),J Y (x.e+y.e)])):=fun w=>times_any x.s x.e y.s y.e hx.nN hy.nN (by have:=hx.e0;omega) (by have:=hx.e1;omega) (by have:=hy.e0;omega) (by have:=hy.e1;omega) w
 have hMm:KR 193 #[J Z ((x.M%18446744073709551616:Nat):Int),J Z ((y.M%18446744073709551616:Nat):Int)] (O #[J Z ((x.M*y.M/18446744073709551616:Nat):Int),J Z ((x.M*y.M%18446744073709551616:Nat):Int)]):=fun w=>by
  rw[Nat.mod_eq_of_lt hxM,Nat.mod_eq_of_lt hyM];exact aDF x.M y.M hxM hyM w
 have c0:=hx.c0
 have d0:=hy.c0
 obtain⟨cx,sx,ex,Mx⟩:=x
 obtain⟨cy,sy,ey,My⟩:=y
 dsimp only at*
 rcases(show cx=0∨cx=1∨cx=2 by omega)with rfl|rfl|rfl<;>rcases(show cy=0∨cy=1∨cy=2 by omega)with rfl|rfl|rfl
 ·rw[show cu ⟨0,sx,ex,Mx⟩ ⟨0,sy,ey,My⟩=⟨0,mulS sx sy,ex+ey,0⟩ from by unfold cu;dsimp only;rw[if_neg de,if_neg de,if_pos (by decide)]]
  refine(JI p mn mx md k _ _ _ _ _ _ _ _ _ _ _ _ HT w).mono ?_
  rintro r w' ⟨rfl,hg⟩
  exact⟨by simp,hg⟩
 ·rw[show cu ⟨0,sx,ex,Mx⟩ ⟨1,sy,ey,My⟩=⟨0,mulS sx sy,ex+ey,0⟩ from by unfold cu;dsimp only;rw[if_neg de,if_neg de,if_pos (by decide)]]
  refine(JH p mn mx md k _ _ _ _ _ _ _ _ _ _ _ _ HT w).mono ?_
  rintro r w' ⟨rfl,hg⟩
  exact⟨by simp,hg⟩
 ·rw[show cu ⟨0,sx,ex,Mx⟩ ⟨2,sy,ey,My⟩=⟨4,mulS sx sy,ex+ey,0⟩ from by unfold cu;dsimp only;rw[if_neg de,if_pos (by decide)]]
  refine(JG p mn mx md k _ _ _ _ _ _ _ _ _ _ _ _ HT w).mono ?_
  rintro r w' ⟨rfl,hg⟩
  exact⟨by simp,hg⟩
 ·rw[show cu ⟨1,sx,ex,Mx⟩ ⟨0,sy,ey,My⟩=⟨0,mulS sx sy,ex+ey,0⟩ from by unfold cu;dsimp only;rw[if_neg de,if_neg de,if_pos (by decide)]]
  refine(JF p mn mx md k _ _ _ _ _ _ _ _ _ _ _ _ HT w).mono ?_
  rintro r w' ⟨rfl,hg⟩
  exact⟨by simp,hg⟩
 ·rw[show cu ⟨1,sx,ex,Mx⟩ ⟨1,sy,ey,My⟩=⟨1,mulS sx sy,ex+ey,Mx*My⟩ from by unfold cu;dsimp only;rw[if_neg de,if_neg de,if_neg de,if_neg (by decide)]]
  exact JE p mn mx md k _ _ _ _ _ _ _ _ _ _ _ _ HT _ _ hMm w
 ·rw[show cu ⟨1,sx,ex,Mx⟩ ⟨2,sy,ey,My⟩=⟨2,mulS sx sy,ex+ey,0⟩ from by unfold cu;dsimp only;rw[if_neg de,if_neg de,if_neg de,if_pos (by decide)]]
  refine(JD p mn mx md k _ _ _ _ _ _ _ _ _ _ _ _ HT w).mono ?_
  rintro r w' ⟨rfl,hg⟩
  exact⟨by simp,hg⟩
 ·rw[show cu ⟨2,sx,ex,Mx⟩ ⟨0,sy,ey,My⟩=⟨4,mulS sx sy,ex+ey,0⟩ from by unfold cu;dsimp only;rw[if_neg de,if_pos (by decide)]]
  refine(JC p mn mx md k _ _ _ _ _ _ _ _ _ _ _ _ HT w).mono ?_
  rintro r w' ⟨rfl,hg⟩
  exact⟨by simp,hg⟩
 ·rw[show cu ⟨2,sx,ex,Mx⟩ ⟨1,sy,ey,My⟩=⟨2,mulS sx sy,ex+ey,0⟩ from by unfold cu;dsimp only;rw[if_neg de,if_neg de,if_neg de,if_pos (by decide)]]
  refine(JB p mn mx md k _ _ _ _ _ _ _ _ _ _ _ _ HT w).mono ?_
  rintro r w' ⟨rfl,hg⟩
  exact⟨by simp,hg⟩
 ·rw[show cu ⟨2,sx,ex,Mx⟩ ⟨2,sy,ey,My⟩=⟨2,mulS sx sy,ex+ey,0⟩ from by unfold cu;dsimp only;rw[if_neg de,if_neg de,if_neg de,if_pos (by decide)]]
  refine(JA p mn mx md k _ _ _ _ _ _ _ _ _ _ _ _ HT w).mono ?_
  rintro r w' ⟨rfl,hg⟩
  exact⟨by simp,hg⟩
theorem rG(x y:bI)(h:3≤max x.c y.c):cu x y=⟨max x.c y.c,0,0,0⟩:=by unfold cu;rw[if_pos h]
theorem zG{x y:bI}(hx:VO x)(hy:VO y)(hxn:nb x.M≤53)(hyn:nb y.M≤53)(x0:-2000≤x.e)(x1:x.e≤2000)(y0:-2000≤y.e)(y1:y.e≤2000):VO (cu x y):=by
 have hm:mulS x.s y.s=0∨mulS x.s y.s=1:=by unfold mulS;split<;>simp
 have IB:=hx.c4
 have cy4:=hy.c4
 have vO:=hx.c0
 have cy0:=hy.c0
 unfold cu
 split
 ·rename_i h;exact⟨by dsimp only;omega,by dsimp only;omega,.inl rfl,fun c=>by dsimp only at c;omega,fun _=>rfl,(by dsimp only;omega),(by dsimp only;omega)⟩
 ·rename_i h
  split
  ·exact⟨(by dsimp only;omega),(by dsimp only;omega),hm,(fun c=>by cases c),fun _=>rfl,by dsimp only;omega,by dsimp only;omega⟩
  ·split
   ·exact⟨(by dsimp only;omega),(by dsimp only;omega),hm,(fun c=>by cases c),fun _=>rfl,by dsimp only;omega,by dsimp only;omega⟩
   ·split
    ·exact⟨(by dsimp only;omega),(by dsimp only;omega),hm,(fun c=>by cases c),fun _=>rfl,by dsimp only;omega,by dsimp only;omega⟩
    ·rename_i h1 h2 h3
     have ex:=(hx.fin om).1
     have ey:=(hy.fin om).1
     refine⟨(by dsimp only;omega),(by dsimp only;omega),hm,fun _=>⟨Nat.mul_pos ex ey,?_⟩,fun c=>absurd rfl c,by dsimp only;omega,by dsimp only;omega⟩
     refine nT ?_
     have a1:=pY x.M
     have a2:=pY y.M
     have a3:=aW hxn
     have a4:=aW hyn
     have:x.M*y.M<2^53*2^53:=Nat.mul_lt_mul'' om om
     rw[←Nat.pow_add]at this
     exact this
theorem sF(p mn mx md:Int)(k:Nat)(x y:bI)(hx:VO x)(hy:VO y)(hxM:x.M<18446744073709551616)(hyM:y.M<18446744073709551616)(w:World):
  QR 74 #[O #[J Y p,J Y mn,J Y mx,J Y md,.func (.func k) #[] #[]],.func (.func 174) #[] #[],O #[J Y x.s,J Y x.e,J Y x.c,J Z (((x.M/18446744073709551616:Nat):Int)),J Z (((x.M%18446744073709551616:Nat):Int)),V false,J Y 0],O #[J Y y.s,J Y y.e,J Y y.c,J Z (((y.M/18446744073709551616:Nat):Int)),J Z (((y.M%18446744073709551616:Nat):Int)),V false,J Y 0]] w (O #[J Y ((cu x y).s),J Y ((cu x y).e),J Y ((cu x y).c),J Z ((((cu x y).M /18446744073709551616:Nat):Int)),J Z ((((cu x y).M %18446744073709551616:Nat):Int)),V false,J Y 0]):=by
 by_cases h:3≤max x.c y.c
 ·refine(jV p mn mx md k _ _ _ _ _ _ _ _ _ _ _ _ 174 _ rfl h w).mono ?_
  rintro r w' ⟨rfl,hg⟩
  rw[rG x y h]
  exact⟨by simp,hg⟩
 ·refine(yj p mn mx md k _ _ _ _ _ _ _ _ _ _ _ _ _ rfl om (fun os oe oc oh ol ot=>os=(cu x y).s ∧oe=(cu x y).e ∧oc=(cu x y).c ∧oh=(((cu x y).M /18446744073709551616:Nat):Int)∧ol=(((cu x y).M %18446744073709551616:Nat):Int)∧ot=false) (fun w=>?_) w).mono ?_
  ·refine(FN p mn mx md k x y hx hy hxM hyM om w).mono ?_
   rintro r w' ⟨rfl,hg⟩
   exact⟨_,_,_,_,_,_,⟨rfl,rfl,rfl,rfl,rfl,rfl⟩,rfl,hg⟩
  ·rintro r w' ⟨os,oe,oc,oh,ol,ot,⟨rfl,rfl,rfl,rfl,rfl,rfl⟩,rfl,hg⟩
   exact⟨rfl,hg⟩
theorem Qx{f p mx one inf sg nan:Int}(h:aI f p mx one inf sg nan)(mode:Int)(m0:0≤mode)(m1:mode≤4)(x y:bI)(hx:VO x)(hy:VO y)(cx:x.c≤1)(cy:y.c≤1)(x0:-4000≤x.e)(x1:x.e≤4000)(y0:-4000≤y.e)(y1:y.e≤4000)(bx kx qx gy ky qy:Nat){w:World}(HX:aB 4 w (.slice (some ⟨bx,0,none⟩) kx qx) x.M)(HY:aB 4 w (.slice (some ⟨gy,0,none⟩) ky qy) y.M):
  CT 168 #[J Y f,J Y mode,O #[J Y x.s,.slice (some ⟨bx,0,none⟩) kx qx,J Y x.e,V false],O #[J Y y.s,.slice (some ⟨gy,0,none⟩) ky qy,J Y y.e,V false]] w fun e w'=>∃z fl,bV p (1-mx) mx one inf sg nan mode (fM mode x y) z fl∧e=X (O #[J Z z,J Y fl])∧Gb w w':=by
 have c0:=hx.c0
 have d0:=hy.c0
 have zx:=Eo HX
 have zy:=Eo HY
 have hzero:∀s:Int,(s=0∨s=1)→KR 64 #[J Y f,J Y s] (O #[J Z (sw s sg 0),J Y 0]):=fun s hs w=>jS h s hs w
 have hnil:∀o:bI,o=xX mode→bV p (1-mx) mx one inf sg nan mode o (sw (if mode=4 then 1 else 0) sg 0) 0:=fun o ho=>by rw[ho];exact .inl ⟨rfl,rfl,rfl⟩
 have htot:∀(ex ey sT:Int) (MT:Nat),-4000≤ex→ex≤4000→-4000≤ey→ey≤4000→aAc x.s y.s (x.M*2^(ex-min ex ey).toNat) (y.M*2^(ey-min ex ey).toNat) sT MT→Hid (∀w',Gb w w'→CT 215 #[O #[J Y x.s,.slice (some ⟨bx,0,none⟩) kx qx,J Y ex,V false],O #[J Y y.s,.slice (some ⟨gy,0,none⟩) ky qy,J Y ey,V false]] w' fun e w''=>∃b k c,aB 1000 w'' (.slice (some ⟨b,0,none⟩) k c) MT∧e=X (O #[J Y sT,.slice (some ⟨b,0,none⟩) k c,J Y (min ex ey),V false])∧Gb w' w''):=fun ex ey sT MT a1 a2 a3 a4 hT w' hg=>Gn x.s y.s ex ey bx kx qx gy ky qy x.M y.M (HX.gb hg) (HY.gb hg) a1 a2 a3 a4 sT MT hT
 rcases(show x.c=0∨x.c=1 by omega)with xc|xc<;>rcases(show y.c=0∨y.c=1 by omega)with yc|yc
 ·
  have xM:=hx.nil om
  have yM:=hy.nil om
  rw[decide_eq_true xM]at zx
  rw[decide_eq_true yM]at zy
  have hsum:fM mode x y=if x.s=y.s then x else xX mode:=by
   unfold fM
   rw[if_neg (show ¬3≤max x.c y.c by omega),if_neg (show ¬y.c<x.c by omega),if_neg (show ¬x.c<y.c by omega),if_neg (show ¬x.c=1 by omega),if_neg (show ¬x.c=2 by omega)]
  by_cases hs:x.s=y.s
  ·have hT:=htot y.e y.e x.s 0 y0 y1 y0 y1 (.inl ⟨hs,rfl,by rw[xM,yM];simp⟩)
   refine(Qp f mode x.s y.s x.e y.e x.s _ bx kx qx gy ky qy 0 zx zy hT rfl (by simp[hs]) _ (hzero x.s hx.nN)).mono ?_
   rintro r w' ⟨rfl,hg⟩
   refine⟨_,_,?_,rfl,hg⟩
   rw[hsum,if_pos hs]
   exact .inl ⟨xc,rfl,rfl⟩
  ·have hT:=htot y.e y.e x.s 0 y0 y1 y0 y1 (.inr (.inl ⟨hs,by rw[xM,yM];simp,rfl,by rw[xM,yM];simp⟩))
   rw[hsum,if_neg hs]
   by_cases hm:mode=4
   ·refine(Qr f mode x.s y.s x.e y.e x.s _ bx kx qx gy ky qy 0 zx zy hT rfl (by simp[hs]) (by simp[hm]) _ (hzero 1 (.inr rfl))).mono ?_
    rintro r w' ⟨rfl,hg⟩
    have:=hnil _ rfl
    rw[if_pos hm]at this
    exact⟨_,_,this,rfl,hg⟩
   ·refine(Qq f mode x.s y.s x.e y.e x.s _ bx kx qx gy ky qy 0 zx zy hT rfl (by simp[hs]) (by simp[hm]) _ (hzero 0 (.inl rfl))).mono ?_
    rintro r w' ⟨rfl,hg⟩
    have:=hnil _ rfl
    rw[if_neg hm]at this
    exact⟨_,_,this,rfl,hg⟩
 ·
  have xM:=hx.nil om
  have yM:=(hy.fin yc).1
  rw[decide_eq_true xM]at zx
  rw[decide_eq_false (by omega)]at zy
  have hsum:fM mode x y=y:=by
   unfold fM
   rw[if_neg (show ¬3≤max x.c y.c by omega),if_neg (show ¬y.c<x.c by omega),if_pos (show x.c<y.c by omega)]
  have hT:=htot y.e y.e y.s y.M y0 y1 y0 y1 (by
   have e1:(y.e-min y.e y.e).toNat =0:=om
   rw[e1,xM]
   simp only[Nat.pow_zero,Nat.mul_one]
   by_cases hs:x.s=y.s
   ·exact .inl ⟨hs,hs.symm,om⟩
   ·exact .inr (.inr ⟨hs,om,rfl,om⟩))
  rw[show min y.e y.e=y.e by omega]at hT
  refine(Qs f mode x.s y.s x.e y.e y.s y.e bx kx qx gy ky qy y.M zx zy hT yM (fun z fl=>bV p (1-mx) mx one inf sg nan mode y z fl) (fun v w hB=>m_ h mode m0 m1 y yc hy.nN yM om om 1000 om v w hB)).mono ?_
  rw[hsum]
  exact fun e w' h=>h
 ·
  have xM:=(hx.fin xc).1
  have yM:=hy.nil om
  rw[decide_eq_false (by omega)]at zx
  rw[decide_eq_true yM]at zy
  have hsum:fM mode x y=x:=by
   unfold fM
   rw[if_neg (show ¬3≤max x.c y.c by omega),if_pos (show y.c<x.c by omega)]
  have hT:=htot x.e x.e x.s x.M x0 x1 x0 x1 (by
   have e1:(x.e-min x.e x.e).toNat =0:=om
   rw[e1,yM]
   simp only[Nat.pow_zero,Nat.mul_one]
   by_cases hs:x.s=y.s
   ·exact .inl ⟨hs,rfl,om⟩
   ·exact .inr (.inl ⟨hs,om,rfl,om⟩))
  rw[show min x.e x.e=x.e by omega]at hT
  refine(Qu f mode x.s y.s x.e y.e x.s x.e bx kx qx gy ky qy x.M zx zy hT xM (fun z fl=>bV p (1-mx) mx one inf sg nan mode x z fl) (fun v w hB=>m_ h mode m0 m1 x xc hx.nN xM om om 1000 om v w hB)).mono ?_
  rw[hsum]
  exact fun e w' h=>h
 ·
  have xM:=(hx.fin xc).1
  have yM:=(hy.fin yc).1
  rw[decide_eq_false (by omega)]at zx
  rw[decide_eq_false (by omega)]at zy
  have hsum:fM mode x y=ou mode x y:=by
   unfold fM
   rw[if_neg (show ¬3≤max x.c y.c by omega),if_neg (show ¬y.c<x.c by omega),if_neg (show ¬x.c<y.c by omega),if_pos xc]
  have hmin:-5000≤min x.e y.e∧min x.e y.e≤5000:=om
  rw[hsum]
  have hb:ig x y=(x.M*2^(x.e-min x.e y.e).toNat,y.M*2^(y.e-min x.e y.e).toNat):=rfl
  obtain⟨A,hA⟩:∃A,x.M*2^(x.e-min x.e y.e).toNat =A:=⟨_,rfl⟩
  obtain⟨B,hB⟩:∃B,y.M*2^(y.e-min x.e y.e).toNat =B:=⟨_,rfl⟩
  have hA0:0<A:=by rw[←hA];exact Nat.mul_pos xM (Nat.pow_pos de)
  have hB0:0<B:=by rw[←hB];exact Nat.mul_pos yM (Nat.pow_pos de)
  have Gz:=htot x.e y.e
  rw[hA,hB]at hb Gz
  unfold ou
  rw[hb]
  dsimp only
  by_cases hs:x.s=y.s
  ·rw[if_pos hs]
   exact wC f mode x.s y.s x.e y.e x.s _ bx kx qx gy ky qy (A+B) zx zy (Gz _ _ x0 x1 y0 y1 (.inl ⟨hs,rfl,rfl⟩)) om _ (fun v w hB=>m_ h mode m0 m1 ⟨1,x.s,min x.e y.e,A+B⟩ rfl hx.nN (by dsimp only;omega) hmin.1 hmin.2 1000 om v w hB)
  ·rw[if_neg hs]
   by_cases hab:A=B
   ·rw[if_pos hab]
    have hT:=Gz x.s 0 x0 x1 y0 y1 (.inr (.inl ⟨hs,om,rfl,om⟩))
    by_cases hm:mode=4
    ·refine(Qw f mode x.s y.s x.e y.e x.s _ bx kx qx gy ky qy 0 zx zy hT rfl (by simp[hs]) (by simp[hm]) _ (hzero 1 (.inr rfl))).mono ?_
     rintro r w' ⟨rfl,hg⟩
     have:=hnil _ rfl
     rw[if_pos hm]at this
     exact⟨_,_,this,rfl,hg⟩
    ·refine(Qv f mode x.s y.s x.e y.e x.s _ bx kx qx gy ky qy 0 zx zy hT rfl (by simp[hs]) (by simp[hm]) _ (hzero 0 (.inl rfl))).mono ?_
     rintro r w' ⟨rfl,hg⟩
     have:=hnil _ rfl
     rw[if_neg hm]at this
     exact⟨_,_,this,rfl,hg⟩
   ·rw[if_neg hab]
    by_cases hlt:B<A
    ·rw[if_pos hlt]
     exact wC f mode x.s y.s x.e y.e x.s _ bx kx qx gy ky qy (A-B) zx zy (Gz _ _ x0 x1 y0 y1 (.inr (.inl ⟨hs,om,rfl,rfl⟩))) om _ (fun v w hB=>m_ h mode m0 m1 ⟨1,x.s,min x.e y.e,A-B⟩ rfl hx.nN (by dsimp only;omega) hmin.1 hmin.2 1000 om v w hB)
    ·rw[if_neg hlt]
     exact wC f mode x.s y.s x.e y.e y.s _ bx kx qx gy ky qy (B-A) zx zy (Gz _ _ x0 x1 y0 y1 (.inr (.inr ⟨hs,om,rfl,rfl⟩))) om _ (fun v w hB=>m_ h mode m0 m1 ⟨1,y.s,min x.e y.e,B-A⟩ rfl hy.nN (by dsimp only;omega) hmin.1 hmin.2 1000 om v w hB)
theorem Tn(mode:Int)(x y:bI)(hx:VO x)(hy:VO y):0≤(fM mode x y).c ∧(fM mode x y).c ≤4:=by
 have:=hx.c0
 have:=hx.c4
 have:=hy.c0
 have:=hy.c4
 have ht:=Nc mode x y hx.nN hy.nN
 unfold fM
 split
 ·dsimp only;omega
 ·split
  ·omega
  ·split
   ·omega
   ·split
    ·omega
    ·split
     ·omega
     ·split
      ·exact⟨de,de⟩
      ·unfold xX;dsimp only;omega
