import Derived.Test.YthoelefkjpjhfaaGreatDoorK0
set_option linter.all false
set_option maxRecDepth 1000000
set_option maxHeartbeats 40000000
open Bool renaming false → J
open Go.Proofs.Tryz
namespace Go.Proofs.YthoelefkjpjhfaaGreatDoor
open Go.RowKit
attribute [local go_sem] aB dL
variable {p mx aN sg nan f e g a mn fb sp fl v W c s:Int}
def aHm(p mn mx md:Int)(k:Nat)(s e mh ml:Int)(st:Bool)(z:Int)(HZ:Qk p mn mx s z)(w:ak):
  Zx p mn mx md k s e 0 mh ml st 0 w z 0:=by
 go_enter func172,ntmps172;go_wp2_with (go_at_call 239;refine ku (HZ _) λw1 au=>?_;have iy:=au.VT w);exact cO (by simp[results,results172,go_sem,iy])
def aCt(p mn mx md:Int)(k:Nat)(s e mh ml:Int)(st:Bool)(fl z:Int)(HZ:Ag p mn mx s z)(w:ak):
  Zx p mn mx md k s e 2 mh ml st fl w z fl:=by
 go_enter func172,ntmps172;go_wp2;go_region_held3 (λw'=>jU w' w.heap.size 0 1 2 (.int .i64 p) (.int .i64 mn) (.int .i64 mx)/\lW w' (w.heap.size+1) 0 6 (.int .i64 s) (.int .i64 fl))(exact qX)(first|(go_at_call 240;refine ku (HZ _) λw1 au=>?_;have iy:=au.VT w))
 all_goals go_wp2
 all_goals
  exact cO (by simp[results,results172,go_sem,iy])
def aHl(p mn mx md:Int)(k:Nat)(s e mh ml:Int)(st:Bool)(z:Int)(HZ:Ag p mn mx s z)(w:ak):
  Zx p mn mx md k s e 2 mh ml st 0 w z 0:=aCt p mn mx md k s e mh ml st 0 z HZ w
def aHk(p mn mx md:Int)(k:Nat)(s e mh ml:Int)(st:Bool)(z:Int)(HZ:KR 238 #[lT p mn mx] (.int .u64 z))(w:ak):
  Zx p mn mx md k s e 3 mh ml st 0 w z 0:=by
 go_enter func172,ntmps172;go_wp2_with (go_at_call 238;refine ku (HZ _) λw1 au=>?_;have iy:=au.VT w);exact cO (by simp[results,results172,go_sem,iy])
def aHj(p mn mx md:Int)(k:Nat)(s e mh ml:Int)(st:Bool)(z:Int)(HZ:IL p mn mx z 1)(w:ak):
  Zx p mn mx md k s e 4 mh ml st 0 w z 1:=by
 go_enter func172,ntmps172;go_wp2_with (go_at_call 171;refine ku (HZ _) λw1 au=>?_;have iy:=au.VT w);exact cO (by simp[results,results172,go_sem,iy])
def aCu(p mn mx md:Int)(k:Nat)(s e mh ml:Int)(st:Bool)(of:Int)(Q:Int->Int->Prop)(G:Int->Int)(hG:Hid (∀z fl,Q z fl->bits .or .i64 fl of=G fl))(HR:Hid (∀w,CT 187 #[eu p mn mx md k,.int .i64 s,.int .i64 e,aS mh ml,.bool st] w (yG Q w)))(w:ak):
  CT 172 #[eu p mn mx md k,bP s e 1 mh ml st of] w λe w'=>∃z fl,Q z fl/\e=.returned (aU z (G fl))/\Gr w w':=by
 go_enter func172,ntmps172;go_upto_region 6 with(go_at_call 187;refine(HR _).mono ?_;rintro e w1 ⟨z,fl,hq,rfl,au⟩;have iy:=au.VT w;have:=au.e1 (w.heap.size+1) 6 _;have jB:=aA iy.1;have hor:=hG.out z fl hq);obtain⟨w2,kK⟩:=dP (w1.alloc (.cells #[.int .u64 z,.int .i64 fl] 100));have aC:Gr w1 w2:=by rw[<-kK];exact(Gr.refl _).alloc _ _
 have x0:w2.cell? ⟨w1.heap.size,0,none⟩=some (.int .u64 z):=by rw[<-kK];simp[go_sem]
 have x1:w2.cell? ⟨w1.heap.size,1,none⟩=some (.int .i64 fl):=by rw[<-kK];simp[go_sem]
 have xz1:dL w2 w1.heap.size 1:=by rw[<-kK];simp[go_sem]
 have mG:w1.heap.size<w2.heap.size:=by rw[<-kK];simp
 rw[kK];clear kK;have lJ:=aC.VT w;have:=aC.e1 (w.heap.size+1) 6 _;have ZK:Gr w w2:=Gr.g;go_wp2;refine gY (v:=aU z (G fl)) (by simp[results,results172,go_sem,lJ]) rfl ⟨z,fl,hq,rfl,?_⟩;exact Gr.g
def aKm(h:fl=0\/fl=16\/fl=20\/fl=24):bits .or .i64 fl 0=fl:=by rcases h with rfl|rfl|rfl|rfl<;>decide+kernel
def aAZ(p mn mx md:Int)(k:Nat)(s e mh ml:Int)(st:Bool)(Q:Int->Int->Prop)(hQ:∀z fl,Q z fl->fl=0\/fl=16\/fl=20\/fl=24)(HR:Hid (∀w,CT 187 #[eu p mn mx md k,.int .i64 s,.int .i64 e,aS mh ml,.bool st] w (yG Q w)))(w:ak):
  CT 172 #[eu p mn mx md k,bP s e 1 mh ml st 0] w λe w'=>∃z fl,Q z fl/\e=.returned (aU z fl)/\Gr w w':=
 aCu p mn mx md k s e mh ml st 0 Q (λfl=>fl) (λz fl h=>aKm (hQ z fl h)) HR w
def kS(p mn mx md:Int)(k:Nat)(sx ex cx xh xl sy ey cy yh yl:Int)(tx ty:Bool)(own:Nat)(m:Int)(hm:max cx cy=m)(h3:3<=m)(w:ak):
  QR 173 #[eu p mn mx md k,.func (.func own) #[] #[],bP sx ex cx xh xl tx 0,bP sy ey cy yh yl ty 0] w (bP 0 0 m 0 0 J 0):=by
 go_enter func173,ntmps173;go_wp2;go_returns;exact⟨rfl,Gr.g⟩
def aMF{P:Prop}(h:P:=by
 intro c;rcases h with⟨rfl,rfl,rfl,rfl,rfl,rfl,rfl⟩|⟨rfl,rfl,rfl,rfl,rfl,rfl,rfl⟩<;>omega):P:=h
def aMH{P:Prop}(h:P:=by
 have h1:=Bc M;have h2:=gZ (om:nb M<=128);have h3:(2:Nat)^128=340282366920938463463374607431768211456:=de;omega):P:=h
def WG{P:Prop}(h:P:=by
 exact⟨om,om,om,om,om,om,om,om,om⟩):P:=h
structure VO (x:d_):Prop where
 c0:0<=x.c
 c4:x.c<=4
 lD:x.s=0\/x.s=1
 fin:x.c=1->0<x.M/\nb x.M<=106
 nil:x.c≠1->x.M=0
 e0:-5000<=x.e
 e1:x.e<=5000
def aCr(M:Nat)(h:nb M<=106):M<340282366920938463463374607431768211456:=by
 exact aMH
def dO(p mx one aN sg nan a:Int)(x:d_):Prop:=a<2*sg/\gX p mx one aN sg nan a x.c x.s x.e (x.M:Int)\/2*sg<=a/\x=⟨4,0,0,0⟩
def Ko{one:Int}(h:bI f p mx one aN sg nan)(v0:0<v)(v1:v<aN)(hn:nX p mx one v e g):one<=g/\g<2*one/\-2000<=e/\e<=1100:=by
 obtain⟨k,m,e0,hm,hg,he,h1,h2⟩:=hn;have Dp:1<=m:=by
  rcases hm with⟨_,rfl,_⟩|⟨_,rfl,_⟩
  .omega
  .have:=Int.emod_nonneg v (show one≠0 by have:=h.bounds;omega);have:=h.bounds;omega
 have hk:k<=60:=by
  rcases uq 60 k with c|c
  .exfalso;have h3:(2:Int)^61<=2^k:=by
    have:=gZ (om:61<=k);have e1:((2^61:Nat):Int)<=((2^k:Nat):Int):=om;rw[oM,oM]at e1;exact e1
   have h4:1*(2:Int)^k<=m*2^k:=Int.mul_le_mul_of_nonneg_right Dp om;have h5:(2:Int)^61=2305843009213693952:=de;have:=h.bounds;omega
  .exact c
 have hd:one<=v->v/one<=2*mx+1:=by
  exact aMF
 have LZ:one<=v->0<=v/one:=by
  exact aMF
 have hb:=h.bounds;rcases hm with⟨c,_,rfl⟩|⟨c,_,rfl⟩
 .exact⟨h1,h2,om,om⟩
 .have:=hd c;have:=LZ c;exact⟨h1,h2,om,om⟩
def sN{one:Int}(h:bI f p mx one aN sg nan)(hu:gX p mx one aN sg nan W c s e g):0<=c/\c<=4/\(s=0\/s=1)/\0<=g/\g<2*one/\-2000<=e/\e<=1100/\(c=1->one<=g)/\(c≠1->g=0):=by
 have hb:=h.bounds;obtain⟨v,hs,hc⟩:=hu;rcases hc with⟨_,rfl,rfl,rfl⟩|⟨_,_,rfl,rfl,rfl⟩|⟨_,rfl,rfl,rfl⟩|⟨_,rfl,rfl,rfl⟩|⟨v0,v1,rfl,hn⟩
 .exact WG
 .exact WG
 .exact WG
 .exact WG
 .have:=Ko h v0 v1 hn;exact WG
def bU{one:Int}(h:bI f p mx one aN sg nan){x:d_}(hx:dO p mx one aN sg nan a x):VO x/\x.M<9007199254740992/\(x.c≠1->x.M=0)/\-2000<=x.e/\x.e<=2000/\nb x.M<=53:=by
 have hb:=h.bounds;rcases hx with⟨_,hu⟩|⟨_,rfl⟩
 .obtain⟨h1,h2,h3,h4,h5,h6,h7,h8,h9⟩:=sN h hu;have hM:x.M<9007199254740992:=om;have hn:nb x.M<=53:=vS (by simpa using hM);exact⟨⟨h1,h2,h3,λc=>⟨by have:=h8 c;omega,om⟩,λc=>by have:=h9 c;omega,om,om⟩,hM,λc=>by have:=h9 c;omega,om,om,hn⟩
 .exact⟨⟨de,de,.inl rfl,(λc=>by cases c),λ_=>rfl,de,de⟩,de,λ_=>rfl,de,de,de⟩
def dO.one{one:Int}(h:bI f p mx one aN sg nan){x y:d_}(hx:dO p mx one aN sg nan a x)(hy:dO p mx one aN sg nan a y):x=y:=by
 rcases hx with⟨c,hu⟩|⟨c,rfl⟩<;>rcases hy with⟨d,hv⟩|⟨d,rfl⟩
 .obtain⟨e1,e2,e3,e4⟩:=gX.one h hu hv;obtain⟨c1,s1,x1,M1⟩:=x;obtain⟨c2,s2,x2,M2⟩:=y;dsimp only at e1 e2 e3 e4;have:M1=M2:=om;subst e1 e2 e3 this;rfl
 .exfalso;omega
 .exfalso;omega
 .rfl
def jP{one:Int}(h:bI f p mx one aN sg nan)(hm:zo p mn mx fb sp one aN sg nan)(a:Int)(a0:0<=a)(a1:aI a):
  ∃x:d_,dO p mx one aN sg nan a x/\∀w,QR 174 #[lT p mn mx,.int .u64 a] w (bP x.s x.e x.c (((x.M/18446744073709551616:Nat):Int)) (((x.M%18446744073709551616:Nat):Int)) J 0):=by
 have hb:=h.bounds;by_cases hf:a<2*sg
 .obtain⟨c,s,e,g,hu⟩:=aDg h a a0 hf;obtain⟨u1,u2,u3,u4,u5,u6,u7,u8,u9⟩:=sN h hu;obtain⟨G,rfl⟩:=lq u4;refine⟨⟨c,s,e,G⟩,.inl ⟨hf,hu⟩,λw=>?_⟩;refine(XW hm a a0 hf w).mono ?_;rintro r w' ⟨c',s',e',g',hu',rfl,hg⟩;obtain⟨rfl,rfl,rfl,rfl⟩:=gX.one h hu hu';refine⟨?_,hg⟩;dsimp only
  rw[(om:G/18446744073709551616=0),(om:G%18446744073709551616=G)];rfl
 .exact⟨⟨4,0,0,0⟩,.inr ⟨om,rfl⟩,λw=>UQ hm a om a1 w⟩
def rF(o:d_)(os oe oc oh ol:Int)(ot:Bool):Prop:=∃M:Nat,oh=((M/18446744073709551616:Nat):Int)/\ol=((M%18446744073709551616:Nat):Int)/\Same o oc os oe M ot/\0<=oc/\oc<=4/\(oc<=2->os=0\/os=1)
def VO.same{x:d_}(h:VO x):rF x x.s x.e x.c ((x.M/18446744073709551616:Nat):Int) ((x.M%18446744073709551616:Nat):Int) J:=by
 refine⟨x.M,rfl,rfl,Same.self x (λc=>?_),h.c0,h.c4,λ_=>h.lD⟩;obtain⟨a,b⟩:=h.fin c;have:=h.e0;have:=h.e1;exact⟨a,aCr _ b,om,om⟩
def qB{one:Int}(hm:zo p mn mx fb sp one aN sg nan)(md:Int)(k:Nat)(hk:zT md k)(o:d_)(os oe oc oh ol:Int)(ot:Bool)(h:rF o os oe oc oh ol ot)(w:ak):
  CT 172 #[eu p mn mx md k,bP os oe oc oh ol ot 0] w λe w'=>∃z fl,cZ p mn mx one aN sg nan md o z fl/\e=.returned (aU z fl)/\Gr w w':=by
 obtain⟨M,rfl,rfl,⟨h1,h2,h3⟩,c0,c4,hs⟩:=h;have hp:p<=53/\0<=p:=by rcases hm with h|h<;>omega
 rcases(om:oc=0\/oc=1\/oc=2\/oc=3\/oc=4)with rfl|rfl|rfl|rfl|rfl
 .refine(aHm p mn mx md k os oe _ _ ot (sw os sg 0) (λw=>oK hm os _ ?_ w) w).mono ?_
  .rcases hs om with rfl|rfl
   .exact .inl ⟨rfl,by simp[sw]⟩
   .exact .inr ⟨rfl,by simp[sw]⟩
  .rintro r w' ⟨rfl,hg⟩;exact⟨_,_,.inl ⟨h1,by rw[h2 (by omega)],rfl⟩,rfl,hg⟩
 .obtain⟨m0,m1,m2,e0,e1,m3⟩:=h3 rfl;refine(aAZ p mn mx md k os oe _ _ ot (λz fl=>∃z0,bM p mn mx one aN md os M oe ot z0 fl/\z=sw os sg z0) (λz fl ⟨_,h,_⟩=>h.fl) (λw=>?_) w).mono ?_
  .refine(BO hm md md k hk os (hs om) oe e0 e1 M m0 m1 ot (λc=>by have:=m2 c;omega) w).mono ?_;rintro r w' ⟨z,fl,hr,rfl,hg⟩;exact⟨_,_,⟨z,hr,aCj _ _ _⟩,rfl,hg⟩
  .rintro r w' ⟨z,fl,⟨z0,hr,rfl⟩,rfl,hg⟩;refine⟨_,_,.inr (.inl ⟨h1,z0,?_,by rw[h2 (by omega)]⟩),rfl,hg⟩;rw[h2 (by omega)];exact(m3 p mn mx one aN md z0 fl hp.2 hp.1).1 hr
 .refine(aHl p mn mx md k os oe _ _ ot (sw os sg aN) (λw=>ou hm os _ ?_ w) w).mono ?_
  .rcases hs om with rfl|rfl
   .exact .inl ⟨rfl,by simp[sw]⟩
   .exact .inr ⟨rfl,by simp[sw];omega⟩
  .rintro r w' ⟨rfl,hg⟩;exact⟨_,_,.inr (.inr (.inl ⟨h1,by rw[h2 (by omega)],rfl⟩)),rfl,hg⟩
 .refine(aHk p mn mx md k os oe _ _ ot nan (λw=>MK hm w) w).mono ?_;rintro r w' ⟨rfl,hg⟩;exact⟨_,_,.inr (.inr (.inr (.inl ⟨h1,rfl,rfl⟩))),rfl,hg⟩
 .refine(aHj p mn mx md k os oe _ _ ot nan (λw=>dF hm w) w).mono ?_;rintro r w' ⟨rfl,hg⟩;exact⟨_,_,.inr (.inr (.inr (.inr ⟨h1,rfl,rfl⟩))),rfl,hg⟩
def Ya(m:Int)(h0:3<=m)(h1:m<=4):rF ⟨m,0,0,0⟩ 0 0 m 0 0 J:=⟨0,rfl,rfl,⟨rfl,λ_=>rfl,λh=>om⟩,om,h1,λ_=>.inl rfl⟩
def aMG{P:Prop}(h:P:=by
 rintro e w' ⟨rfl,hg⟩;exact⟨_,Ob (by first|omega|(unfold V8;split<;>omega)) om rfl,hg⟩):P:=h
def J_(p mn mx md:Int)(k:Nat)(w:ak):
  QR 176 #[eu p mn mx md k] w (bP (if md=4 then 1 else 0) 0 0 0 0 J 0):=by
 by_cases c:md=4
 .subst c;go_enter func176,ntmps176;go_wp2;go_returns;exact⟨rfl,Gr.g⟩
 .have c1:(md==4)=J:=jA;rw[aH c];go_enter func176,ntmps176;go_wp2;go_returns;exact⟨rfl,Gr.g⟩
def aSG(M:Nat)(hM:M<340282366920938463463374607431768211456)(n:Nat)(hn:n<=128)(h:M*2^n<340282366920938463463374607431768211456)(w:ak):
  QR 256 #[iK M,.int .i64 n] w (iK (M*2^n)):=by
 have e0:((M/18446744073709551616:Nat):Int)*18446744073709551616+((M%18446744073709551616:Nat):Int)=(M:Int):=om;have hk:(bnd (n:Int)).toNat =n:=by unfold bnd;rw[aH om,aH (by omega)];simp
 refine(xJ _ _ (n:Int) om om om om w).mono ?_;rintro e w' ⟨rfl,hg⟩;refine⟨Si ?_ ?_,hg⟩
 .unfold tu;rw[hk,e0,cast_mul];omega
 .unfold tq;rw[hk,e0,cast_mul];omega
def aSm(A B:Nat)(hA:A<340282366920938463463374607431768211456)(hB:B<340282366920938463463374607431768211456)(h:A+B<340282366920938463463374607431768211456)(w:ak):
  CT 245 #[iK A,iK B] w λe w'=>∃b,e=.returned (.tuple #[iK (A+B),.bool b])/\Gr w w':=by
 refine(Zo _ _ _ _ om om om om om om om om w).mono ?_;exact aMG
def aNV(A B:Nat)(hA:A<340282366920938463463374607431768211456)(hB:B<=A)(w:ak):
  CT 246 #[iK A,iK B] w λe w'=>∃b,e=.returned (.tuple #[iK (A-B),.bool b])/\Gr w w':=by
 refine(I_ _ _ _ _ om om om om om om om om w).mono ?_;exact aMG
def aJF(A B:Nat)(hA:A<340282366920938463463374607431768211456)(hB:B<340282366920938463463374607431768211456)(w:ak):
  CT 246 #[iK A,iK B] w λe w'=>∃x y,e=.returned (.tuple #[aS x y,.bool (decide (A<B))])/\Gr w w':=by
 refine(I_ _ _ _ _ om om om om om om om om w).mono ?_;rintro e w' ⟨rfl,hg⟩;refine⟨_,_,Ob rfl rfl ?_,hg⟩;first|(rw[aKy _ _ _ _ om om om (by omega)];rw[decide_eq_decide];omega)|(rw[decide_eq_decide];omega)
def OV(s e c:Int)(M:Nat)(st:Bool)(h0:0<M)(hn:nb M<=106)(e0:-50000<=e)(e1:e<=50000)(w:ak):
  QR 242 #[iP s e c M st 0] w (iP s (e-(127-nb M:Nat)) c (M*2^(127-nb M)) st 0):=by
 have hb:=nJ M h0 hn;have hM:M<340282366920938463463374607431768211456:=by
  exact aMH
 have HZ:KR 252 #[iK M] (.int .i64 (128-(nb M:Int))):=λw=>aFj M hM w;have HL:KR 256 #[iK M,.int .i64 ((127-nb M:Nat):Int)] (iK (M*2^(127-nb M))):=λw=>aSG M hM (127-nb M) om om w;obtain⟨L,hL⟩:=dP ((127-nb M:Nat):Int);obtain⟨u,hu⟩:=dP (128-(nb M:Int));obtain⟨y,hy⟩:=dP (e-L:Int);rw[hL]at HL;rw[hu]at HZ;rw[hL,hy];have u1:IntKind.i64.wrap (u-1)=L:=by rw[dI];omega
 have u2:IntKind.i64.wrap (e-L)=y:=by rw[dI];omega
 generalize((M*2^(127-nb M)/18446744073709551616:Nat):Int)=Ah at*
 generalize((M*2^(127-nb M)%18446744073709551616:Nat):Int)=Al at*
 generalize((M/18446744073709551616:Nat):Int)=mh at*
 generalize((M%18446744073709551616:Nat):Int)=ml at*
 clear hb hu hL hy;go_enter func242,ntmps242;go_wp2_with (first|(go_at_call 252;refine ku (HZ _) λw1 au=>?_;have:=au.Y70 w;have:=au.KL w)|(go_at_call 256;refine ku (HL _) λw2 aC=>?_;have:=aC.Y70 w;have lJ:=aC.KL w))
 exact cO (by simp[results,results242,go_sem,lJ])
def U9(s e c s' e' c':Int)(A B:Nat)(st st' b:Bool)(hA:A<340282366920938463463374607431768211456)(hB:B<340282366920938463463374607431768211456)(hb:b=decide (e<e'\/e=e'/\A<B))(w:ak):
  QR 243 #[iP s e c A st 0,iP (s') (e') (c') B (st') 0] w (.bool b):=by
 have HS:Hid (∀w,CT 246 #[iK A,iK B] w λe w'=>∃x y,e=.returned (.tuple #[aS x y,.bool (decide (A<B))])/\Gr w w'):=λw=>aJF A B hA hB w;have ZN:Hid (b=decide (e<e'\/e=e'/\A<B)):=hb;obtain⟨t,ht⟩:=dP (decide (A<B));rw[ht]at HS;have ht':Hid (decide (A<B)=t):=ht;clear hb ht;generalize((A/18446744073709551616:Nat):Int)=ah at*
 generalize((A%18446744073709551616:Nat):Int)=al at*
 generalize((B/18446744073709551616:Nat):Int)=bh at*
 generalize((B%18446744073709551616:Nat):Int)=bl' at*
 by_cases ce:e=e'
 .subst ce;go_enter func243,ntmps243;go_wp2_with (go_at_call 246;refine(HS _).mono ?_;rintro z w1 ⟨x,y,rfl,au⟩);go_returns;exact⟨b_ (lu Value.bool (by rw[ZN.out,<-ht'.out];simp)),Gr.g⟩
 .have c1:(e==e')=J:=by simp[ce]
  go_enter func243,ntmps243;go_wp2;go_returns;exact⟨b_ (lu Value.bool (by rw[ZN.out];simp[ce])),Gr.g⟩
def aFl(s t:Int)(hs:s=0\/s=1)(ht:t=0\/t=1):bits .xor .i64 s t=mulS s t:=by
 rcases hs with rfl|rfl<;>rcases ht with rfl|rfl<;>decide+kernel
def times_any(s e s' e':Int)(hs:s=0\/s=1)(ht:s'=0\/s'=1)(e0:-50000<=e)(e1:e<=50000)(f0:-50000<=e')(f1:e'<=50000)(w:ak):
  QR 177 #[kV s e,kV s' e'] w (kV (mulS s s') (e+e')):=by
 have u1:=aFl s s' hs ht;have u2:IntKind.i64.wrap (e+e')=e+e':=by rw[dI];omega
 generalize mulS s s'=z at*
 go_enter func177,ntmps177;go_wp2;go_returns;exact⟨b_ (by simp[u1,u2]),Gr.g⟩
def aTk(A B:Nat)(hA:aI A)(hB:aI B)(w:ak):
  QR 178 #[.int .u64 (A:Nat),.int .u64 (B:Nat)] w (iK (A*B)):=by
 refine(Kq _ _ om om om om w).mono ?_;rintro e w' ⟨rfl,hg⟩;refine⟨Si ?_ ?_,hg⟩
 .rw[<-FI];omega
 .rw[<-FI];omega
def aMI{P:Prop}(h:P:=by
 go_enter func66,ntmps66;go_wp2_with (first|(go_at_call 139;refine kw (HF _) ?_)|(go_at_call 126;first|(with_reducible refine ku (fM.out _) λw1 au=>?_;have jy:=au.bK w;have mD:=aA jy.1)|(with_reducible refine ku (gK.out _) λw2 aC=>?_;have kH:=aC.bK w;have:=aC.MS w1;have jB:=aA kH.1))|(go_at_call 140;first|(with_reducible refine ku (jV.out _) λva aT=>?_;have:=aT.bK w;have:=aT.f_ w1;have:=aT.f_ w2)|(with_reducible refine ku (mZ.out _) λvb bJ=>?_;have:=bJ.bK w;have:=bJ.f_ w1;have:=bJ.f_ w2))|(go_at_call 141;refine ku (HL _) λw9 bV=>?_;have jD:=bV.bK w))
 exact dX (by simp[results,results66,go_sem,jD])):P:=h
def aMJ{P:Prop}(h:P:=by
 subst e1 e2;go_enter func66,ntmps66;go_wp2_with (first|(go_at_call 139;refine kw (HF _) ?_)|(go_at_call 126;first|(with_reducible refine ku (fM.out _) λw1 au=>?_;have jy:=au.bK w;have mD:=aA jy.1)|(with_reducible refine ku (gK.out _) λw2 aC=>?_;have kH:=aC.bK w;have:=aC.MS w1;have jB:=aA kH.1))|(go_at_call 140;first|(with_reducible refine ku (jV.out _) λva aT=>?_;have:=aT.bK w;have:=aT.f_ w1;have:=aT.f_ w2)|(with_reducible refine ku (mZ.out _) λvb bJ=>?_;have:=bJ.bK w;have:=bJ.f_ w1;have:=bJ.f_ w2))|(go_at_call 142;refine ku (HL _) λw9 bV=>?_;have jD:=bV.bK w))
 exact dX (by simp[results,results66,go_sem,jD])):P:=h
def aMK{P:Prop}(h:P:=by
 subst e1 e2;go_enter func66,ntmps66;go_wp2_with (first|(go_at_call 139;refine kw (HF _) ?_)|(go_at_call 126;first|(with_reducible refine ku (fM.out _) λw1 au=>?_;have jy:=au.bK w;have mD:=aA jy.1)|(with_reducible refine ku (gK.out _) λw2 aC=>?_;have kH:=aC.bK w;have:=aC.MS w1;have jB:=aA kH.1))|(go_at_call 140;first|(with_reducible refine ku (jV.out _) λva aT=>?_;have:=aT.bK w;have:=aT.f_ w1;have:=aT.f_ w2)|(with_reducible refine ku (mZ.out _) λvb bJ=>?_;have:=bJ.bK w;have:=bJ.f_ w1;have:=bJ.f_ w2))|(go_at_call 136;refine ku (HL _) λw9 bV=>?_;have jD:=bV.bK w))
 exact dX (by simp[results,results66,go_sem,jD])):P:=h
def aF1{P:Prop}(h:P:=by
 go_enter func66,ntmps66;go_wp2_with (first|(go_at_call 139;refine kw (HF _) ?_)|(go_at_call 126;first|(with_reducible refine ku (fM.out _) λw1 au=>?_;have jy:=au.bK w;have mD:=aA jy.1)|(with_reducible refine ku (gK.out _) λw2 aC=>?_;have kH:=aC.bK w;have:=aC.MS w1;have jB:=aA kH.1))|(go_at_call 140;first|(with_reducible refine ku (jV.out _) λva aT=>?_;have:=aT.bK w;have:=aT.f_ w1;have:=aT.f_ w2))|(go_at_call 141;refine ku (HL _) λw9 bV=>?_;have jD:=bV.bK w))
 exact dX (by simp[results,results66,go_sem,jD])):P:=h
def aF2{P:Prop}(h:P:=by
 subst e1 e2;go_enter func66,ntmps66;go_wp2_with (first|(go_at_call 139;refine kw (HF _) ?_)|(go_at_call 126;first|(with_reducible refine ku (fM.out _) λw1 au=>?_;have jy:=au.bK w;have mD:=aA jy.1)|(with_reducible refine ku (gK.out _) λw2 aC=>?_;have kH:=aC.bK w;have:=aC.MS w1;have jB:=aA kH.1))|(go_at_call 140;first|(with_reducible refine ku (jV.out _) λva aT=>?_;have:=aT.bK w;have:=aT.f_ w1;have:=aT.f_ w2)|(with_reducible refine ku (mZ.out _) λvb bJ=>?_;have:=bJ.bK w;have:=bJ.f_ w1;have:=bJ.f_ w2))|(go_at_call 137;refine ku (HL _) λw9 bV=>?_;have jD:=bV.bK w))
 exact dX (by simp[results,results66,go_sem,jD])):P:=h
def NW(f aj a b:Int)(HF:dU f aj a b J)(z fl:Int)(HL:qJ f z fl)(w:ak):
  zn f aj a b w z fl:=by
 go_enter func66,ntmps66;go_wp2_with (first|(go_at_call 139;refine kw (HF _) ?_)|(go_at_call 136;refine ku (HL _) λw9 bV=>?_;have jD:=bV.bK w))
 exact dX (by simp[results,results66,go_sem,jD])
def aDY(f aj a b ca sa xa ga cb sb xb gb:Int)(HF:dU f aj a b true)(fM:bW f a ca sa xa ga)(gK:bW f b cb sb xb gb)(jV:bY ca sa xa ga true)(e4:(ca==4)=true)(z fl:Int)(HL:qR f true z fl)(w:ak):
  zn f aj a b w z fl:=by
 exact aF1
def aDX(f aj a b ca sa xa ga cb sb xb gb:Int)(HF:dU f aj a b true)(fM:bW f a ca sa xa ga)(gK:bW f b cb sb xb gb)(jV:bY ca sa xa ga true)(e4:(ca==4)=J)(t:Bool)(e5:(cb==4)=t)(z fl:Int)(HL:qR f t z fl)(w:ak):
  zn f aj a b w z fl:=by
 cases t
 .exact aF1
 .exact aF1
def aDW(f aj a b ca sa xa ga cb sb xb gb:Int)(HF:dU f aj a b true)(fM:bW f a ca sa xa ga)(gK:bW f b cb sb xb gb)(jV:bY ca sa xa ga J)(mZ:bY cb sb xb gb true)(e4:(ca==4)=J)(t:Bool)(e5:(cb==4)=t)(z fl:Int)(HL:qR f t z fl)(w:ak):
  zn f aj a b w z fl:=by
 cases t
 .exact aMI
 .exact aMI
def aJ4(f aj a b ca sa xa ga cb sb xb gb:Int)(HF:dU f aj a b true)(fM:bW f a ca sa xa ga)(gK:bW f b cb sb xb gb)(jV:bY ca sa xa ga J)(mZ:bY cb sb xb gb J)(e1:ca=0)(e2:cb=0)(z fl:Int)(HL:qJ f z fl)(w:ak):
  zn f aj a b w z fl:=by
 exact aMK
def aJX(f aj a b ca sa xa ga cb sb xb gb:Int)(HF:dU f aj a b true)(fM:bW f a ca sa xa ga)(gK:bW f b cb sb xb gb)(jV:bY ca sa xa ga J)(mZ:bY cb sb xb gb J)(e1:ca=2)(e2:cb=2)(z fl:Int)(HL:qJ f z fl)(w:ak):
  zn f aj a b w z fl:=by
 exact aMK
def aJZ(f aj a b ca sa xa ga cb sb xb gb:Int)(HF:dU f aj a b true)(fM:bW f a ca sa xa ga)(gK:bW f b cb sb xb gb)(jV:bY ca sa xa ga J)(mZ:bY cb sb xb gb J)(e1:ca=2)(e2:cb=0)(sp:Int)(a0:0<=sa)(a1:sa<=1)(b0:0<=sb)(b1:sb<=1)(Dp:(sa+sb).tmod 2=sp)(LY:(sa+sb)%2=sp)(z fl:Int)(HL:Gu f sp z fl)(w:ak):
  zn f aj a b w z fl:=by
 exact aMJ
def aJY(f aj a b ca sa xa ga cb sb xb gb:Int)(HF:dU f aj a b true)(fM:bW f a ca sa xa ga)(gK:bW f b cb sb xb gb)(jV:bY ca sa xa ga J)(mZ:bY cb sb xb gb J)(e1:ca=2)(e2:cb=1)(sp:Int)(a0:0<=sa)(a1:sa<=1)(b0:0<=sb)(b1:sb<=1)(Dp:(sa+sb).tmod 2=sp)(LY:(sa+sb)%2=sp)(z fl:Int)(HL:Gu f sp z fl)(w:ak):
  zn f aj a b w z fl:=by
 exact aMJ
def aJ3(f aj a b ca sa xa ga cb sb xb gb:Int)(HF:dU f aj a b true)(fM:bW f a ca sa xa ga)(gK:bW f b cb sb xb gb)(jV:bY ca sa xa ga J)(mZ:bY cb sb xb gb J)(e1:ca=0)(e2:cb=1)(sp:Int)(a0:0<=sa)(a1:sa<=1)(b0:0<=sb)(b1:sb<=1)(Dp:(sa+sb).tmod 2=sp)(LY:(sa+sb)%2=sp)(z fl:Int)(HL:Ar f sp z fl)(w:ak):
  zn f aj a b w z fl:=by
 exact aF2
def aJ2(f aj a b ca sa xa ga cb sb xb gb:Int)(HF:dU f aj a b true)(fM:bW f a ca sa xa ga)(gK:bW f b cb sb xb gb)(jV:bY ca sa xa ga J)(mZ:bY cb sb xb gb J)(e1:ca=0)(e2:cb=2)(sp:Int)(a0:0<=sa)(a1:sa<=1)(b0:0<=sb)(b1:sb<=1)(Dp:(sa+sb).tmod 2=sp)(LY:(sa+sb)%2=sp)(z fl:Int)(HL:Ar f sp z fl)(w:ak):
  zn f aj a b w z fl:=by
 exact aF2
def aJ0(f aj a b ca sa xa ga cb sb xb gb:Int)(HF:dU f aj a b true)(fM:bW f a ca sa xa ga)(gK:bW f b cb sb xb gb)(jV:bY ca sa xa ga J)(mZ:bY cb sb xb gb J)(e1:ca=1)(e2:cb=2)(sp:Int)(a0:0<=sa)(a1:sa<=1)(b0:0<=sb)(b1:sb<=1)(Dp:(sa+sb).tmod 2=sp)(LY:(sa+sb)%2=sp)(z fl:Int)(HL:Ar f sp z fl)(w:ak):
  zn f aj a b w z fl:=by
 exact aF2
def aJ1(f aj a b ca sa xa ga cb sb xb gb:Int)(HF:dU f aj a b true)(fM:bW f a ca sa xa ga)(gK:bW f b cb sb xb gb)(jV:bY ca sa xa ga J)(mZ:bY cb sb xb gb J)(e1:ca=1)(e2:cb=0)(sp:Int)(a0:0<=sa)(a1:sa<=1)(b0:0<=sb)(b1:sb<=1)(Dp:(sa+sb).tmod 2=sp)(LY:(sa+sb)%2=sp)(aN z:Int)(HI:KW 148 #[.int .i64 f] (.int .u64 aN))(HP:Af f sp aN z)(w:ak):
  zn f aj a b w z 2:=by
 subst e1 e2;go_enter func66,ntmps66;go_wp2_with (first|(go_at_call 139;refine kw (HF _) ?_)|(go_at_call 126;first|(with_reducible refine ku (fM.out _) λw1 au=>?_;have jy:=au.bK w;have mD:=aA jy.1)|(with_reducible refine ku (gK.out _) λw2 aC=>?_;have kH:=aC.bK w;have:=aC.MS w1;have jB:=aA kH.1))|(go_at_call 140;first|(with_reducible refine ku (jV.out _) λva aT=>?_;have:=aT.bK w;have:=aT.f_ w1;have:=aT.f_ w2)|(with_reducible refine ku (mZ.out _) λvb bJ=>?_;have aG8:=bJ.bK w;have:=bJ.f_ w1;have:=bJ.f_ w2))|(go_at_call 148;refine kw (HI _) ?_)|(go_at_call 118;refine kw (HP _) ?_))
 exact dX (by simp[results,results66,go_sem,aG8])
