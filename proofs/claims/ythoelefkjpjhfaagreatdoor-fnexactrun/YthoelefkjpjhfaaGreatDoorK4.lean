import Derived.Test.YthoelefkjpjhfaaGreatDoorK0
set_option linter.all false
set_option maxRecDepth 1000000
set_option maxHeartbeats 40000000
open Bool renaming false → J
open Go.Proofs.Tryz
namespace Go.Proofs.YthoelefkjpjhfaaGreatDoor
open Go.RowKit
attribute [local go_sem] aA dB
variable{p mx aI sg nan f e g a mn fb sp fl v W c s:Int}
def aFY(p mn mx md:Int)(k:Nat)(s e mh ml:Int)(st:Bool)(z:Int)(HZ:Om p mn mx s z)(w:World):
  XV p mn mx md k s e 0 mh ml st 0 w z 0:=by
 go_enter func172,ntmps172;go_wp2_with (go_at_call 239;refine ku (HZ _) λw1 ak=>?_;have gG:=ak.TW w);exact bW (by simp[results,Tryz.results172,go_sem,gG])
def aA3(p mn mx md:Int)(k:Nat)(s e mh ml:Int)(st:Bool)(fl z:Int)(HZ:yB p mn mx s z)(w:World):
  XV p mn mx md k s e 2 mh ml st fl w z fl:=by
 go_enter func172,ntmps172;go_wp2;go_region_held3 (λw'=>jv w' w.heap.size 0 1 2 (.int .i64 p) (.int .i64 mn) (.int .i64 mx)/\kM w' (w.heap.size+1) 0 6 (.int .i64 s) (.int .i64 fl))(exact o8)(first|(go_at_call 240;refine ku (HZ _) λw1 ak=>?_;have gG:=ak.TW w))
 all_goals go_wp2
 all_goals
  exact bW (by simp[results,Tryz.results172,go_sem,gG])
def aFX(p mn mx md:Int)(k:Nat)(s e mh ml:Int)(st:Bool)(z:Int)(HZ:yB p mn mx s z)(w:World):
  XV p mn mx md k s e 2 mh ml st 0 w z 0:=aA3 p mn mx md k s e mh ml st 0 z HZ w
def aFW(p mn mx md:Int)(k:Nat)(s e mh ml:Int)(st:Bool)(z:Int)(HZ:KR 238 #[jX p mn mx] (.int .u64 z))(w:World):
  XV p mn mx md k s e 3 mh ml st 0 w z 0:=by
 go_enter func172,ntmps172;go_wp2_with (go_at_call 238;refine ku (HZ _) λw1 ak=>?_;have gG:=ak.TW w);exact bW (by simp[results,Tryz.results172,go_sem,gG])
def aFV(p mn mx md:Int)(k:Nat)(s e mh ml:Int)(st:Bool)(z:Int)(HZ:F8 p mn mx z 1)(w:World):
  XV p mn mx md k s e 4 mh ml st 0 w z 1:=by
 go_enter func172,ntmps172;go_wp2_with (go_at_call 171;refine ku (HZ _) λw1 ak=>?_;have gG:=ak.TW w);exact bW (by simp[results,Tryz.results172,go_sem,gG])
def aA4(p mn mx md:Int)(k:Nat)(s e mh ml:Int)(st:Bool)(of:Int)(Q:Int->Int->Prop)(G:Int->Int)(hG:Hid (∀z fl,Q z fl->bits .or .i64 fl of=G fl))(HR:Hid (∀w,CT 187 #[dN p mn mx md k,.int .i64 s,.int .i64 e,aN mh ml,.bool st] w (vS Q w)))(w:World):
  CT 172 #[dN p mn mx md k,aU s e 1 mh ml st of] w λe w'=>∃z fl,Q z fl/\e=.returned (aP z (G fl))/\Gr w w':=by
 go_enter func172,ntmps172;go_upto_region 6 with(go_at_call 187;refine(HR _).mono ?_;rintro e w1 ⟨z,fl,hq,rfl,ak⟩;have gG:=ak.TW w;have:=ak.e1 (w.heap.size+1) 6 _;have iR:=au gG.1;have hor:=hG.out z fl hq);obtain⟨w2,jA⟩:=dK (w1.alloc (.cells #[.int .u64 z,.int .i64 fl] 100));have aB:Gr w1 w2:=by rw[<-jA];exact(Gr.refl _).alloc _ _
 have x0:w2.cell? ⟨w1.heap.size,0,none⟩=some (.int .u64 z):=by rw[<-jA];simp[go_sem]
 have x1:w2.cell? ⟨w1.heap.size,1,none⟩=some (.int .i64 fl):=by rw[<-jA];simp[go_sem]
 have xz1:dB w2 w1.heap.size 1:=by rw[<-jA];simp[go_sem]
 have lu:w1.heap.size<w2.heap.size:=by rw[<-jA];simp
 rw[jA];clear jA;have jT:=aB.TW w;have:=aB.e1 (w.heap.size+1) 6 _;have X8:Gr w w2:=Gr.g;go_wp2;refine bodyPost_ret (v:=aP z (G fl)) (by simp[results,Tryz.results172,go_sem,jT]) rfl ⟨z,fl,hq,rfl,?_⟩;exact Gr.g
def aIX(h:fl=0\/fl=16\/fl=20\/fl=24):bits .or .i64 fl 0=fl:=by rcases h with rfl|rfl|rfl|rfl<;>decide+kernel
def Zj(p mn mx md:Int)(k:Nat)(s e mh ml:Int)(st:Bool)(Q:Int->Int->Prop)(hQ:∀z fl,Q z fl->fl=0\/fl=16\/fl=20\/fl=24)(HR:Hid (∀w,CT 187 #[dN p mn mx md k,.int .i64 s,.int .i64 e,aN mh ml,.bool st] w (vS Q w)))(w:World):
  CT 172 #[dN p mn mx md k,aU s e 1 mh ml st 0] w λe w'=>∃z fl,Q z fl/\e=.returned (aP z fl)/\Gr w w':=
 aA4 p mn mx md k s e mh ml st 0 Q (λfl=>fl) (λz fl h=>aIX (hQ z fl h)) HR w
def jG(p mn mx md:Int)(k:Nat)(sx ex cx xh xl sy ey cy yh yl:Int)(tx ty:Bool)(own:Nat)(m:Int)(hm:max cx cy=m)(h3:3<=m)(w:World):
  QR 173 #[dN p mn mx md k,.func (.func own) #[] #[],aU sx ex cx xh xl tx 0,aU sy ey cy yh yl ty 0] w (aU 0 0 m 0 0 J 0):=by
 go_enter func173,ntmps173;go_wp2;go_returns;exact⟨rfl,Gr.g⟩
def aK9{P:Prop}(h:P:=by
 intro c;rcases h with⟨rfl,rfl,rfl,rfl,rfl,rfl,rfl⟩|⟨rfl,rfl,rfl,rfl,rfl,rfl,rfl⟩<;>omega):P:=h
def aLb{P:Prop}(h:P:=by
 have h1:=yX M;have h2:=fZ (om:nb M<=128);have h3:(2:Nat)^128=340282366920938463463374607431768211456:=de;omega):P:=h
def UF{P:Prop}(h:P:=by
 exact⟨om,om,om,om,om,om,om,om,om⟩):P:=h
structure VO (x:dM):Prop where
 c0:0<=x.c
 c4:x.c<=4
 jM:x.s=0\/x.s=1
 fin:x.c=1->0<x.M/\nb x.M<=106
 nil:x.c≠1->x.M=0
 e0:-5000<=x.e
 e1:x.e<=5000
def aA1(M:Nat)(h:nb M<=106):M<340282366920938463463374607431768211456:=by
 exact aLb
def dF(p mx one aI sg nan a:Int)(x:dM):Prop:=a<2*sg/\fV p mx one aI sg nan a x.c x.s x.e (x.M:Int)\/2*sg<=a/\x=⟨4,0,0,0⟩
def IV{one:Int}(h:bD f p mx one aI sg nan)(v0:0<v)(v1:v<aI)(hn:lW p mx one v e g):one<=g/\g<2*one/\-2000<=e/\e<=1100:=by
 obtain⟨k,m,e0,hm,hg,he,h1,h2⟩:=hn;have AU:1<=m:=by
  rcases hm with⟨_,rfl,_⟩|⟨_,rfl,_⟩
  .omega
  .have:=Int.emod_nonneg v (show one≠0 by have:=h.bounds;omega);have:=h.bounds;omega
 have hk:k<=60:=by
  rcases Nat.lt_or_ge 60 k with c|c
  .exfalso;have h3:(2:Int)^61<=2^k:=by
    have:=fZ (om:61<=k);have e1:((2^61:Nat):Int)<=((2^k:Nat):Int):=om;rw[mX,mX]at e1;exact e1
   have h4:1*(2:Int)^k<=m*2^k:=Int.mul_le_mul_of_nonneg_right AU om;have h5:(2:Int)^61=2305843009213693952:=de;have:=h.bounds;omega
  .exact c
 have hd:one<=v->v/one<=2*mx+1:=by
  exact aK9
 have JJ:one<=v->0<=v/one:=by
  exact aK9
 have hb:=h.bounds;rcases hm with⟨c,_,rfl⟩|⟨c,_,rfl⟩
 .exact⟨h1,h2,om,om⟩
 .have:=hd c;have:=JJ c;exact⟨h1,h2,om,om⟩
def qE{one:Int}(h:bD f p mx one aI sg nan)(hu:fV p mx one aI sg nan W c s e g):0<=c/\c<=4/\(s=0\/s=1)/\0<=g/\g<2*one/\-2000<=e/\e<=1100/\(c=1->one<=g)/\(c≠1->g=0):=by
 have hb:=h.bounds;obtain⟨v,hs,hc⟩:=hu;rcases hc with⟨_,rfl,rfl,rfl⟩|⟨_,_,rfl,rfl,rfl⟩|⟨_,rfl,rfl,rfl⟩|⟨_,rfl,rfl,rfl⟩|⟨v0,v1,rfl,hn⟩
 .exact UF
 .exact UF
 .exact UF
 .exact UF
 .have:=IV h v0 v1 hn;exact UF
def bK{one:Int}(h:bD f p mx one aI sg nan){x:dM}(hx:dF p mx one aI sg nan a x):VO x/\x.M<9007199254740992/\(x.c≠1->x.M=0)/\-2000<=x.e/\x.e<=2000/\nb x.M<=53:=by
 have hb:=h.bounds;rcases hx with⟨_,hu⟩|⟨_,rfl⟩
 .obtain⟨h1,h2,h3,h4,h5,h6,h7,h8,h9⟩:=qE h hu;have hM:x.M<9007199254740992:=om;have hn:nb x.M<=53:=sW (by simpa using hM);exact⟨⟨h1,h2,h3,λc=>⟨by have:=h8 c;omega,om⟩,λc=>by have:=h9 c;omega,om,om⟩,hM,λc=>by have:=h9 c;omega,om,om,hn⟩
 .exact⟨⟨de,de,.inl rfl,(λc=>by cases c),λ_=>rfl,de,de⟩,de,λ_=>rfl,de,de,de⟩
def dF.one{one:Int}(h:bD f p mx one aI sg nan){x y:dM}(hx:dF p mx one aI sg nan a x)(hy:dF p mx one aI sg nan a y):x=y:=by
 rcases hx with⟨c,hu⟩|⟨c,rfl⟩<;>rcases hy with⟨d,hv⟩|⟨d,rfl⟩
 .obtain⟨e1,e2,e3,e4⟩:=fV.one h hu hv;obtain⟨c1,s1,x1,M1⟩:=x;obtain⟨c2,s2,x2,M2⟩:=y;dsimp only at e1 e2 e3 e4;have:M1=M2:=om;subst e1 e2 e3 this;rfl
 .exfalso;omega
 .exfalso;omega
 .rfl
def jf{one:Int}(h:bD f p mx one aI sg nan)(hm:wQ p mn mx fb sp one aI sg nan)(a:Int)(a0:0<=a)(a1:aG a):
  ∃x:dM,dF p mx one aI sg nan a x/\∀w,QR 174 #[jX p mn mx,.int .u64 a] w (aU x.s x.e x.c (((x.M/18446744073709551616:Nat):Int)) (((x.M%18446744073709551616:Nat):Int)) J 0):=by
 have hb:=h.bounds;by_cases hf:a<2*sg
 .obtain⟨c,s,e,g,hu⟩:=aBQ h a a0 hf;obtain⟨u1,u2,u3,u4,u5,u6,u7,u8,u9⟩:=qE h hu;obtain⟨G,rfl⟩:=Int.eq_ofNat_of_zero_le u4;refine⟨⟨c,s,e,G⟩,.inl ⟨hf,hu⟩,λw=>?_⟩;refine(VX hm a a0 hf w).mono ?_;rintro r w' ⟨c',s',e',g',hu',rfl,hg⟩;obtain⟨rfl,rfl,rfl,rfl⟩:=fV.one h hu hu';refine⟨?_,hg⟩;dsimp only
  rw[(om:G/18446744073709551616=0),(om:G%18446744073709551616=G)];rfl
 .exact⟨⟨4,0,0,0⟩,.inr ⟨om,rfl⟩,λw=>Sl hm a om a1 w⟩
def pG(o:dM)(os oe oc oh ol:Int)(ot:Bool):Prop:=∃M:Nat,oh=((M/18446744073709551616:Nat):Int)/\ol=((M%18446744073709551616:Nat):Int)/\Same o oc os oe M ot/\0<=oc/\oc<=4/\(oc<=2->os=0\/os=1)
def VO.same{x:dM}(h:VO x):pG x x.s x.e x.c ((x.M/18446744073709551616:Nat):Int) ((x.M%18446744073709551616:Nat):Int) J:=by
 refine⟨x.M,rfl,rfl,Same.self x (λc=>?_),h.c0,h.c4,λ_=>h.jM⟩;obtain⟨a,b⟩:=h.fin c;have:=h.e0;have:=h.e1;exact⟨a,aA1 _ b,om,om⟩
def oz{one:Int}(hm:wQ p mn mx fb sp one aI sg nan)(md:Int)(k:Nat)(hk:xU md k)(o:dM)(os oe oc oh ol:Int)(ot:Bool)(h:pG o os oe oc oh ol ot)(w:World):
  CT 172 #[dN p mn mx md k,aU os oe oc oh ol ot 0] w λe w'=>∃z fl,bY p mn mx one aI sg nan md o z fl/\e=.returned (aP z fl)/\Gr w w':=by
 obtain⟨M,rfl,rfl,⟨h1,h2,h3⟩,c0,c4,hs⟩:=h;have hp:p<=53/\0<=p:=by rcases hm with h|h<;>omega
 rcases(om:oc=0\/oc=1\/oc=2\/oc=3\/oc=4)with rfl|rfl|rfl|rfl|rfl
 .refine(aFY p mn mx md k os oe _ _ ot (sw os sg 0) (λw=>mV hm os _ ?_ w) w).mono ?_
  .rcases hs om with rfl|rfl
   .exact .inl ⟨rfl,by simp[sw]⟩
   .exact .inr ⟨rfl,by simp[sw]⟩
  .rintro r w' ⟨rfl,hg⟩;exact⟨_,_,.inl ⟨h1,by rw[h2 (by omega)],rfl⟩,rfl,hg⟩
 .obtain⟨m0,m1,m2,e0,e1,m3⟩:=h3 rfl;refine(Zj p mn mx md k os oe _ _ ot (λz fl=>∃z0,bH p mn mx one aI md os M oe ot z0 fl/\z=sw os sg z0) (λz fl ⟨_,h,_⟩=>h.fl) (λw=>?_) w).mono ?_
  .refine(zJ hm md md k hk os (hs om) oe e0 e1 M m0 m1 ot (λc=>by have:=m2 c;omega) w).mono ?_;rintro r w' ⟨z,fl,hr,rfl,hg⟩;exact⟨_,_,⟨z,hr,aAV _ _ _⟩,rfl,hg⟩
  .rintro r w' ⟨z,fl,⟨z0,hr,rfl⟩,rfl,hg⟩;refine⟨_,_,.inr (.inl ⟨h1,z0,?_,by rw[h2 (by omega)]⟩),rfl,hg⟩;rw[h2 (by omega)];exact(m3 p mn mx one aI md z0 fl hp.2 hp.1).1 hr
 .refine(aFX p mn mx md k os oe _ _ ot (sw os sg aI) (λw=>mD hm os _ ?_ w) w).mono ?_
  .rcases hs om with rfl|rfl
   .exact .inl ⟨rfl,by simp[sw]⟩
   .exact .inr ⟨rfl,by simp[sw];omega⟩
  .rintro r w' ⟨rfl,hg⟩;exact⟨_,_,.inr (.inr (.inl ⟨h1,by rw[h2 (by omega)],rfl⟩)),rfl,hg⟩
 .refine(aFW p mn mx md k os oe _ _ ot nan (λw=>J5 hm w) w).mono ?_;rintro r w' ⟨rfl,hg⟩;exact⟨_,_,.inr (.inr (.inr (.inl ⟨h1,rfl,rfl⟩))),rfl,hg⟩
 .refine(aFV p mn mx md k os oe _ _ ot nan (λw=>dh hm w) w).mono ?_;rintro r w' ⟨rfl,hg⟩;exact⟨_,_,.inr (.inr (.inr (.inr ⟨h1,rfl,rfl⟩))),rfl,hg⟩
def Wh(m:Int)(h0:3<=m)(h1:m<=4):pG ⟨m,0,0,0⟩ 0 0 m 0 0 J:=⟨0,rfl,rfl,⟨rfl,λ_=>rfl,λh=>om⟩,om,h1,λ_=>.inl rfl⟩
def aLa{P:Prop}(h:P:=by
 rintro e w' ⟨rfl,hg⟩;exact⟨_,LU (by first|omega|(unfold Ui;split<;>omega)) om rfl,hg⟩):P:=h
def IU(p mn mx md:Int)(k:Nat)(w:World):
  QR 176 #[dN p mn mx md k] w (aU (if md=4 then 1 else 0) 0 0 0 0 J 0):=by
 by_cases c:md=4
 .subst c;go_enter func176,ntmps176;go_wp2;go_returns;exact⟨rfl,Gr.g⟩
 .have c1:(md==4)=J:=jl;rw[if_neg c];go_enter func176,ntmps176;go_wp2;go_returns;exact⟨rfl,Gr.g⟩
def aQ1(M:Nat)(hM:M<340282366920938463463374607431768211456)(n:Nat)(hn:n<=128)(h:M*2^n<340282366920938463463374607431768211456)(w:World):
  QR 256 #[aN ((M/18446744073709551616:Nat):Int) ((M%18446744073709551616:Nat):Int),.int .i64 n] w (aN ((M*2^n/18446744073709551616:Nat):Int) ((M*2^n%18446744073709551616:Nat):Int)):=by
 have e0:((M/18446744073709551616:Nat):Int)*18446744073709551616+((M%18446744073709551616:Nat):Int)=(M:Int):=om;have hk:(bnd (n:Int)).toNat =n:=by unfold bnd;rw[if_neg om,if_neg (by omega)];simp
 refine(uQ _ _ (n:Int) om om om om w).mono ?_;rintro e w' ⟨rfl,hg⟩;refine⟨P6 ?_ ?_,hg⟩
 .unfold qO;rw[hk,e0,cast_mul];omega
 .unfold qN;rw[hk,e0,cast_mul];omega
def aQF(A B:Nat)(hA:A<340282366920938463463374607431768211456)(hB:B<340282366920938463463374607431768211456)(h:A+B<340282366920938463463374607431768211456)(w:World):
  CT 245 #[aN ((A/18446744073709551616:Nat):Int) ((A%18446744073709551616:Nat):Int),aN ((B/18446744073709551616:Nat):Int) ((B%18446744073709551616:Nat):Int)] w λe w'=>∃b,e=.returned (.tuple #[aN (((A+B)/18446744073709551616:Nat):Int) (((A+B)%18446744073709551616:Nat):Int),.bool b])/\Gr w w':=by
 refine(XL _ _ _ _ om om om om om om om om w).mono ?_;exact aLa
def aMl(A B:Nat)(hA:A<340282366920938463463374607431768211456)(hB:B<=A)(w:World):
  CT 246 #[aN ((A/18446744073709551616:Nat):Int) ((A%18446744073709551616:Nat):Int),aN ((B/18446744073709551616:Nat):Int) ((B%18446744073709551616:Nat):Int)] w λe w'=>∃b,e=.returned (.tuple #[aN (((A-B)/18446744073709551616:Nat):Int) (((A-B)%18446744073709551616:Nat):Int),.bool b])/\Gr w w':=by
 refine(Gv _ _ _ _ om om om om om om om om w).mono ?_;exact aLa
def aIf(A B:Nat)(hA:A<340282366920938463463374607431768211456)(hB:B<340282366920938463463374607431768211456)(w:World):
  CT 246 #[aN ((A/18446744073709551616:Nat):Int) ((A%18446744073709551616:Nat):Int),aN ((B/18446744073709551616:Nat):Int) ((B%18446744073709551616:Nat):Int)] w λe w'=>∃x y,e=.returned (.tuple #[aN x y,.bool (decide (A<B))])/\Gr w w':=by
 refine(Gv _ _ _ _ om om om om om om om om w).mono ?_;rintro e w' ⟨rfl,hg⟩;refine⟨_,_,LU rfl rfl ?_,hg⟩;first|(rw[aI9 _ _ _ _ om om om (by omega)];rw[decide_eq_decide];omega)|(rw[decide_eq_decide];omega)
def MX(s e c:Int)(M:Nat)(st:Bool)(h0:0<M)(hn:nb M<=106)(e0:-50000<=e)(e1:e<=50000)(w:World):
  QR 242 #[aU s e c (((M/18446744073709551616:Nat):Int)) (((M%18446744073709551616:Nat):Int)) st 0] w (aU s (e-(127-nb M:Nat)) c (((M*2^(127-nb M)/18446744073709551616:Nat):Int)) (((M*2^(127-nb M)%18446744073709551616:Nat):Int)) st 0):=by
 have hb:=lM M h0 hn;have hM:M<340282366920938463463374607431768211456:=by
  exact aLb
 have HZ:KR 252 #[aN ((M/18446744073709551616:Nat):Int) ((M%18446744073709551616:Nat):Int)] (.int .i64 (128-(nb M:Int))):=λw=>aDV M hM w;have HL:KR 256 #[aN ((M/18446744073709551616:Nat):Int) ((M%18446744073709551616:Nat):Int),.int .i64 ((127-nb M:Nat):Int)] (aN ((M*2^(127-nb M)/18446744073709551616:Nat):Int) ((M*2^(127-nb M)%18446744073709551616:Nat):Int)):=λw=>aQ1 M hM (127-nb M) om om w;obtain⟨L,hL⟩:=dK ((127-nb M:Nat):Int);obtain⟨u,hu⟩:=dK (128-(nb M:Int));obtain⟨y,hy⟩:=dK (e-L:Int);rw[hL]at HL;rw[hu]at HZ;rw[hL,hy];have u1:IntKind.i64.wrap (u-1)=L:=wi;have u2:IntKind.i64.wrap (e-L)=y:=wi;generalize((M*2^(127-nb M)/18446744073709551616:Nat):Int)=Ah at*
 generalize((M*2^(127-nb M)%18446744073709551616:Nat):Int)=Al at*
 generalize((M/18446744073709551616:Nat):Int)=mh at*
 generalize((M%18446744073709551616:Nat):Int)=ml at*
 clear hb hu hL hy;go_enter func242,ntmps242;go_wp2_with (first|(go_at_call 252;refine ku (HZ _) λw1 ak=>?_;have:=ak.Y70 w;have:=ak.Jg w)|(go_at_call 256;refine ku (HL _) λw2 aB=>?_;have:=aB.Y70 w;have jT:=aB.Jg w))
 exact bW (by simp[results,Tryz.results242,go_sem,jT])
def SK(s e c s' e' c':Int)(A B:Nat)(st st' b:Bool)(hA:A<340282366920938463463374607431768211456)(hB:B<340282366920938463463374607431768211456)(hb:b=decide (e<e'\/e=e'/\A<B))(w:World):
  QR 243 #[aU s e c (((A/18446744073709551616:Nat):Int)) (((A%18446744073709551616:Nat):Int)) st 0,aU (s') (e') (c') (((B/18446744073709551616:Nat):Int)) (((B%18446744073709551616:Nat):Int)) (st') 0] w (.bool b):=by
 have HS:Hid (∀w,CT 246 #[aN ((A/18446744073709551616:Nat):Int) ((A%18446744073709551616:Nat):Int),aN ((B/18446744073709551616:Nat):Int) ((B%18446744073709551616:Nat):Int)] w λe w'=>∃x y,e=.returned (.tuple #[aN x y,.bool (decide (A<B))])/\Gr w w'):=λw=>aIf A B hA hB w;have hB':Hid (b=decide (e<e'\/e=e'/\A<B)):=hb;obtain⟨t,ht⟩:=dK (decide (A<B));rw[ht]at HS;have ht':Hid (decide (A<B)=t):=ht;clear hb ht;generalize((A/18446744073709551616:Nat):Int)=ah at*
 generalize((A%18446744073709551616:Nat):Int)=al at*
 generalize((B/18446744073709551616:Nat):Int)=bh at*
 generalize((B%18446744073709551616:Nat):Int)=bl' at*
 by_cases ce:e=e'
 .subst ce;go_enter func243,ntmps243;go_wp2_with (go_at_call 246;refine(HS _).mono ?_;rintro z w1 ⟨x,y,rfl,ak⟩);go_returns;exact⟨bU (congrArg Value.bool (by rw[hB'.out,<-ht'.out];simp)),Gr.g⟩
 .have c1:(e==e')=J:=by simp[ce]
  go_enter func243,ntmps243;go_wp2;go_returns;exact⟨bU (congrArg Value.bool (by rw[hB'.out];simp[ce])),Gr.g⟩
def aDX(s t:Int)(hs:s=0\/s=1)(ht:t=0\/t=1):bits .xor .i64 s t=mulS s t:=by
 rcases hs with rfl|rfl<;>rcases ht with rfl|rfl<;>decide+kernel
def times_any(s e s' e':Int)(hs:s=0\/s=1)(ht:s'=0\/s'=1)(e0:-50000<=e)(e1:e<=50000)(f0:-50000<=e')(f1:e'<=50000)(w:World):
  QR 177 #[jI s e,jI s' e'] w (jI (mulS s s') (e+e')):=by
 have u1:=aDX s s' hs ht;have u2:IntKind.i64.wrap (e+e')=e+e':=wi;generalize mulS s s'=z at*
 go_enter func177,ntmps177;go_wp2;go_returns;exact⟨bU (by simp[u1,u2]),Gr.g⟩
def aRF(A B:Nat)(hA:aG A)(hB:aG B)(w:World):
  QR 178 #[.int .u64 (A:Nat),.int .u64 (B:Nat)] w (aN ((A*B/18446744073709551616:Nat):Int) ((A*B%18446744073709551616:Nat):Int)):=by
 refine(IW _ _ om om om om w).mono ?_;rintro e w' ⟨rfl,hg⟩;refine⟨P6 ?_ ?_,hg⟩
 .rw[<-Int.natCast_mul];omega
 .rw[<-Int.natCast_mul];omega
def aLc{P:Prop}(h:P:=by
 go_enter func66,ntmps66;go_wp2_with (first|(go_at_call 139;refine kw (HF _) ?_)|(go_at_call 126;first|(with_reducible refine ku (eH.out _) λw1 ak=>?_;have iO:=ak.bG w;have lF:=au iO.1)|(with_reducible refine ku (fP.out _) λw2 aB=>?_;have jw:=aB.bG w;have:=aB.Ko w1;have iR:=au jw.1))|(go_at_call 140;first|(with_reducible refine ku (jk.out _) λva aO=>?_;have:=aO.bG w;have:=aO.fG w1;have:=aO.fG w2)|(with_reducible refine ku (lD.out _) λvb bC=>?_;have:=bC.bG w;have:=bC.fG w1;have:=bC.fG w2))|(go_at_call 141;refine ku (HL _) λw9 bM=>?_;have iQ:=bM.bG w))
 exact dI (by simp[results,Tryz.results66,go_sem,iQ])):P:=h
def aLd{P:Prop}(h:P:=by
 subst e1 e2;go_enter func66,ntmps66;go_wp2_with (first|(go_at_call 139;refine kw (HF _) ?_)|(go_at_call 126;first|(with_reducible refine ku (eH.out _) λw1 ak=>?_;have iO:=ak.bG w;have lF:=au iO.1)|(with_reducible refine ku (fP.out _) λw2 aB=>?_;have jw:=aB.bG w;have:=aB.Ko w1;have iR:=au jw.1))|(go_at_call 140;first|(with_reducible refine ku (jk.out _) λva aO=>?_;have:=aO.bG w;have:=aO.fG w1;have:=aO.fG w2)|(with_reducible refine ku (lD.out _) λvb bC=>?_;have:=bC.bG w;have:=bC.fG w1;have:=bC.fG w2))|(go_at_call 142;refine ku (HL _) λw9 bM=>?_;have iQ:=bM.bG w))
 exact dI (by simp[results,Tryz.results66,go_sem,iQ])):P:=h
def aLe{P:Prop}(h:P:=by
 subst e1 e2;go_enter func66,ntmps66;go_wp2_with (first|(go_at_call 139;refine kw (HF _) ?_)|(go_at_call 126;first|(with_reducible refine ku (eH.out _) λw1 ak=>?_;have iO:=ak.bG w;have lF:=au iO.1)|(with_reducible refine ku (fP.out _) λw2 aB=>?_;have jw:=aB.bG w;have:=aB.Ko w1;have iR:=au jw.1))|(go_at_call 140;first|(with_reducible refine ku (jk.out _) λva aO=>?_;have:=aO.bG w;have:=aO.fG w1;have:=aO.fG w2)|(with_reducible refine ku (lD.out _) λvb bC=>?_;have:=bC.bG w;have:=bC.fG w1;have:=bC.fG w2))|(go_at_call 136;refine ku (HL _) λw9 bM=>?_;have iQ:=bM.bG w))
 exact dI (by simp[results,Tryz.results66,go_sem,iQ])):P:=h
def aEA{P:Prop}(h:P:=by
 go_enter func66,ntmps66;go_wp2_with (first|(go_at_call 139;refine kw (HF _) ?_)|(go_at_call 126;first|(with_reducible refine ku (eH.out _) λw1 ak=>?_;have iO:=ak.bG w;have lF:=au iO.1)|(with_reducible refine ku (fP.out _) λw2 aB=>?_;have jw:=aB.bG w;have:=aB.Ko w1;have iR:=au jw.1))|(go_at_call 140;first|(with_reducible refine ku (jk.out _) λva aO=>?_;have:=aO.bG w;have:=aO.fG w1;have:=aO.fG w2))|(go_at_call 141;refine ku (HL _) λw9 bM=>?_;have iQ:=bM.bG w))
 exact dI (by simp[results,Tryz.results66,go_sem,iQ])):P:=h
def aEB{P:Prop}(h:P:=by
 subst e1 e2;go_enter func66,ntmps66;go_wp2_with (first|(go_at_call 139;refine kw (HF _) ?_)|(go_at_call 126;first|(with_reducible refine ku (eH.out _) λw1 ak=>?_;have iO:=ak.bG w;have lF:=au iO.1)|(with_reducible refine ku (fP.out _) λw2 aB=>?_;have jw:=aB.bG w;have:=aB.Ko w1;have iR:=au jw.1))|(go_at_call 140;first|(with_reducible refine ku (jk.out _) λva aO=>?_;have:=aO.bG w;have:=aO.fG w1;have:=aO.fG w2)|(with_reducible refine ku (lD.out _) λvb bC=>?_;have:=bC.bG w;have:=bC.fG w1;have:=bC.fG w2))|(go_at_call 137;refine ku (HL _) λw9 bM=>?_;have iQ:=bM.bG w))
 exact dI (by simp[results,Tryz.results66,go_sem,iQ])):P:=h
def LD(f aj a b:Int)(HF:dG f aj a b J)(z fl:Int)(HL:oJ f z fl)(w:World):
  wP f aj a b w z fl:=by
 go_enter func66,ntmps66;go_wp2_with (first|(go_at_call 139;refine kw (HF _) ?_)|(go_at_call 136;refine ku (HL _) λw9 bM=>?_;have iQ:=bM.bG w))
 exact dI (by simp[results,Tryz.results66,go_sem,iQ])
def aCz(f aj a b ca sa xa ga cb sb xb gb:Int)(HF:dG f aj a b true)(eH:bP f a ca sa xa ga)(fP:bP f b cb sb xb gb)(jk:bQ ca sa xa ga true)(e4:(ca==4)=true)(z fl:Int)(HL:oU f true z fl)(w:World):
  wP f aj a b w z fl:=by
 exact aEA
def aCy(f aj a b ca sa xa ga cb sb xb gb:Int)(HF:dG f aj a b true)(eH:bP f a ca sa xa ga)(fP:bP f b cb sb xb gb)(jk:bQ ca sa xa ga true)(e4:(ca==4)=J)(t:Bool)(e5:(cb==4)=t)(z fl:Int)(HL:oU f t z fl)(w:World):
  wP f aj a b w z fl:=by
 cases t
 .exact aEA
 .exact aEA
def aCx(f aj a b ca sa xa ga cb sb xb gb:Int)(HF:dG f aj a b true)(eH:bP f a ca sa xa ga)(fP:bP f b cb sb xb gb)(jk:bQ ca sa xa ga J)(lD:bQ cb sb xb gb true)(e4:(ca==4)=J)(t:Bool)(e5:(cb==4)=t)(z fl:Int)(HL:oU f t z fl)(w:World):
  wP f aj a b w z fl:=by
 cases t
 .exact aLc
 .exact aLc
def aIF(f aj a b ca sa xa ga cb sb xb gb:Int)(HF:dG f aj a b true)(eH:bP f a ca sa xa ga)(fP:bP f b cb sb xb gb)(jk:bQ ca sa xa ga J)(lD:bQ cb sb xb gb J)(e1:ca=0)(e2:cb=0)(z fl:Int)(HL:oJ f z fl)(w:World):
  wP f aj a b w z fl:=by
 exact aLe
def aIy(f aj a b ca sa xa ga cb sb xb gb:Int)(HF:dG f aj a b true)(eH:bP f a ca sa xa ga)(fP:bP f b cb sb xb gb)(jk:bQ ca sa xa ga J)(lD:bQ cb sb xb gb J)(e1:ca=2)(e2:cb=2)(z fl:Int)(HL:oJ f z fl)(w:World):
  wP f aj a b w z fl:=by
 exact aLe
def aIA(f aj a b ca sa xa ga cb sb xb gb:Int)(HF:dG f aj a b true)(eH:bP f a ca sa xa ga)(fP:bP f b cb sb xb gb)(jk:bQ ca sa xa ga J)(lD:bQ cb sb xb gb J)(e1:ca=2)(e2:cb=0)(sp:Int)(a0:0<=sa)(a1:sa<=1)(b0:0<=sb)(b1:sb<=1)(AU:(sa+sb).tmod 2=sp)(JI:(sa+sb)%2=sp)(z fl:Int)(HL:EC f sp z fl)(w:World):
  wP f aj a b w z fl:=by
 exact aLd
def aIz(f aj a b ca sa xa ga cb sb xb gb:Int)(HF:dG f aj a b true)(eH:bP f a ca sa xa ga)(fP:bP f b cb sb xb gb)(jk:bQ ca sa xa ga J)(lD:bQ cb sb xb gb J)(e1:ca=2)(e2:cb=1)(sp:Int)(a0:0<=sa)(a1:sa<=1)(b0:0<=sb)(b1:sb<=1)(AU:(sa+sb).tmod 2=sp)(JI:(sa+sb)%2=sp)(z fl:Int)(HL:EC f sp z fl)(w:World):
  wP f aj a b w z fl:=by
 exact aLd
def aIE(f aj a b ca sa xa ga cb sb xb gb:Int)(HF:dG f aj a b true)(eH:bP f a ca sa xa ga)(fP:bP f b cb sb xb gb)(jk:bQ ca sa xa ga J)(lD:bQ cb sb xb gb J)(e1:ca=0)(e2:cb=1)(sp:Int)(a0:0<=sa)(a1:sa<=1)(b0:0<=sb)(b1:sb<=1)(AU:(sa+sb).tmod 2=sp)(JI:(sa+sb)%2=sp)(z fl:Int)(HL:yG f sp z fl)(w:World):
  wP f aj a b w z fl:=by
 exact aEB
def aID(f aj a b ca sa xa ga cb sb xb gb:Int)(HF:dG f aj a b true)(eH:bP f a ca sa xa ga)(fP:bP f b cb sb xb gb)(jk:bQ ca sa xa ga J)(lD:bQ cb sb xb gb J)(e1:ca=0)(e2:cb=2)(sp:Int)(a0:0<=sa)(a1:sa<=1)(b0:0<=sb)(b1:sb<=1)(AU:(sa+sb).tmod 2=sp)(JI:(sa+sb)%2=sp)(z fl:Int)(HL:yG f sp z fl)(w:World):
  wP f aj a b w z fl:=by
 exact aEB
def aIB(f aj a b ca sa xa ga cb sb xb gb:Int)(HF:dG f aj a b true)(eH:bP f a ca sa xa ga)(fP:bP f b cb sb xb gb)(jk:bQ ca sa xa ga J)(lD:bQ cb sb xb gb J)(e1:ca=1)(e2:cb=2)(sp:Int)(a0:0<=sa)(a1:sa<=1)(b0:0<=sb)(b1:sb<=1)(AU:(sa+sb).tmod 2=sp)(JI:(sa+sb)%2=sp)(z fl:Int)(HL:yG f sp z fl)(w:World):
  wP f aj a b w z fl:=by
 exact aEB
def aIC(f aj a b ca sa xa ga cb sb xb gb:Int)(HF:dG f aj a b true)(eH:bP f a ca sa xa ga)(fP:bP f b cb sb xb gb)(jk:bQ ca sa xa ga J)(lD:bQ cb sb xb gb J)(e1:ca=1)(e2:cb=0)(sp:Int)(a0:0<=sa)(a1:sa<=1)(b0:0<=sb)(b1:sb<=1)(AU:(sa+sb).tmod 2=sp)(JI:(sa+sb)%2=sp)(aI z:Int)(HI:KW 148 #[.int .i64 f] (.int .u64 aI))(HP:yA f sp aI z)(w:World):
  wP f aj a b w z 2:=by
 subst e1 e2;go_enter func66,ntmps66;go_wp2_with (first|(go_at_call 139;refine kw (HF _) ?_)|(go_at_call 126;first|(with_reducible refine ku (eH.out _) λw1 ak=>?_;have iO:=ak.bG w;have lF:=au iO.1)|(with_reducible refine ku (fP.out _) λw2 aB=>?_;have jw:=aB.bG w;have:=aB.Ko w1;have iR:=au jw.1))|(go_at_call 140;first|(with_reducible refine ku (jk.out _) λva aO=>?_;have:=aO.bG w;have:=aO.fG w1;have:=aO.fG w2)|(with_reducible refine ku (lD.out _) λvb bC=>?_;have aFK:=bC.bG w;have:=bC.fG w1;have:=bC.fG w2))|(go_at_call 148;refine kw (HI _) ?_)|(go_at_call 118;refine kw (HP _) ?_))
 exact dI (by simp[results,Tryz.results66,go_sem,aFK])
