import Derived.Test.YtmiekgjgpmfekaaGreatDoorK0
set_option linter.all false
set_option maxRecDepth 1000000
set_option maxHeartbeats 40000000
open Bool renaming false → J
open Go.Proofs.Tryz
namespace Go.Proofs.YtmiekgjgpmfekaaGreatDoor
open Go.RowKit
attribute [local go_sem] aj bK
variable{p mx inf sg nan f e g a mn fb sp fl v W c s:Int}
theorem YP(p mn mx md:Int)(k:Nat)(s e mh ml:Int)(st:Bool)(z:Int)(HZ:RN p mn mx s z)(w:World):
  Ox p mn mx md k s e 0 mh ml st 0 w z 0:=by
 go_enter func179,ntmps179;go_wp2_with (go_at_call 177;refine ku (HZ _) fun w1 ak=>?_;have fP:=ak.JV w);exact bI (by simp[results,Tryz.results179,go_sem,fP])
theorem Tc(p mn mx md:Int)(k:Nat)(s e mh ml:Int)(st:Bool)(fl z:Int)(HZ:CZ p mn mx s z)(w:World):
  Ox p mn mx md k s e 2 mh ml st fl w z fl:=by
 go_enter func179,ntmps179;go_wp2;go_region_held3 (fun w'=>aj w' w.heap.size 0 (.int .i64 p)/\aj w' w.heap.size 1 (.int .i64 mn)/\aj w' w.heap.size 2 (.int .i64 mx)/\aj w' (w.heap.size+1) 0 (.int .i64 s)/\aj w' (w.heap.size+1) 6 (.int .i64 fl))
  (exact nR)
  (first|(go_at_call 197;refine ku (HZ _) fun w1 ak=>?_;have fP:=ak.JV w))
 all_goals go_wp2
 all_goals
  exact bI (by simp[results,Tryz.results179,go_sem,fP])
theorem YO(p mn mx md:Int)(k:Nat)(s e mh ml:Int)(st:Bool)(z:Int)(HZ:CZ p mn mx s z)(w:World):
  Ox p mn mx md k s e 2 mh ml st 0 w z 0:=Tc p mn mx md k s e mh ml st 0 z HZ w
theorem YN(p mn mx md:Int)(k:Nat)(s e mh ml:Int)(st:Bool)(z:Int)(HZ:KR 199 #[iQ p mn mx] (.int .u64 z))(w:World):
  Ox p mn mx md k s e 3 mh ml st 0 w z 0:=by
 go_enter func179,ntmps179;go_wp2_with (go_at_call 199;refine ku (HZ _) fun w1 ak=>?_;have fP:=ak.JV w);exact bI (by simp[results,Tryz.results179,go_sem,fP])
theorem YM(p mn mx md:Int)(k:Nat)(s e mh ml:Int)(st:Bool)(z:Int)(HZ:Gy p mn mx z 1)(w:World):
  Ox p mn mx md k s e 4 mh ml st 0 w z 1:=by
 go_enter func179,ntmps179;go_wp2_with (go_at_call 178;refine ku (HZ _) fun w1 ak=>?_;have fP:=ak.JV w);exact bI (by simp[results,Tryz.results179,go_sem,fP])
theorem Td(p mn mx md:Int)(k:Nat)(s e mh ml:Int)(st:Bool)(of:Int)(Q:Int->Int->Prop)(G:Int->Int)(hG:Hid (∀z fl,Q z fl->bits .or .i64 fl of=G fl))(HR:Hid (∀w,CT 185 #[dP p mn mx md k,.int .i64 s,.int .i64 e,aG mh ml,.bool st] w (zW Q w)))(w:World):
  CT 179 #[dP p mn mx md k,aU s e 1 mh ml st of] w fun e w'=>∃z fl,Q z fl/\e=.returned (aK z (G fl))/\Gr w w':=by
 go_enter func179,ntmps179;go_upto_region 6 with(go_at_call 185;refine(HR _).mono ?_;rintro e w1 ⟨z,fl,hq,rfl,ak⟩;have fP:=ak.JV w;have:=ak.e1 (w.heap.size+1) 6 _;have hz1:=au fP.1;have hor:=hG.out z fl hq);obtain⟨w2,hw2⟩:∃w2,w1.alloc (.cells #[.int .u64 z,.int .i64 fl] 56)=w2:=⟨_,rfl⟩;have aA:Gr w1 w2:=by rw[<-hw2];exact(Gr.refl _).alloc _ _
 have x0:w2.cell? ⟨w1.heap.size,0,none⟩=some (.int .u64 z):=by rw[<-hw2];simp[go_sem]
 have x1:w2.cell? ⟨w1.heap.size,1,none⟩=some (.int .i64 fl):=by rw[<-hw2];simp[go_sem]
 have xz1:bK w2 w1.heap.size 1:=by rw[<-hw2];simp[go_sem]
 have hz2:w1.heap.size<w2.heap.size:=by rw[<-hw2];simp
 rw[hw2];clear hw2;have jk:=aA.JV w;have:=aA.e1 (w.heap.size+1) 6 _;have hgw:Gr w w2:=Gr.g;go_wp2;refine bodyPost_ret (v:=aK z (G fl)) (by simp[results,Tryz.results179,go_sem,jk]) rfl ⟨z,fl,hq,rfl,?_⟩;exact Gr.g
theorem aBx(h:fl=0\/fl=16\/fl=20\/fl=24):bits .or .i64 fl 0=fl:=by rcases h with rfl|rfl|rfl|rfl<;>decide+kernel
theorem Qp(p mn mx md:Int)(k:Nat)(s e mh ml:Int)(st:Bool)(Q:Int->Int->Prop)(hQ:∀z fl,Q z fl->fl=0\/fl=16\/fl=20\/fl=24)(HR:Hid (∀w,CT 185 #[dP p mn mx md k,.int .i64 s,.int .i64 e,aG mh ml,.bool st] w (zW Q w)))(w:World):
  CT 179 #[dP p mn mx md k,aU s e 1 mh ml st 0] w fun e w'=>∃z fl,Q z fl/\e=.returned (aK z fl)/\Gr w w':=
 Td p mn mx md k s e mh ml st 0 Q (fun fl=>fl) (fun z fl h=>aBx (hQ z fl h)) HR w
theorem iK(p mn mx md:Int)(k:Nat)(sx ex cx xh xl sy ey cy yh yl:Int)(tx ty:Bool)(own:Nat)(m:Int)(hm:max cx cy=m)(h3:3<=m)(w:World):
  QR 90 #[dP p mn mx md k,.func (.func own) #[] #[],aU sx ex cx xh xl tx 0,aU sy ey cy yh yl ty 0] w (aU 0 0 m 0 0 J 0):=by
 go_enter func90,ntmps90;go_wp2;go_returns;exact⟨rfl,Gr.g⟩
theorem aDm{P:Prop}(h:P:=by
 intro c;rcases h with⟨rfl,rfl,rfl,rfl,rfl,rfl,rfl⟩|⟨rfl,rfl,rfl,rfl,rfl,rfl,rfl⟩<;>omega):P:=h
theorem aDo{P:Prop}(h:P:=by
 have h1:=uS M;have h2:=bT (show nb M<=128 by omega);have h3:(2:Nat)^128=340282366920938463463374607431768211456:=de;omega):P:=h
theorem KP{P:Prop}(h:P:=by
 exact⟨om,om,om,om,om,om,om,om,om⟩):P:=h
structure VO (x:bZ):Prop where
 c0:0<=x.c
 c4:x.c<=4
 jF:x.s=0\/x.s=1
 fin:x.c=1->0<x.M/\nb x.M<=106
 nil:x.c≠1->x.M=0
 e0:-5000<=x.e
 e1:x.e<=5000
theorem S_(M:Nat)(h:nb M<=106):M<340282366920938463463374607431768211456:=by
 exact aDo
def bP(p mx one inf sg nan a:Int)(x:bZ):Prop:=a<2*sg/\dY p mx one inf sg nan a x.c x.s x.e (x.M:Int)\/2*sg<=a/\x=⟨4,0,0,0⟩
theorem BM{one:Int}(h:aP f p mx one inf sg nan)(v0:0<v)(v1:v<inf)(hn:jE p mx one v e g):one<=g/\g<2*one/\-2000<=e/\e<=1100:=by
 obtain⟨k,m,e0,hm,hg,he,h1,h2⟩:=hn;have hm1:1<=m:=by
  rcases hm with⟨_,rfl,_⟩|⟨_,rfl,_⟩
  ·omega
  ·have:=Int.emod_nonneg v (show one≠0 by have:=h.bounds;omega);have:=h.bounds;omega
 have hk:k<=60:=by
  rcases Nat.lt_or_ge 60 k with c|c
  ·exfalso;have h3:(2:Int)^61<=2^k:=by
    have:=bT (show 61<=k by omega);have e1:((2^61:Nat):Int)<=((2^k:Nat):Int):=om;rw[jR,jR]at e1;exact e1
   have h4:1*(2:Int)^k<=m*2^k:=Int.mul_le_mul_of_nonneg_right hm1 om;have h5:(2:Int)^61=2305843009213693952:=de;have:=h.bounds;omega
  ·exact c
 have hd:one<=v->v/one<=2*mx+1:=by
  exact aDm
 have hd0:one<=v->0<=v/one:=by
  exact aDm
 have hb:=h.bounds;rcases hm with⟨c,_,rfl⟩|⟨c,_,rfl⟩
 ·exact⟨h1,h2,om,om⟩
 ·have:=hd c;have:=hd0 c;exact⟨h1,h2,om,om⟩
theorem jg{one:Int}(h:aP f p mx one inf sg nan)(hu:dY p mx one inf sg nan W c s e g):0<=c/\c<=4/\(s=0\/s=1)/\0<=g/\g<2*one/\-2000<=e/\e<=1100/\(c=1->one<=g)/\(c≠1->g=0):=by
 have hb:=h.bounds;obtain⟨v,hs,hc⟩:=hu;rcases hc with⟨_,rfl,rfl,rfl⟩|⟨_,_,rfl,rfl,rfl⟩|⟨_,rfl,rfl,rfl⟩|⟨_,rfl,rfl,rfl⟩|⟨v0,v1,rfl,hn⟩
 ·exact KP
 ·exact KP
 ·exact KP
 ·exact KP
 ·have:=BM h v0 v1 hn;exact KP
theorem bQ{one:Int}(h:aP f p mx one inf sg nan){x:bZ}(hx:bP p mx one inf sg nan a x):VO x/\x.M<9007199254740992/\(x.c≠1->x.M=0)/\-2000<=x.e/\x.e<=2000/\nb x.M<=53:=by
 have hb:=h.bounds;rcases hx with⟨_,hu⟩|⟨_,rfl⟩
 ·obtain⟨h1,h2,h3,h4,h5,h6,h7,h8,h9⟩:=jg h hu;have hM:x.M<9007199254740992:=om;have hn:nb x.M<=53:=og (by simpa using hM);exact⟨⟨h1,h2,h3,fun c=>⟨by have:=h8 c;omega,om⟩,fun c=>by have:=h9 c;omega,om,om⟩,hM,fun c=>by have:=h9 c;omega,om,om,hn⟩
 ·exact⟨⟨de,de,.inl rfl,(fun c=>by cases c),fun _=>rfl,de,de⟩,de,fun _=>rfl,de,de,de⟩
theorem bP.one{one:Int}(h:aP f p mx one inf sg nan){x y:bZ}(hx:bP p mx one inf sg nan a x)(hy:bP p mx one inf sg nan a y):x=y:=by
 rcases hx with⟨c,hu⟩|⟨c,rfl⟩<;>rcases hy with⟨d,hv⟩|⟨d,rfl⟩
 ·obtain⟨e1,e2,e3,e4⟩:=dY.one h hu hv;obtain⟨c1,s1,x1,M1⟩:=x;obtain⟨c2,s2,x2,M2⟩:=y;dsimp only at e1 e2 e3 e4;have:M1=M2:=om;subst e1 e2 e3 this;rfl
 ·exfalso;omega
 ·exfalso;omega
 ·rfl
theorem lI{one:Int}(h:aP f p mx one inf sg nan)(hm:rZ p mn mx fb sp one inf sg nan)(a:Int)(a0:0<=a)(a1:a<18446744073709551616):
  ∃x:bZ,bP p mx one inf sg nan a x/\∀w,QR 89 #[iQ p mn mx,.int .u64 a] w (aU x.s x.e x.c (((x.M/18446744073709551616:Nat):Int)) (((x.M%18446744073709551616:Nat):Int)) J 0):=by
 have hb:=h.bounds;by_cases hf:a<2*sg
 ·obtain⟨c,s,e,g,hu⟩:=Uo h a a0 hf;obtain⟨u1,u2,u3,u4,u5,u6,u7,u8,u9⟩:=jg h hu;obtain⟨G,rfl⟩:=Int.eq_ofNat_of_zero_le u4;refine⟨⟨c,s,e,G⟩,.inl ⟨hf,hu⟩,fun w=>?_⟩;refine(MK hm a a0 hf w).mono ?_;rintro r w' ⟨c',s',e',g',hu',rfl,hg⟩;obtain⟨rfl,rfl,rfl,rfl⟩:=dY.one h hu hu';refine⟨?_,hg⟩;dsimp only
  rw[show G/18446744073709551616=0 by omega,show G%18446744073709551616=G by omega];rfl
 ·exact⟨⟨4,0,0,0⟩,.inr ⟨om,rfl⟩,fun w=>Jf hm a om a1 w⟩
def pU(o:bZ)(os oe oc oh ol:Int)(ot:Bool):Prop:=∃M:Nat,oh=((M/18446744073709551616:Nat):Int)/\ol=((M%18446744073709551616:Nat):Int)/\Same o oc os oe M ot/\0<=oc/\oc<=4/\(oc<=2->os=0\/os=1)
theorem VO.same{x:bZ}(h:VO x):pU x x.s x.e x.c ((x.M/18446744073709551616:Nat):Int) ((x.M%18446744073709551616:Nat):Int) J:=by
 refine⟨x.M,rfl,rfl,Same.self x (fun c=>?_),h.c0,h.c4,fun _=>h.jF⟩;obtain⟨a,b⟩:=h.fin c;have:=h.e0;have:=h.e1;exact⟨a,S_ _ b,om,om⟩
theorem uI{one:Int}(hm:rZ p mn mx fb sp one inf sg nan)(md:Int)(k:Nat)(hk:qC md k)(o:bZ)(os oe oc oh ol:Int)(ot:Bool)(h:pU o os oe oc oh ol ot)(w:World):
  CT 179 #[dP p mn mx md k,aU os oe oc oh ol ot 0] w fun e w'=>∃z fl,bW p mn mx one inf sg nan md o z fl/\e=.returned (aK z fl)/\Gr w w':=by
 obtain⟨M,rfl,rfl,⟨h1,h2,h3⟩,c0,c4,hs⟩:=h;have hp:p<=53/\0<=p:=by rcases hm with h|h<;>omega
 rcases(show oc=0\/oc=1\/oc=2\/oc=3\/oc=4 by omega)with rfl|rfl|rfl|rfl|rfl
 ·refine(YP p mn mx md k os oe _ _ ot (sw os sg 0) (fun w=>jc hm os _ ?_ w) w).mono ?_
  ·rcases hs om with rfl|rfl
   ·exact .inl ⟨rfl,by simp[sw]⟩
   ·exact .inr ⟨rfl,by simp[sw]⟩
  ·rintro r w' ⟨rfl,hg⟩;exact⟨_,_,.inl ⟨h1,by rw[h2 (by omega)],rfl⟩,rfl,hg⟩
 ·obtain⟨m0,m1,m2,e0,e1,m3⟩:=h3 rfl;refine(Qp p mn mx md k os oe _ _ ot (fun z fl=>∃z0,aO p mn mx one inf md os M oe ot z0 fl/\z=sw os sg z0) (fun z fl ⟨_,h,_⟩=>h.fl) (fun w=>?_) w).mono ?_
  ·refine(qM hm md md k hk os (hs om) oe e0 e1 M m0 m1 ot (fun c=>by have:=m2 c;omega) w).mono ?_;rintro r w' ⟨z,fl,hr,rfl,hg⟩;exact⟨_,_,⟨z,hr,Ls _ _ _⟩,rfl,hg⟩
  ·rintro r w' ⟨z,fl,⟨z0,hr,rfl⟩,rfl,hg⟩;refine⟨_,_,.inr (.inl ⟨h1,z0,?_,by rw[h2 (by omega)]⟩),rfl,hg⟩;rw[h2 (by omega)];exact(m3 p mn mx one inf md z0 fl hp.2 hp.1).1 hr
 ·refine(YO p mn mx md k os oe _ _ ot (sw os sg inf) (fun w=>jM hm os _ ?_ w) w).mono ?_
  ·rcases hs om with rfl|rfl
   ·exact .inl ⟨rfl,by simp[sw]⟩
   ·exact .inr ⟨rfl,by simp[sw];omega⟩
  ·rintro r w' ⟨rfl,hg⟩;exact⟨_,_,.inr (.inr (.inl ⟨h1,by rw[h2 (by omega)],rfl⟩)),rfl,hg⟩
 ·refine(YN p mn mx md k os oe _ _ ot nan (fun w=>Dp hm w) w).mono ?_;rintro r w' ⟨rfl,hg⟩;exact⟨_,_,.inr (.inr (.inr (.inl ⟨h1,rfl,rfl⟩))),rfl,hg⟩
 ·refine(YM p mn mx md k os oe _ _ ot nan (fun w=>dH hm w) w).mono ?_;rintro r w' ⟨rfl,hg⟩;exact⟨_,_,.inr (.inr (.inr (.inr ⟨h1,rfl,rfl⟩))),rfl,hg⟩
theorem MP(m:Int)(h0:3<=m)(h1:m<=4):pU ⟨m,0,0,0⟩ 0 0 m 0 0 J:=⟨0,rfl,rfl,⟨rfl,fun _=>rfl,fun h=>om⟩,om,h1,fun _=>.inl rfl⟩
theorem aDn{P:Prop}(h:P:=by
 rintro e w' ⟨rfl,hg⟩;exact⟨_,Eu (by first|omega|(unfold Kr;split<;>omega)) om rfl,hg⟩):P:=h
theorem BL(p mn mx md:Int)(k:Nat)(w:World):
  QR 224 #[dP p mn mx md k] w (aU (if md=4 then 1 else 0) 0 0 0 0 J 0):=by
 by_cases c:md=4
 ·subst c;go_enter func224,ntmps224;go_wp2;go_returns;exact⟨rfl,Gr.g⟩
 ·have c1:(md==4)=J:=by simp;omega
  rw[if_neg c];go_enter func224,ntmps224;go_wp2;go_returns;exact⟨rfl,Gr.g⟩
theorem aHU(M:Nat)(hM:M<340282366920938463463374607431768211456)(n:Nat)(hn:n<=128)(h:M*2^n<340282366920938463463374607431768211456)(w:World):
  QR 158 #[aG ((M/18446744073709551616:Nat):Int) ((M%18446744073709551616:Nat):Int),.int .i64 n] w (aG ((M*2^n/18446744073709551616:Nat):Int) ((M*2^n%18446744073709551616:Nat):Int)):=by
 have e0:((M/18446744073709551616:Nat):Int)*18446744073709551616+((M%18446744073709551616:Nat):Int)=(M:Int):=om;have hk:(bnd (n:Int)).toNat =n:=by unfold bnd;rw[if_neg om,if_neg (by omega)];simp
 refine(lX _ _ (n:Int) om om om om w).mono ?_;rintro e w' ⟨rfl,hg⟩;refine⟨Ew ?_ ?_,hg⟩
 ·unfold lu;rw[hk,e0,cast_mul];omega
 ·unfold lq;rw[hk,e0,cast_mul];omega
theorem aHw(A B:Nat)(hA:A<340282366920938463463374607431768211456)(hB:B<340282366920938463463374607431768211456)(h:A+B<340282366920938463463374607431768211456)(w:World):
  CT 234 #[aG ((A/18446744073709551616:Nat):Int) ((A%18446744073709551616:Nat):Int),aG ((B/18446744073709551616:Nat):Int) ((B%18446744073709551616:Nat):Int)] w fun e w'=>∃b,e=.returned (.tuple #[aG (((A+B)/18446744073709551616:Nat):Int) (((A+B)%18446744073709551616:Nat):Int),.bool b])/\Gr w w':=by
 refine(Oh _ _ _ _ om om om om om om om om w).mono ?_;exact aDn
theorem aEs(A B:Nat)(hA:A<340282366920938463463374607431768211456)(hB:B<=A)(w:World):
  CT 235 #[aG ((A/18446744073709551616:Nat):Int) ((A%18446744073709551616:Nat):Int),aG ((B/18446744073709551616:Nat):Int) ((B%18446744073709551616:Nat):Int)] w fun e w'=>∃b,e=.returned (.tuple #[aG (((A-B)/18446744073709551616:Nat):Int) (((A-B)%18446744073709551616:Nat):Int),.bool b])/\Gr w w':=by
 refine(BD _ _ _ _ om om om om om om om om w).mono ?_;exact aDn
theorem aA2(A B:Nat)(hA:A<340282366920938463463374607431768211456)(hB:B<340282366920938463463374607431768211456)(w:World):
  CT 235 #[aG ((A/18446744073709551616:Nat):Int) ((A%18446744073709551616:Nat):Int),aG ((B/18446744073709551616:Nat):Int) ((B%18446744073709551616:Nat):Int)] w fun e w'=>∃x y,e=.returned (.tuple #[aG x y,.bool (decide (A<B))])/\Gr w w':=by
 refine(BD _ _ _ _ om om om om om om om om w).mono ?_;rintro e w' ⟨rfl,hg⟩;refine⟨_,_,Eu rfl rfl ?_,hg⟩;first
  |(rw[aBG _ _ _ _ om om om (by omega)];rw[decide_eq_decide];omega)
  |(rw[decide_eq_decide];omega)
theorem EM(s e c:Int)(M:Nat)(st:Bool)(h0:0<M)(hn:nb M<=106)(e0:-50000<=e)(e1:e<=50000)(w:World):
  QR 232 #[aU s e c (((M/18446744073709551616:Nat):Int)) (((M%18446744073709551616:Nat):Int)) st 0] w (aU s (e-(127-nb M:Nat)) c (((M*2^(127-nb M)/18446744073709551616:Nat):Int)) (((M*2^(127-nb M)%18446744073709551616:Nat):Int)) st 0):=by
 have hb:=jB M h0 hn;have hM:M<340282366920938463463374607431768211456:=by
  exact aDo
 have HZ:KR 215 #[aG ((M/18446744073709551616:Nat):Int) ((M%18446744073709551616:Nat):Int)] (.int .i64 (128-(nb M:Int))):=fun w=>W9 M hM w;have HL:KR 158 #[aG ((M/18446744073709551616:Nat):Int) ((M%18446744073709551616:Nat):Int),.int .i64 ((127-nb M:Nat):Int)] (aG ((M*2^(127-nb M)/18446744073709551616:Nat):Int) ((M*2^(127-nb M)%18446744073709551616:Nat):Int)):=fun w=>aHU M hM (127-nb M) om om w;obtain⟨L,hL⟩:∃L:Int,((127-nb M:Nat):Int)=L:=⟨_,rfl⟩;obtain⟨u,hu⟩:∃u:Int,128-(nb M:Int)=u:=⟨_,rfl⟩;obtain⟨y,hy⟩:∃y:Int,e-L=y:=⟨_,rfl⟩;rw[hL]at HL;rw[hu]at HZ;rw[hL,hy];have u1:IntKind.i64.wrap (u-1)=L:=wi;have u2:IntKind.i64.wrap (e-L)=y:=wi;generalize((M*2^(127-nb M)/18446744073709551616:Nat):Int)=Ah at*
 generalize((M*2^(127-nb M)%18446744073709551616:Nat):Int)=Al at*
 generalize((M/18446744073709551616:Nat):Int)=mh at*
 generalize((M%18446744073709551616:Nat):Int)=ml at*
 clear hb hu hL hy;go_enter func232,ntmps232;go_wp2_with (first
  |(go_at_call 215;refine ku (HZ _) fun w1 ak=>?_;have:=ak.Y70 w;have:=ak.Cb w)
  |(go_at_call 158;refine ku (HL _) fun w2 aA=>?_;have:=aA.Y70 w;have jk:=aA.Cb w))
 exact bI (by simp[results,Tryz.results232,go_sem,jk])
theorem Jm(s e c s' e' c':Int)(A B:Nat)(st st' b:Bool)(hA:A<340282366920938463463374607431768211456)(hB:B<340282366920938463463374607431768211456)(hb:b=decide (e<e'\/e=e'/\A<B))(w:World):
  QR 233 #[aU s e c (((A/18446744073709551616:Nat):Int)) (((A%18446744073709551616:Nat):Int)) st 0,aU (s') (e') (c') (((B/18446744073709551616:Nat):Int)) (((B%18446744073709551616:Nat):Int)) (st') 0] w (.bool b):=by
 have HS:Hid (∀w,CT 235 #[aG ((A/18446744073709551616:Nat):Int) ((A%18446744073709551616:Nat):Int),aG ((B/18446744073709551616:Nat):Int) ((B%18446744073709551616:Nat):Int)] w fun e w'=>∃x y,e=.returned (.tuple #[aG x y,.bool (decide (A<B))])/\Gr w w'):=fun w=>aA2 A B hA hB w;have hB':Hid (b=decide (e<e'\/e=e'/\A<B)):=hb;obtain⟨t,ht⟩:∃t:Bool,decide (A<B)=t:=⟨_,rfl⟩;rw[ht]at HS;have ht':Hid (decide (A<B)=t):=ht;clear hb ht;generalize((A/18446744073709551616:Nat):Int)=ah at*
 generalize((A%18446744073709551616:Nat):Int)=al at*
 generalize((B/18446744073709551616:Nat):Int)=bh at*
 generalize((B%18446744073709551616:Nat):Int)=bl' at*
 by_cases ce:e=e'
 ·subst ce;go_enter func233,ntmps233;go_wp2_with (go_at_call 235;refine(HS _).mono ?_;rintro z w1 ⟨x,y,rfl,ak⟩);go_returns;exact⟨bJ (congrArg Value.bool (by rw[hB'.out,<-ht'.out];simp)),Gr.g⟩
 ·have c1:(e==e')=J:=by simp[ce]
  go_enter func233,ntmps233;go_wp2;go_returns;exact⟨bJ (congrArg Value.bool (by rw[hB'.out];simp[ce])),Gr.g⟩
theorem aCr(s t:Int)(hs:s=0\/s=1)(ht:t=0\/t=1):bits .xor .i64 s t=mulS s t:=by
 rcases hs with rfl|rfl<;>rcases ht with rfl|rfl<;>decide+kernel
theorem times_any(s e s' e':Int)(hs:s=0\/s=1)(ht:s'=0\/s'=1)(e0:-50000<=e)(e1:e<=50000)(f0:-50000<=e')(f1:e'<=50000)(w:World):
  QR 210 #[gQ s e,gQ s' e'] w (gQ (mulS s s') (e+e')):=by
 have u1:=aCr s s' hs ht;have u2:IntKind.i64.wrap (e+e')=e+e':=wi;generalize mulS s s'=z at*
 go_enter func210,ntmps210;go_wp2;go_returns;exact⟨bJ (by simp[u1,u2]),Gr.g⟩
theorem aIw(A B:Nat)(hA:A<18446744073709551616)(hB:B<18446744073709551616)(w:World):
  QR 183 #[.int .u64 (A:Nat),.int .u64 (B:Nat)] w (aG ((A*B/18446744073709551616:Nat):Int) ((A*B%18446744073709551616:Nat):Int)):=by
 refine(BN _ _ om om om om w).mono ?_;rintro e w' ⟨rfl,hg⟩;refine⟨Ew ?_ ?_,hg⟩
 ·rw[<-Int.natCast_mul];omega
 ·rw[<-Int.natCast_mul];omega
theorem aDp{P:Prop}(h:P:=by
 go_enter func45,ntmps45;go_wp2_with (first
  |(go_at_call 94;refine kw (HF _) ?_)
  |(go_at_call 57;first|(with_reducible refine ku (gJ.out _) fun w1 ak=>?_;have gY:=ak.aZ w;have hz0:=au gY.1)|(with_reducible refine ku (iJ.out _) fun w2 aA=>?_;have jA:=aA.aZ w;have:=aA.J8 w1;have hz1:=au jA.1))
  |(go_at_call 95;first|(with_reducible refine ku (kY.out _) fun va aS=>?_;have:=aS.aZ w;have:=aS.dX w1;have:=aS.dX w2)|(with_reducible refine ku (r_.out _) fun vb bV=>?_;have:=bV.aZ w;have:=bV.dX w1;have:=bV.dX w2))
  |(go_at_call 96;refine ku (HL _) fun w9 aV=>?_;have iw:=aV.aZ w))
 exact dA (by simp[results,Tryz.results45,go_sem,iw])):P:=h
theorem aDq{P:Prop}(h:P:=by
 subst e1 e2;go_enter func45,ntmps45;go_wp2_with (first
  |(go_at_call 94;refine kw (HF _) ?_)
  |(go_at_call 57;first|(with_reducible refine ku (gJ.out _) fun w1 ak=>?_;have gY:=ak.aZ w;have hz0:=au gY.1)|(with_reducible refine ku (iJ.out _) fun w2 aA=>?_;have jA:=aA.aZ w;have:=aA.J8 w1;have hz1:=au jA.1))
  |(go_at_call 95;first|(with_reducible refine ku (kY.out _) fun va aS=>?_;have:=aS.aZ w;have:=aS.dX w1;have:=aS.dX w2)|(with_reducible refine ku (r_.out _) fun vb bV=>?_;have:=bV.aZ w;have:=bV.dX w1;have:=bV.dX w2))
  |(go_at_call 97;refine ku (HL _) fun w9 aV=>?_;have iw:=aV.aZ w))
 exact dA (by simp[results,Tryz.results45,go_sem,iw])):P:=h
theorem aDr{P:Prop}(h:P:=by
 subst e1 e2;go_enter func45,ntmps45;go_wp2_with (first
  |(go_at_call 94;refine kw (HF _) ?_)
  |(go_at_call 57;first|(with_reducible refine ku (gJ.out _) fun w1 ak=>?_;have gY:=ak.aZ w;have hz0:=au gY.1)|(with_reducible refine ku (iJ.out _) fun w2 aA=>?_;have jA:=aA.aZ w;have:=aA.J8 w1;have hz1:=au jA.1))
  |(go_at_call 95;first|(with_reducible refine ku (kY.out _) fun va aS=>?_;have:=aS.aZ w;have:=aS.dX w1;have:=aS.dX w2)|(with_reducible refine ku (r_.out _) fun vb bV=>?_;have:=bV.aZ w;have:=bV.dX w1;have:=bV.dX w2))
  |(go_at_call 83;refine ku (HL _) fun w9 aV=>?_;have iw:=aV.aZ w))
 exact dA (by simp[results,Tryz.results45,go_sem,iw])):P:=h
theorem Xu{P:Prop}(h:P:=by
 go_enter func45,ntmps45;go_wp2_with (first
  |(go_at_call 94;refine kw (HF _) ?_)
  |(go_at_call 57;first|(with_reducible refine ku (gJ.out _) fun w1 ak=>?_;have gY:=ak.aZ w;have hz0:=au gY.1)|(with_reducible refine ku (iJ.out _) fun w2 aA=>?_;have jA:=aA.aZ w;have:=aA.J8 w1;have hz1:=au jA.1))
  |(go_at_call 95;first|(with_reducible refine ku (kY.out _) fun va aS=>?_;have:=aS.aZ w;have:=aS.dX w1;have:=aS.dX w2))
  |(go_at_call 96;refine ku (HL _) fun w9 aV=>?_;have iw:=aV.aZ w))
 exact dA (by simp[results,Tryz.results45,go_sem,iw])):P:=h
theorem Xv{P:Prop}(h:P:=by
 subst e1 e2;go_enter func45,ntmps45;go_wp2_with (first
  |(go_at_call 94;refine kw (HF _) ?_)
  |(go_at_call 57;first|(with_reducible refine ku (gJ.out _) fun w1 ak=>?_;have gY:=ak.aZ w;have hz0:=au gY.1)|(with_reducible refine ku (iJ.out _) fun w2 aA=>?_;have jA:=aA.aZ w;have:=aA.J8 w1;have hz1:=au jA.1))
  |(go_at_call 95;first|(with_reducible refine ku (kY.out _) fun va aS=>?_;have:=aS.aZ w;have:=aS.dX w1;have:=aS.dX w2)|(with_reducible refine ku (r_.out _) fun vb bV=>?_;have:=bV.aZ w;have:=bV.dX w1;have:=bV.dX w2))
  |(go_at_call 84;refine ku (HL _) fun w9 aV=>?_;have iw:=aV.aZ w))
 exact dA (by simp[results,Tryz.results45,go_sem,iw])):P:=h
theorem Ej(f mode a b:Int)(HF:fM f mode a b J)(z fl:Int)(HL:nH f z fl)(w:World):
  rW f mode a b w z fl:=by
 go_enter func45,ntmps45;go_wp2_with (first
  |(go_at_call 94;refine kw (HF _) ?_)
  |(go_at_call 83;refine ku (HL _) fun w9 aV=>?_;have iw:=aV.aZ w))
 exact dA (by simp[results,Tryz.results45,go_sem,iw])
theorem U0(f mode a b ca sa xa ga cb sb xb gb:Int)(HF:fM f mode a b true)(gJ:bC f a ca sa xa ga)(iJ:bC f b cb sb xb gb)(kY:bF ca sa xa ga true)(e4:(ca==4)=true)(z fl:Int)(HL:oI f true z fl)(w:World):
  rW f mode a b w z fl:=by
 exact Xu
theorem UZ(f mode a b ca sa xa ga cb sb xb gb:Int)(HF:fM f mode a b true)(gJ:bC f a ca sa xa ga)(iJ:bC f b cb sb xb gb)(kY:bF ca sa xa ga true)(e4:(ca==4)=J)(t:Bool)(e5:(cb==4)=t)(z fl:Int)(HL:oI f t z fl)(w:World):
  rW f mode a b w z fl:=by
 cases t
 ·exact Xu
 ·exact Xu
theorem UY(f mode a b ca sa xa ga cb sb xb gb:Int)(HF:fM f mode a b true)(gJ:bC f a ca sa xa ga)(iJ:bC f b cb sb xb gb)(kY:bF ca sa xa ga J)(r_:bF cb sb xb gb true)(e4:(ca==4)=J)(t:Bool)(e5:(cb==4)=t)(z fl:Int)(HL:oI f t z fl)(w:World):
  rW f mode a b w z fl:=by
 cases t
 ·exact aDp
 ·exact aDp
theorem aBm(f mode a b ca sa xa ga cb sb xb gb:Int)(HF:fM f mode a b true)(gJ:bC f a ca sa xa ga)(iJ:bC f b cb sb xb gb)(kY:bF ca sa xa ga J)(r_:bF cb sb xb gb J)(e1:ca=0)(e2:cb=0)(z fl:Int)(HL:nH f z fl)(w:World):
  rW f mode a b w z fl:=by
 exact aDr
theorem aBf(f mode a b ca sa xa ga cb sb xb gb:Int)(HF:fM f mode a b true)(gJ:bC f a ca sa xa ga)(iJ:bC f b cb sb xb gb)(kY:bF ca sa xa ga J)(r_:bF cb sb xb gb J)(e1:ca=2)(e2:cb=2)(z fl:Int)(HL:nH f z fl)(w:World):
  rW f mode a b w z fl:=by
 exact aDr
theorem aBh(f mode a b ca sa xa ga cb sb xb gb:Int)(HF:fM f mode a b true)(gJ:bC f a ca sa xa ga)(iJ:bC f b cb sb xb gb)(kY:bF ca sa xa ga J)(r_:bF cb sb xb gb J)(e1:ca=2)(e2:cb=0)(sp:Int)(a0:0<=sa)(a1:sa<=1)(b0:0<=sb)(b1:sb<=1)(hm1:(sa+sb).tmod 2=sp)(hm2:(sa+sb)%2=sp)(z fl:Int)(HL:Ci f sp z fl)(w:World):
  rW f mode a b w z fl:=by
 exact aDq
theorem aBg(f mode a b ca sa xa ga cb sb xb gb:Int)(HF:fM f mode a b true)(gJ:bC f a ca sa xa ga)(iJ:bC f b cb sb xb gb)(kY:bF ca sa xa ga J)(r_:bF cb sb xb gb J)(e1:ca=2)(e2:cb=1)(sp:Int)(a0:0<=sa)(a1:sa<=1)(b0:0<=sb)(b1:sb<=1)(hm1:(sa+sb).tmod 2=sp)(hm2:(sa+sb)%2=sp)(z fl:Int)(HL:Ci f sp z fl)(w:World):
  rW f mode a b w z fl:=by
 exact aDq
theorem aBl(f mode a b ca sa xa ga cb sb xb gb:Int)(HF:fM f mode a b true)(gJ:bC f a ca sa xa ga)(iJ:bC f b cb sb xb gb)(kY:bF ca sa xa ga J)(r_:bF cb sb xb gb J)(e1:ca=0)(e2:cb=1)(sp:Int)(a0:0<=sa)(a1:sa<=1)(b0:0<=sb)(b1:sb<=1)(hm1:(sa+sb).tmod 2=sp)(hm2:(sa+sb)%2=sp)(z fl:Int)(HL:m_ f sp z fl)(w:World):
  rW f mode a b w z fl:=by
 exact Xv
theorem aBk(f mode a b ca sa xa ga cb sb xb gb:Int)(HF:fM f mode a b true)(gJ:bC f a ca sa xa ga)(iJ:bC f b cb sb xb gb)(kY:bF ca sa xa ga J)(r_:bF cb sb xb gb J)(e1:ca=0)(e2:cb=2)(sp:Int)(a0:0<=sa)(a1:sa<=1)(b0:0<=sb)(b1:sb<=1)(hm1:(sa+sb).tmod 2=sp)(hm2:(sa+sb)%2=sp)(z fl:Int)(HL:m_ f sp z fl)(w:World):
  rW f mode a b w z fl:=by
 exact Xv
theorem aBi(f mode a b ca sa xa ga cb sb xb gb:Int)(HF:fM f mode a b true)(gJ:bC f a ca sa xa ga)(iJ:bC f b cb sb xb gb)(kY:bF ca sa xa ga J)(r_:bF cb sb xb gb J)(e1:ca=1)(e2:cb=2)(sp:Int)(a0:0<=sa)(a1:sa<=1)(b0:0<=sb)(b1:sb<=1)(hm1:(sa+sb).tmod 2=sp)(hm2:(sa+sb)%2=sp)(z fl:Int)(HL:m_ f sp z fl)(w:World):
  rW f mode a b w z fl:=by
 exact Xv
theorem aBj(f mode a b ca sa xa ga cb sb xb gb:Int)(HF:fM f mode a b true)(gJ:bC f a ca sa xa ga)(iJ:bC f b cb sb xb gb)(kY:bF ca sa xa ga J)(r_:bF cb sb xb gb J)(e1:ca=1)(e2:cb=0)(sp:Int)(a0:0<=sa)(a1:sa<=1)(b0:0<=sb)(b1:sb<=1)(hm1:(sa+sb).tmod 2=sp)(hm2:(sa+sb)%2=sp)(inf z:Int)(HI:KW 107 #[.int .i64 f] (.int .u64 inf))(HP:tX f sp inf z)(w:World):
  rW f mode a b w z 2:=by
 subst e1 e2;go_enter func45,ntmps45;go_wp2_with (first
  |(go_at_call 94;refine kw (HF _) ?_)
  |(go_at_call 57;first|(with_reducible refine ku (gJ.out _) fun w1 ak=>?_;have gY:=ak.aZ w;have hz0:=au gY.1)|(with_reducible refine ku (iJ.out _) fun w2 aA=>?_;have jA:=aA.aZ w;have:=aA.J8 w1;have hz1:=au jA.1))
  |(go_at_call 95;first|(with_reducible refine ku (kY.out _) fun va aS=>?_;have:=aS.aZ w;have:=aS.dX w1;have:=aS.dX w2)|(with_reducible refine ku (r_.out _) fun vb bV=>?_;have aBq:=bV.aZ w;have:=bV.dX w1;have:=bV.dX w2))
  |(go_at_call 107;refine kw (HI _) ?_)
  |(go_at_call 106;refine kw (HP _) ?_))
 exact dA (by simp[results,Tryz.results45,go_sem,aBq])
