import Derived.Test.YtmiekgjgpmfekaaGreatDoorG0
import Derived.Test.YtmiekgjgpmfekaaGreatDoorG7
set_option linter.all false
set_option maxRecDepth 1000000
set_option maxHeartbeats 40000000
open Bool renaming false → O
open Go.Proofs.YtmiekgjgpmfekaaGreatDoor renaming vI → J
open Go.Ending renaming returned → Y
open Go.Value renaming bool → Z
open Go.Proofs.Tryz
namespace Go.Proofs.YtmiekgjgpmfekaaGreatDoor
open Go.RowKit
variable{v:Value}{n M N:Nat}{w:World}{f p mx one inf sg nan:Int}
theorem KY{P:Prop}(h:P:=by
 have:=Nat.div_add_mod M (2^d);rw[hL,hR,Nat.mul_comm]at this;omega):P:=h
theorem KZ{P:Prop}(h:P:=by
 rw[hd1];refine(fV hb om (d-1) om).mono (fun x w'' ⟨v'',k'',h1,h2,h3,h4⟩=>⟨v'',k'',h1,?_,om,h4⟩);rw[Nat.one_mul,hP]at h2;exact h2):P:=h
theorem aDG{P:Prop}(h:P:=by
 go_wp2_with (first
  |(go_at_call 100;refine(yD _).mono ?_;rintro x w4 ⟨v1,k1,rfl,hb1,hk1,hg4⟩;obtain⟨c1,c2,c3⟩:oO w4 w.heap.size 1 2 3 (v) (J e) (Z true):=⟨ks,ks,ks⟩)
  |(go_at_call 99;refine(RS v1 k1 _ hb1 hk1).mono ?_;rintro x w5 ⟨vP,kP,rfl,hbP,hkP,hg5⟩;obtain⟨d1,d2,d3⟩:oO w5 w.heap.size 1 2 3 (v) (J e) (Z true):=⟨ks,ks,ks⟩)
  |(go_at_call 102;refine(Bd _ _ vP kP _ (Big.gb hbR kg) hkR hbP hkP).mono ?_;rintro x w6 ⟨rfl,hg6⟩;obtain⟨f1,f2,f3⟩:oO w6 w.heap.size 1 2 3 (v) (J e) (Z true):=⟨ks,ks,ks⟩))
 go_returns;first|exact⟨_,rfl,_,Big.gb hbL kg,Rf,kg⟩|exact⟨_,_,rfl,Big.gb hbL kg,Rf,kg⟩):P:=h
theorem aDH{P:Prop}(h:P:=by
 go_wp2_with (first
  |(go_at_call 100;refine(yD _).mono ?_;rintro x w4 ⟨v1,k1,rfl,hb1,hk1,hg4⟩;obtain⟨c1,c2,c3⟩:oO w4 w.heap.size 1 2 3 (v) (J e) (Z O):=⟨ks,ks,ks⟩)
  |(go_at_call 99;refine(RS v1 k1 _ hb1 hk1).mono ?_;rintro x w5 ⟨vP,kP,rfl,hbP,hkP,hg5⟩;obtain⟨d1,d2,d3⟩:oO w5 w.heap.size 1 2 3 (v) (J e) (Z O):=⟨ks,ks,ks⟩)
  |(go_at_call 102;refine(Bd _ _ vP kP _ (Big.gb hbR kg) hkR hbP hkP).mono ?_;rintro x w6 ⟨rfl,hg6⟩;obtain⟨f1,f2,f3⟩:oO w6 w.heap.size 1 2 3 (v) (J e) (Z O):=⟨ks,ks,ks⟩))
 go_returns;first|exact⟨_,rfl,_,Big.gb hbL kg,Rf,kg⟩|exact⟨_,_,rfl,Big.gb hbL kg,Rf,kg⟩):P:=h
theorem aDI{P:Prop}(h:P:=by
 have J9:Hid (∀w',Gb w w'->CT 187 #[v,J d] w' fun x w''=>∃v' k,x=Y v'/\Big w'' v' k L/\k<=n/\Gb w' w''):=fun w' hg=>hL▸qX (h.gb hg) om d om;have yC:Hid (∀v' k w',Big w' v' k L->k<=n->CT 99 #[v',J d] w' fun x w''=>∃v' k,x=Y v'/\Big w'' v' k (L*2^d)/\k<=n+70000/\Gb w' w''):=fun v' k w' hb hk=>(fV hb om d om).mono (fun x w'' ⟨v'',k'',h1,h2,h3,h4⟩=>⟨v'',k'',h1,h2,om,h4⟩);have hRR:M-L*2^d=R/\L*2^d<=M:=by
  exact KY
 have HSub:Hid (∀v2 k2 w',Gb w w'->Big w' v2 k2 (L*2^d)->k2<=n+70000->CT 176 #[v,v2] w' fun x w''=>∃v' k,x=Y v'/\Big w'' v' k R/\k<=n/\Gb w' w''):=fun v2 k2 w' hg hb hk=>hRR.1▸lK (h.gb hg) om hb om hRR.2;have yD:Hid (∀w',CT 100 #[.int .u64 1] w' fun x w''=>∃v' k,x=Y v'/\Big w'' v' k 1/\k<=2/\Gb w' w''):=fun w'=>fC 1 om w';have hd1:((d:Int)-1)=((d-1:Nat):Int):=om;have RS:Hid (∀v' k w',Big w' v' k 1->k<=2->CT 99 #[v',J ((d:Int)-1)] w' fun x w''=>∃v' k,x=Y v'/\Big w'' v' k P/\k<=70000/\Gb w' w''):=fun v' k w' hb hk=>by
  exact KZ
 have Bd:Hid (∀v1 k1 v2 k2 w',Big w' v1 k1 R->k1<=n->Big w' v2 k2 P->k2<=70000->QB 102 #[v1,v2] w' (J (fH R P))):=fun v1 k1 v2 k2 w' h1 hk1 h2 hk2=>gV h1 om h2 om;have hqe:¬q<=e:=om;clear hR hP hL hRR h hd1
 skip
 go_enter func150,ntmps150;go_wp2_with (go_at_call 187;refine(J9 _ kg).mono ?_;rintro x w1 ⟨vL,kL,rfl,hbL,Rf,hg1⟩;obtain⟨a1,a2,a3⟩:oO w1 w.heap.size 1 2 3 (v) (J e) (Z rest):=⟨ks,ks,ks⟩);go_region_held3 (fun w'=>aj w' w.heap.size 1 (v)/\aj w' w.heap.size 2 (J e)/\aj w' w.heap.size 3 (Z rest))
  ((go_split_ands;(repeat' apply And.intro)<;>exact kb))
  (first
   |(go_at_call 99;refine(yC vL kL _ (Big.gb hbL kg) Rf).mono ?_;rintro x w2 ⟨vT,kT,rfl,hbT,hkT,hg2⟩)
   |(go_at_call 176;refine(HSub vT kT _ kg (Big.gb hbT kg) hkT).mono ?_;rintro x w3 ⟨vR,kR,rfl,hbR,hkR,hg3⟩;obtain⟨bR,aCi,rfl,hcR⟩:=Big.shape hbR;have hk0:=Big.some hbR hRn;obtain⟨b1,b2,b3⟩:oO w3 w.heap.size 1 2 3 (v) (J e) (Z rest):=⟨ks,ks,ks⟩))
 all_goals
  (try go_split_ands)
  go_wp2_with (first
   |(go_at_call 100;refine(yD _).mono ?_;rintro x w4 ⟨v1,k1,rfl,hb1,hk1,hg4⟩;obtain⟨c1,c2,c3⟩:oO w4 w.heap.size 1 2 3 (v) (J e) (Z rest):=⟨ks,ks,ks⟩)
   |(go_at_call 99;refine(RS v1 k1 _ hb1 hk1).mono ?_;rintro x w5 ⟨vP,kP,rfl,hbP,hkP,hg5⟩;obtain⟨d1,d2,d3⟩:oO w5 w.heap.size 1 2 3 (v) (J e) (Z rest):=⟨ks,ks,ks⟩)
   |(go_at_call 102;refine(Bd _ _ vP kP _ (Big.gb hbR kg) hkR hbP hkP).mono ?_;rintro x w6 ⟨rfl,hg6⟩;obtain⟨f1,f2,f3⟩:oO w6 w.heap.size 1 2 3 (v) (J e) (Z rest):=⟨ks,ks,ks⟩))
  go_returns;first|exact⟨_,rfl,_,Big.gb hbL kg,Rf,kg⟩|exact⟨_,_,rfl,Big.gb hbL kg,Rf,kg⟩):P:=h
attribute [local go_sem] aj
theorem Zd(h:Big w v n M)(hn:n<=100000)(s e q:Int)(rest:Bool)(e0:-1000000<=e)(e1:e<=1000000)(q0:-1000000<=q)(hq:q<=e):
  CT 150 #[.agg #[J s,v,J e,Z rest],J q] w fun x w'=>∃v' k,x=Y (.tuple #[v',J (aJ M e q rest)])/\Big w' v' k (aW M e q)/\k<=n+70000/\Gb w w':=by
 obtain⟨d,hd⟩:∃d:Nat,e-q=(d:Int):=⟨(e-q).toNat,om⟩;have eLo:aW M e q=M*2^d:=by unfold aW;rw[if_pos hq,hd];rfl
 have eHa:aJ M e q rest=(if rest then 1 else 0):=by unfold aJ;rw[if_pos hq]
 rw[eLo,eHa];have HS:Hid (∀w',Gb w w'->CT 99 #[v,J d] w' fun x w''=>∃v' k,x=Y v'/\Big w'' v' k (M*2^d)/\k<=n+d/32+1/\Gb w' w''):=fun w' hg=>fV (h.gb hg) om d om;clear eLo eHa h;cases rest;all_goals
  go_enter func150,ntmps150;go_wp2_with (go_at_call 99;refine(HS _ kg).mono ?_;rintro x w1 ⟨v',k,rfl,hbig,hk,hgb⟩);go_returns;first|exact⟨_,rfl,_,hbig,om,kg⟩|exact⟨_,_,rfl,hbig,om,kg⟩
theorem Big.shape(h:Big w v n N):∃b cap,v=aB b n cap/\n<=cap:=by
 obtain⟨_,_,b,cap,h2,h3,_⟩:=h;exact⟨b,cap,h2,h3⟩
theorem Big.none(h:Big w v n N)(hN:N=0):n=0:=h.1.iff.mpr hN
theorem Big.some(h:Big w v n N)(hN:N≠0):((n:Int)==0)=O:=by
 have:n≠0:=fun e=>hN (h.1.iff.mp e);simp;omega
theorem aBQ(h:Big w v n M)(hn:n<=100000)(s e q:Int)(e0:-1000000<=e)(e1:e<=1000000)(q1:q<=1000000)(d:Nat)(hd:q-e=(d:Int))(d1:1<=d)(R P L:Nat)(hR:M%2^d=R)(hP:2^(d-1)=P)(hL:M/2^d=L)(hR0:R=0):
  CT 150 #[.agg #[J s,v,J e,Z O],J q] w fun x w'=>∃v' k,x=Y (.tuple #[v',J 0])/\Big w' v' k L/\k<=n/\Gb w w':=by
 have J9:Hid (∀w',Gb w w'->CT 187 #[v,J d] w' fun x w''=>∃v' k,x=Y v'/\Big w'' v' k L/\k<=n/\Gb w' w''):=fun w' hg=>hL▸qX (h.gb hg) om d om;have yC:Hid (∀v' k w',Big w' v' k L->k<=n->CT 99 #[v',J d] w' fun x w''=>∃v' k,x=Y v'/\Big w'' v' k (L*2^d)/\k<=n+70000/\Gb w' w''):=fun v' k w' hb hk=>(fV hb om d om).mono (fun x w'' ⟨v'',k'',h1,h2,h3,h4⟩=>⟨v'',k'',h1,h2,om,h4⟩);have hRR:M-L*2^d=R/\L*2^d<=M:=by
  exact KY
 have HSub:Hid (∀v2 k2 w',Gb w w'->Big w' v2 k2 (L*2^d)->k2<=n+70000->CT 176 #[v,v2] w' fun x w''=>∃v' k,x=Y v'/\Big w'' v' k R/\k<=n/\Gb w' w''):=fun v2 k2 w' hg hb hk=>hRR.1▸lK (h.gb hg) om hb om hRR.2;have yD:Hid (∀w',CT 100 #[.int .u64 1] w' fun x w''=>∃v' k,x=Y v'/\Big w'' v' k 1/\k<=2/\Gb w' w''):=fun w'=>fC 1 om w';have hd1:((d:Int)-1)=((d-1:Nat):Int):=om;have RS:Hid (∀v' k w',Big w' v' k 1->k<=2->CT 99 #[v',J ((d:Int)-1)] w' fun x w''=>∃v' k,x=Y v'/\Big w'' v' k P/\k<=70000/\Gb w' w''):=fun v' k w' hb hk=>by
  exact KZ
 have Bd:Hid (∀v1 k1 v2 k2 w',Big w' v1 k1 R->k1<=n->Big w' v2 k2 P->k2<=70000->QB 102 #[v1,v2] w' (J (fH R P))):=fun v1 k1 v2 k2 w' h1 hk1 h2 hk2=>gV h1 om h2 om;have hqe:¬q<=e:=om;clear hR hP hL hRR h hd1;subst hR0;go_enter func150,ntmps150;go_wp2_with (go_at_call 187;refine(J9 _ kg).mono ?_;rintro x w1 ⟨vL,kL,rfl,hbL,Rf,hg1⟩;obtain⟨a1,a2,a3⟩:oO w1 w.heap.size 1 2 3 (v) (J e) (Z O):=⟨ks,ks,ks⟩);go_region_held3 (fun w'=>aj w' w.heap.size 1 (v)/\aj w' w.heap.size 2 (J e)/\aj w' w.heap.size 3 (Z O))
  ((go_split_ands;(repeat' apply And.intro)<;>exact kb))
  (first
   |(go_at_call 99;refine(yC vL kL _ (Big.gb hbL kg) Rf).mono ?_;rintro x w2 ⟨vT,kT,rfl,hbT,hkT,hg2⟩)
   |(go_at_call 176;refine(HSub vT kT _ kg (Big.gb hbT kg) hkT).mono ?_;rintro x w3 ⟨vR,kR,rfl,hbR,hkR,hg3⟩;obtain⟨bR,aCi,rfl,hcR⟩:=Big.shape hbR;obtain rfl:=Big.none hbR rfl;obtain⟨b1,b2,b3⟩:oO w3 w.heap.size 1 2 3 (v) (J e) (Z O):=⟨ks,ks,ks⟩))
 all_goals
  (try go_split_ands)
  exact aDH
theorem aBP(h:Big w v n M)(hn:n<=100000)(s e q:Int)(e0:-1000000<=e)(e1:e<=1000000)(q1:q<=1000000)(d:Nat)(hd:q-e=(d:Int))(d1:1<=d)(R P L:Nat)(hR:M%2^d=R)(hP:2^(d-1)=P)(hL:M/2^d=L)(hR0:R=0)(hc:fH R P=-1):
  CT 150 #[.agg #[J s,v,J e,Z true],J q] w fun x w'=>∃v' k,x=Y (.tuple #[v',J 1])/\Big w' v' k L/\k<=n/\Gb w w':=by
 have J9:Hid (∀w',Gb w w'->CT 187 #[v,J d] w' fun x w''=>∃v' k,x=Y v'/\Big w'' v' k L/\k<=n/\Gb w' w''):=fun w' hg=>hL▸qX (h.gb hg) om d om;have yC:Hid (∀v' k w',Big w' v' k L->k<=n->CT 99 #[v',J d] w' fun x w''=>∃v' k,x=Y v'/\Big w'' v' k (L*2^d)/\k<=n+70000/\Gb w' w''):=fun v' k w' hb hk=>(fV hb om d om).mono (fun x w'' ⟨v'',k'',h1,h2,h3,h4⟩=>⟨v'',k'',h1,h2,om,h4⟩);have hRR:M-L*2^d=R/\L*2^d<=M:=by
  exact KY
 have HSub:Hid (∀v2 k2 w',Gb w w'->Big w' v2 k2 (L*2^d)->k2<=n+70000->CT 176 #[v,v2] w' fun x w''=>∃v' k,x=Y v'/\Big w'' v' k R/\k<=n/\Gb w' w''):=fun v2 k2 w' hg hb hk=>hRR.1▸lK (h.gb hg) om hb om hRR.2;have yD:Hid (∀w',CT 100 #[.int .u64 1] w' fun x w''=>∃v' k,x=Y v'/\Big w'' v' k 1/\k<=2/\Gb w' w''):=fun w'=>fC 1 om w';have hd1:((d:Int)-1)=((d-1:Nat):Int):=om;have RS:Hid (∀v' k w',Big w' v' k 1->k<=2->CT 99 #[v',J ((d:Int)-1)] w' fun x w''=>∃v' k,x=Y v'/\Big w'' v' k P/\k<=70000/\Gb w' w''):=fun v' k w' hb hk=>by
  exact KZ
 have Bd:Hid (∀v1 k1 v2 k2 w',Big w' v1 k1 R->k1<=n->Big w' v2 k2 P->k2<=70000->QB 102 #[v1,v2] w' (J (fH R P))):=fun v1 k1 v2 k2 w' h1 hk1 h2 hk2=>gV h1 om h2 om;have hqe:¬q<=e:=om;clear hR hP hL hRR h hd1;subst hR0;go_enter func150,ntmps150;go_wp2_with (go_at_call 187;refine(J9 _ kg).mono ?_;rintro x w1 ⟨vL,kL,rfl,hbL,Rf,hg1⟩;obtain⟨a1,a2,a3⟩:oO w1 w.heap.size 1 2 3 (v) (J e) (Z true):=⟨ks,ks,ks⟩);go_region_held3 (fun w'=>aj w' w.heap.size 1 (v)/\aj w' w.heap.size 2 (J e)/\aj w' w.heap.size 3 (Z true))
  ((go_split_ands;(repeat' apply And.intro)<;>exact kb))
  (first
   |(go_at_call 99;refine(yC vL kL _ (Big.gb hbL kg) Rf).mono ?_;rintro x w2 ⟨vT,kT,rfl,hbT,hkT,hg2⟩)
   |(go_at_call 176;refine(HSub vT kT _ kg (Big.gb hbT kg) hkT).mono ?_;rintro x w3 ⟨vR,kR,rfl,hbR,hkR,hg3⟩;obtain⟨bR,aCi,rfl,hcR⟩:=Big.shape hbR;obtain rfl:=Big.none hbR rfl;obtain⟨b1,b2,b3⟩:oO w3 w.heap.size 1 2 3 (v) (J e) (Z true):=⟨ks,ks,ks⟩))
 all_goals
  (try go_split_ands)
  exact aDG
theorem aBO(h:Big w v n M)(hn:n<=100000)(s e q:Int)(rest:Bool)(e0:-1000000<=e)(e1:e<=1000000)(q1:q<=1000000)(d:Nat)(hd:q-e=(d:Int))(d1:1<=d)(R P L:Nat)(hR:M%2^d=R)(hP:2^(d-1)=P)(hL:M/2^d=L)(hRn:R≠0)(hc:fH R P=-1):
  CT 150 #[.agg #[J s,v,J e,Z rest],J q] w fun x w'=>∃v' k,x=Y (.tuple #[v',J 1])/\Big w' v' k L/\k<=n/\Gb w w':=by
 exact aDI
theorem aBN(h:Big w v n M)(hn:n<=100000)(s e q:Int)(e0:-1000000<=e)(e1:e<=1000000)(q1:q<=1000000)(d:Nat)(hd:q-e=(d:Int))(d1:1<=d)(R P L:Nat)(hR:M%2^d=R)(hP:2^(d-1)=P)(hL:M/2^d=L)(hRn:R≠0)(hc:fH R P=0):
  CT 150 #[.agg #[J s,v,J e,Z O],J q] w fun x w'=>∃v' k,x=Y (.tuple #[v',J 2])/\Big w' v' k L/\k<=n/\Gb w w':=by
 have J9:Hid (∀w',Gb w w'->CT 187 #[v,J d] w' fun x w''=>∃v' k,x=Y v'/\Big w'' v' k L/\k<=n/\Gb w' w''):=fun w' hg=>hL▸qX (h.gb hg) om d om;have yC:Hid (∀v' k w',Big w' v' k L->k<=n->CT 99 #[v',J d] w' fun x w''=>∃v' k,x=Y v'/\Big w'' v' k (L*2^d)/\k<=n+70000/\Gb w' w''):=fun v' k w' hb hk=>(fV hb om d om).mono (fun x w'' ⟨v'',k'',h1,h2,h3,h4⟩=>⟨v'',k'',h1,h2,om,h4⟩);have hRR:M-L*2^d=R/\L*2^d<=M:=by
  exact KY
 have HSub:Hid (∀v2 k2 w',Gb w w'->Big w' v2 k2 (L*2^d)->k2<=n+70000->CT 176 #[v,v2] w' fun x w''=>∃v' k,x=Y v'/\Big w'' v' k R/\k<=n/\Gb w' w''):=fun v2 k2 w' hg hb hk=>hRR.1▸lK (h.gb hg) om hb om hRR.2;have yD:Hid (∀w',CT 100 #[.int .u64 1] w' fun x w''=>∃v' k,x=Y v'/\Big w'' v' k 1/\k<=2/\Gb w' w''):=fun w'=>fC 1 om w';have hd1:((d:Int)-1)=((d-1:Nat):Int):=om;have RS:Hid (∀v' k w',Big w' v' k 1->k<=2->CT 99 #[v',J ((d:Int)-1)] w' fun x w''=>∃v' k,x=Y v'/\Big w'' v' k P/\k<=70000/\Gb w' w''):=fun v' k w' hb hk=>by
  exact KZ
 have Bd:Hid (∀v1 k1 v2 k2 w',Big w' v1 k1 R->k1<=n->Big w' v2 k2 P->k2<=70000->QB 102 #[v1,v2] w' (J (fH R P))):=fun v1 k1 v2 k2 w' h1 hk1 h2 hk2=>gV h1 om h2 om;have hqe:¬q<=e:=om;clear hR hP hL hRR h hd1
 skip
 go_enter func150,ntmps150;go_wp2_with (go_at_call 187;refine(J9 _ kg).mono ?_;rintro x w1 ⟨vL,kL,rfl,hbL,Rf,hg1⟩;obtain⟨a1,a2,a3⟩:oO w1 w.heap.size 1 2 3 (v) (J e) (Z O):=⟨ks,ks,ks⟩);go_region_held3 (fun w'=>aj w' w.heap.size 1 (v)/\aj w' w.heap.size 2 (J e)/\aj w' w.heap.size 3 (Z O))
  ((go_split_ands;(repeat' apply And.intro)<;>exact kb))
  (first
   |(go_at_call 99;refine(yC vL kL _ (Big.gb hbL kg) Rf).mono ?_;rintro x w2 ⟨vT,kT,rfl,hbT,hkT,hg2⟩)
   |(go_at_call 176;refine(HSub vT kT _ kg (Big.gb hbT kg) hkT).mono ?_;rintro x w3 ⟨vR,kR,rfl,hbR,hkR,hg3⟩;obtain⟨bR,aCi,rfl,hcR⟩:=Big.shape hbR;have hk0:=Big.some hbR hRn;obtain⟨b1,b2,b3⟩:oO w3 w.heap.size 1 2 3 (v) (J e) (Z O):=⟨ks,ks,ks⟩))
 all_goals
  (try go_split_ands)
  exact aDH
theorem aBM(h:Big w v n M)(hn:n<=100000)(s e q:Int)(e0:-1000000<=e)(e1:e<=1000000)(q1:q<=1000000)(d:Nat)(hd:q-e=(d:Int))(d1:1<=d)(R P L:Nat)(hR:M%2^d=R)(hP:2^(d-1)=P)(hL:M/2^d=L)(hRn:R≠0)(hc:fH R P=0):
  CT 150 #[.agg #[J s,v,J e,Z true],J q] w fun x w'=>∃v' k,x=Y (.tuple #[v',J 3])/\Big w' v' k L/\k<=n/\Gb w w':=by
 have J9:Hid (∀w',Gb w w'->CT 187 #[v,J d] w' fun x w''=>∃v' k,x=Y v'/\Big w'' v' k L/\k<=n/\Gb w' w''):=fun w' hg=>hL▸qX (h.gb hg) om d om;have yC:Hid (∀v' k w',Big w' v' k L->k<=n->CT 99 #[v',J d] w' fun x w''=>∃v' k,x=Y v'/\Big w'' v' k (L*2^d)/\k<=n+70000/\Gb w' w''):=fun v' k w' hb hk=>(fV hb om d om).mono (fun x w'' ⟨v'',k'',h1,h2,h3,h4⟩=>⟨v'',k'',h1,h2,om,h4⟩);have hRR:M-L*2^d=R/\L*2^d<=M:=by
  exact KY
 have HSub:Hid (∀v2 k2 w',Gb w w'->Big w' v2 k2 (L*2^d)->k2<=n+70000->CT 176 #[v,v2] w' fun x w''=>∃v' k,x=Y v'/\Big w'' v' k R/\k<=n/\Gb w' w''):=fun v2 k2 w' hg hb hk=>hRR.1▸lK (h.gb hg) om hb om hRR.2;have yD:Hid (∀w',CT 100 #[.int .u64 1] w' fun x w''=>∃v' k,x=Y v'/\Big w'' v' k 1/\k<=2/\Gb w' w''):=fun w'=>fC 1 om w';have hd1:((d:Int)-1)=((d-1:Nat):Int):=om;have RS:Hid (∀v' k w',Big w' v' k 1->k<=2->CT 99 #[v',J ((d:Int)-1)] w' fun x w''=>∃v' k,x=Y v'/\Big w'' v' k P/\k<=70000/\Gb w' w''):=fun v' k w' hb hk=>by
  exact KZ
 have Bd:Hid (∀v1 k1 v2 k2 w',Big w' v1 k1 R->k1<=n->Big w' v2 k2 P->k2<=70000->QB 102 #[v1,v2] w' (J (fH R P))):=fun v1 k1 v2 k2 w' h1 hk1 h2 hk2=>gV h1 om h2 om;have hqe:¬q<=e:=om;clear hR hP hL hRR h hd1
 skip
 go_enter func150,ntmps150;go_wp2_with (go_at_call 187;refine(J9 _ kg).mono ?_;rintro x w1 ⟨vL,kL,rfl,hbL,Rf,hg1⟩;obtain⟨a1,a2,a3⟩:oO w1 w.heap.size 1 2 3 (v) (J e) (Z true):=⟨ks,ks,ks⟩);go_region_held3 (fun w'=>aj w' w.heap.size 1 (v)/\aj w' w.heap.size 2 (J e)/\aj w' w.heap.size 3 (Z true))
  ((go_split_ands;(repeat' apply And.intro)<;>exact kb))
  (first
   |(go_at_call 99;refine(yC vL kL _ (Big.gb hbL kg) Rf).mono ?_;rintro x w2 ⟨vT,kT,rfl,hbT,hkT,hg2⟩)
   |(go_at_call 176;refine(HSub vT kT _ kg (Big.gb hbT kg) hkT).mono ?_;rintro x w3 ⟨vR,kR,rfl,hbR,hkR,hg3⟩;obtain⟨bR,aCi,rfl,hcR⟩:=Big.shape hbR;have hk0:=Big.some hbR hRn;obtain⟨b1,b2,b3⟩:oO w3 w.heap.size 1 2 3 (v) (J e) (Z true):=⟨ks,ks,ks⟩))
 all_goals
  (try go_split_ands)
  exact aDG
theorem aBL(h:Big w v n M)(hn:n<=100000)(s e q:Int)(rest:Bool)(e0:-1000000<=e)(e1:e<=1000000)(q1:q<=1000000)(d:Nat)(hd:q-e=(d:Int))(d1:1<=d)(R P L:Nat)(hR:M%2^d=R)(hP:2^(d-1)=P)(hL:M/2^d=L)(hRn:R≠0)(hc:fH R P=1):
  CT 150 #[.agg #[J s,v,J e,Z rest],J q] w fun x w'=>∃v' k,x=Y (.tuple #[v',J 3])/\Big w' v' k L/\k<=n/\Gb w w':=by
 exact aDI
theorem iM(mode sign:Int)(lo:Nat):chosen mode sign lo 0=lo:=by
 unfold chosen up;rw[if_neg (by simp)];rfl
theorem wH(k:Nat):((2^k:Nat):Int)=(2:Int)^k:=by push_cast;rfl
theorem aCn(h:aP f p mx one inf sg nan)(mode sign v e g:Int)(v0:0<v)(v1:v<inf)(hn:jE p mx one v e g):
  0<g/\g<18446744073709551616/\-2000<=e/\e<=2000/\aO p (1-mx) mx one inf mode sign g.toNat e O v 0:=by
 obtain⟨b1,b2,b3,b4,b5,b6,b7,b8,b9,b10,b11,b12⟩:=h.bounds;obtain⟨P,hP,aBW,hone⟩:=h.pow;have hone':one=((2^P:Nat):Int):=by rw[wH];exact hone
 have oP:inf=one*(2*mx+1):=by rcases h with⟨rfl,rfl,rfl,rfl,rfl,rfl,rfl⟩|⟨rfl,rfl,rfl,rfl,rfl,rfl,rfl⟩<;>decide
 have hsucc:2^(P+1)=2*2^P:=by rw[Nat.pow_succ];omega
 obtain⟨k,m,e0,hm,hg,he,g1,g2⟩:=hn;obtain⟨G,rfl⟩:=Int.eq_ofNat_of_zero_le (show 0<=g by omega);have hnb:nb G=P+1:=by
  have a1:=pq (N:=G) (k:=P) om;have a2:=og (N:=G) (k:=P+1) om;omega
 rw[Int.toNat_natCast];rcases hm with⟨hv,rfl,rfl⟩|⟨hv,rfl,rfl⟩
 ·obtain⟨V,rfl⟩:=Int.eq_ofNat_of_zero_le (show 0<=m by omega);have hG:G=V*2^k:=by
   have:(G:Int)=((V*2^k:Nat):Int):=by rw[hg,Int.natCast_mul,wH]
   omega
  have hk1:1<=k:=by
   rcases Nat.eq_zero_or_pos k with c|c
   ·subst c;rw[Nat.pow_zero,Nat.mul_one]at hG;omega
   ·exact c
  have hk2:k<=P:=by
   have hVp:1<=V:=om;have:2^k<=G:=by rw[hG];exact Nat.le_mul_of_pos_left _ hVp
   have:=pq this;omega
  refine⟨om,om,om,om,?_⟩;have hq:¬(1-mx-p+1<=e):=om;have hqe:(1-mx-p+1-e).toNat =k:=om;have hp2:0<2^k:=Nat.pow_pos de;have hlo:aW G e (1-mx-p+1)=V:=by unfold aW;rw[if_neg hq,hqe,hG,Nat.mul_div_cancel _ hp2]
  have hha:aJ G e (1-mx-p+1) O=0:=by unfold aJ;rw[if_neg hq,hqe];exact zq G k hk1 (by rw[hG,Nat.mul_mod_left])
  refine⟨nb G+e-1,1-mx,V,_,0,rfl,.inl ⟨om,rfl⟩,hha.symm,by rw[hlo,iM],rfl,.inr (.inr ⟨om,?_,?_,.inl ⟨rfl,rfl⟩⟩)⟩
  ·rw[Int.sub_self,Int.mul_zero];omega
  ·rw[Int.sub_self,Int.mul_zero];omega
 ·have hr0:=Int.emod_nonneg v (show one≠0 by omega);have hr1:=Int.emod_lt_of_pos v (show 0<one by omega);have hdm:=Int.ediv_mul_add_emod v one;have hk:k=0:=by
   rcases Nat.eq_zero_or_pos k with c|c
   ·exact c
   ·obtain⟨j,rfl⟩:∃j,k=j+1:=⟨k-1,om⟩;have h2:(1:Int)<=2^j:=by have:(0:Int)<2^j:=Int.pow_pos (by decide);omega
    have:=Int.mul_le_mul_of_nonneg_left h2 (show 0<=(v%one+one)*2 by omega);rw[Int.pow_succ,Int.mul_comm ((2:Int)^j) 2,<-Int.mul_assoc]at hg;omega
  subst hk;rw[Int.pow_zero,Int.mul_one]at hg;have hq1:1<=v/one:=by
   have:=Int.le_ediv_of_mul_le (show 0<one by omega) (show 1*one<=v by omega);omega
  have hq2:v/one<2*mx+1:=Int.ediv_lt_of_lt_mul om (by rw[Int.mul_comm];omega);refine⟨om,om,om,om,?_⟩;have htop:(nb G:Int)+e-1=v/one-mx:=om;have hqe:(nb G:Int)+e-1-p+1=e:=om;have hlo:aW G e e=G:=by unfold aW;rw[if_pos (Int.le_refl e)];simp
  have hha:aJ G e e O=0:=by unfold aJ;rw[if_pos (Int.le_refl e)];rfl
  have hz:(G:Int)+one*(nb G+e-1-(1-mx))=v:=by
   rw[htop,show v/one-mx-(1-mx)=v/one-1 by omega,Int.mul_sub,Int.mul_one,Int.mul_comm one (v/one)];omega
  refine⟨nb G+e-1,nb G+e-1,G,G,0,rfl,.inr ⟨om,rfl⟩,by rw[hqe,hha],by rw[hqe,hlo,iM],by rw[hqe,hlo,hha,iM],.inr (.inr ⟨om,?_,?_,.inl ⟨rfl,rfl⟩⟩)⟩
  ·rw[hz];exact v1
  ·rw[hz]
