import Derived.Test.YtnbbfeknbfohhaaGreatDoorA1
import Derived.Test.YtnbbfeknbfohhaaGreatDoorA7
import Derived.Test.YtnbbfeknbfohhaaGreatDoorBigB
import Derived.Deep.RegionHeld3
import Derived.Test.YtnbbfeknbfohhaaGreatDoorB0
set_option linter.unusedVariables false
set_option linter.unusedSimpArgs false
set_option maxRecDepth 1000000
set_option maxHeartbeats 40000000
open Go.Value renaming int → J, bool → O
open Go.IntKind renaming i64 → Y
open Go.Ending renaming returned → Z
open Go.Proofs.Tryz
namespace Go.Proofs.YtnbbfeknbfohhaaGreatDoor
open Go.RowKit
theorem ES{P:Prop}(h:P:=by
 rw[hd1]
 refine(eP hb om (d-1) om).mono (fun x w'' ⟨v'',k'',h1,h2,h3,h4⟩=>⟨v'',k'',h1,?_,om,h4⟩)
 rw[Nat.one_mul,hP]at h2;exact h2):P:=h
theorem Zl{P:Prop}(h:P:=by
 go_wp2_with (first
  |(go_at_call 150;refine(um.out _).mono ?_;rintro x w4 ⟨v1,k1,rfl,hb1,hk1,hg4⟩;obtain⟨c1,c2,c3⟩:qo w4 w.heap.size 1 2 3 (v) (J Y e) (O true):=⟨ks,ks,ks⟩)
  |(go_at_call 180;refine(MN.out v1 k1 _ hb1 hk1).mono ?_;rintro x w5 ⟨vP,kP,rfl,hbP,hkP,hg5⟩;obtain⟨d1,d2,d3⟩:qo w5 w.heap.size 1 2 3 (v) (J Y e) (O true):=⟨ks,ks,ks⟩)
  |(go_at_call 129;refine(wU.out _ _ vP kP _ (Big.gb hbR kg) hkR hbP hkP).mono ?_;rintro x w6 ⟨rfl,hg6⟩;obtain⟨f1,f2,f3⟩:qo w6 w.heap.size 1 2 3 (v) (J Y e) (O true):=⟨ks,ks,ks⟩))
 go_returns
 first|exact⟨_,rfl,_,Big.gb hbL kg,KD,kg⟩|exact⟨_,_,rfl,Big.gb hbL kg,KD,kg⟩):P:=h
theorem Zm{P:Prop}(h:P:=by
 go_wp2_with (first
  |(go_at_call 150;refine(um.out _).mono ?_;rintro x w4 ⟨v1,k1,rfl,hb1,hk1,hg4⟩;obtain⟨c1,c2,c3⟩:qo w4 w.heap.size 1 2 3 (v) (J Y e) (O false):=⟨ks,ks,ks⟩)
  |(go_at_call 180;refine(MN.out v1 k1 _ hb1 hk1).mono ?_;rintro x w5 ⟨vP,kP,rfl,hbP,hkP,hg5⟩;obtain⟨d1,d2,d3⟩:qo w5 w.heap.size 1 2 3 (v) (J Y e) (O false):=⟨ks,ks,ks⟩)
  |(go_at_call 129;refine(wU.out _ _ vP kP _ (Big.gb hbR kg) hkR hbP hkP).mono ?_;rintro x w6 ⟨rfl,hg6⟩;obtain⟨f1,f2,f3⟩:qo w6 w.heap.size 1 2 3 (v) (J Y e) (O false):=⟨ks,ks,ks⟩))
 go_returns
 first|exact⟨_,rfl,_,Big.gb hbL kg,KD,kg⟩|exact⟨_,_,rfl,Big.gb hbL kg,KD,kg⟩):P:=h
theorem Zn{P:Prop}(h:P:=by
 have Ew:Hid (∀w',Gb w w'→CT 201 #[v,J Y d] w' fun x w''=>∃v' k,x=Z v'∧Big w'' v' k L∧k≤n∧Gb w' w''):=fun w' hg=>hL▸oG (h.gb hg) om d om
 have uj:Hid (∀v' k w',Big w' v' k L→k≤n→CT 180 #[v',J Y d] w' fun x w''=>∃v' k,x=Z v'∧Big w'' v' k (L*2^d)∧k≤n+70000∧Gb w' w''):=fun v' k w' hb hk=>(eP hb om d om).mono (fun x w'' ⟨v'',k'',h1,h2,h3,h4⟩=>⟨v'',k'',h1,h2,om,h4⟩)
 have hRR:M-L*2^d=R∧L*2^d≤M:=by
  have:=Nat.div_add_mod M (2^d)
  rw[hL,hR,Nat.mul_comm]at this
  omega
 have HSub:Hid (∀v2 k2 w',Gb w w'→Big w' v2 k2 (L*2^d)→k2≤n+70000→CT 191 #[v,v2] w' fun x w''=>∃v' k,x=Z v'∧Big w'' v' k R∧k≤n∧Gb w' w''):=fun v2 k2 w' hg hb hk=>hRR.1▸kV (h.gb hg) om hb om hRR.2
 have um:Hid (∀w',CT 150 #[J .u64 1] w' fun x w''=>∃v' k,x=Z v'∧Big w'' v' k 1∧k≤2∧Gb w' w''):=fun w'=>dU 1 om w'
 have hd1:((d:Int)-1)=((d-1:Nat):Int):=om
 have MN:Hid (∀v' k w',Big w' v' k 1→k≤2→CT 180 #[v',J Y ((d:Int)-1)] w' fun x w''=>∃v' k,x=Z v'∧Big w'' v' k P∧k≤70000∧Gb w' w''):=fun v' k w' hb hk=>by
  exact ES
 have wU:Hid (∀v1 k1 v2 k2 w',Big w' v1 k1 R→k1≤n→Big w' v2 k2 P→k2≤70000→QB 129 #[v1,v2] w' (J Y (eG R P))):=fun v1 k1 v2 k2 w' h1 hk1 h2 hk2=>gY h1 om h2 om
 have hqe:¬q≤e:=om
 clear hR hP hL hRR h hd1
 skip
 go_enter func155,ntmps155
 go_wp2_with (go_at_call 201;refine(Ew.out _ kg).mono ?_;rintro x w1 ⟨vL,kL,rfl,hbL,KD,hg1⟩;obtain⟨a1,a2,a3⟩:qo w1 w.heap.size 1 2 3 (v) (J Y e) (O rest):=⟨ks,ks,ks⟩)
 go_region_held3 (fun w'=>w'.cell? ⟨w.heap.size,1,none⟩=some (v)∧w'.cell? ⟨w.heap.size,2,none⟩=some (J Y e)∧w'.cell? ⟨w.heap.size,3,none⟩=some (O rest))
  ((go_split_ands;(repeat' apply And.intro)<;>exact kb))
  (first
   |(go_at_call 180;refine(uj.out vL kL _ (Big.gb hbL kg) KD).mono ?_;rintro x w2 ⟨vT,kT,rfl,Yc,X_,hg2⟩)
   |(go_at_call 191;refine(HSub.out vT kT _ kg (Big.gb Yc kg) X_).mono ?_;rintro x w3 ⟨vR,kR,rfl,hbR,hkR,hg3⟩;obtain⟨bR,Yz,rfl,hcR⟩:=Big.shape hbR;have hk0:=Big.some hbR hRn;obtain⟨b1,b2,b3⟩:qo w3 w.heap.size 1 2 3 (v) (J Y e) (O rest):=⟨ks,ks,ks⟩))
 all_goals
  (try go_split_ands)
  go_wp2_with (first
   |(go_at_call 150;refine(um.out _).mono ?_;rintro x w4 ⟨v1,k1,rfl,hb1,hk1,hg4⟩;obtain⟨c1,c2,c3⟩:qo w4 w.heap.size 1 2 3 (v) (J Y e) (O rest):=⟨ks,ks,ks⟩)
   |(go_at_call 180;refine(MN.out v1 k1 _ hb1 hk1).mono ?_;rintro x w5 ⟨vP,kP,rfl,hbP,hkP,hg5⟩;obtain⟨d1,d2,d3⟩:qo w5 w.heap.size 1 2 3 (v) (J Y e) (O rest):=⟨ks,ks,ks⟩)
   |(go_at_call 129;refine(wU.out _ _ vP kP _ (Big.gb hbR kg) hkR hbP hkP).mono ?_;rintro x w6 ⟨rfl,hg6⟩;obtain⟨f1,f2,f3⟩:qo w6 w.heap.size 1 2 3 (v) (J Y e) (O rest):=⟨ks,ks,ks⟩))
  go_returns
  first|exact⟨_,rfl,_,Big.gb hbL kg,KD,kg⟩|exact⟨_,_,rfl,Big.gb hbL kg,KD,kg⟩):P:=h
theorem Uz{v:Value}{n M:Nat}{w:World}(h:Big w v n M)(hn:n≤100000)(s e q:Int)(rest:Bool)(e0:-1000000≤e)(e1:e≤1000000)(q0:-1000000≤q)(hq:q≤e):
  CT 155 #[.agg #[J Y s,v,J Y e,O rest],J Y q] w fun x w'=>∃v' k,x=Z (.tuple #[v',J Y (aG M e q rest)])∧Big w' v' k (aT M e q)∧k≤n+70000∧Gb w w':=by
 obtain⟨d,hd⟩:∃d:Nat,e-q=(d:Int):=⟨(e-q).toNat,om⟩
 have WH:aT M e q=M*2^d:=by unfold aT;rw[if_pos hq,hd];rfl
 have ZV:aG M e q rest=(if rest then 1 else 0):=by unfold aG;rw[if_pos hq]
 rw[WH,ZV]
 have HS:Hid (∀w',Gb w w'→CT 180 #[v,J Y d] w' fun x w''=>∃v' k,x=Z v'∧Big w'' v' k (M*2^d)∧k≤n+d/32+1∧Gb w' w''):=fun w' hg=>eP (h.gb hg) om d om
 clear WH ZV h
 cases rest
 all_goals
  go_enter func155,ntmps155
  go_wp2_with (go_at_call 180;refine(HS.out _ kg).mono ?_;rintro x w1 ⟨v',k,rfl,hbig,hk,hgb⟩)
  go_returns
  first|exact⟨_,rfl,_,hbig,om,kg⟩|exact⟨_,_,rfl,hbig,om,kg⟩
theorem Big.shape{w:World}{v:Value}{n N:Nat}(h:Big w v n N):∃b cap,v=.slice (some ⟨b,0,none⟩) n cap∧n≤cap:=by
 obtain⟨_,_,b,cap,h2,h3,_⟩:=h
 exact⟨b,cap,h2,h3⟩
theorem Big.none{w:World}{v:Value}{n N:Nat}(h:Big w v n N)(hN:N=0):n=0:=h.1.iff.mpr hN
theorem Big.some{w:World}{v:Value}{n N:Nat}(h:Big w v n N)(hN:N≠0):((n:Int)==0)=false:=by
 have:n≠0:=fun e=>hN (h.1.iff.mp e)
 simp;omega
theorem X7{v:Value}{n M:Nat}{w:World}(h:Big w v n M)(hn:n≤100000)(s e q:Int)(e0:-1000000≤e)(e1:e≤1000000)(q1:q≤1000000)(d:Nat)(hd:q-e=(d:Int))(d1:1≤d)(R P L:Nat)(hR:M%2^d=R)(hP:2^(d-1)=P)(hL:M/2^d=L)(hR0:R=0):
  CT 155 #[.agg #[J Y s,v,J Y e,O false],J Y q] w fun x w'=>∃v' k,x=Z (.tuple #[v',J Y 0])∧Big w' v' k L∧k≤n∧Gb w w':=by
 have Ew:Hid (∀w',Gb w w'→CT 201 #[v,J Y d] w' fun x w''=>∃v' k,x=Z v'∧Big w'' v' k L∧k≤n∧Gb w' w''):=fun w' hg=>hL▸oG (h.gb hg) om d om
 have uj:Hid (∀v' k w',Big w' v' k L→k≤n→CT 180 #[v',J Y d] w' fun x w''=>∃v' k,x=Z v'∧Big w'' v' k (L*2^d)∧k≤n+70000∧Gb w' w''):=fun v' k w' hb hk=>(eP hb om d om).mono (fun x w'' ⟨v'',k'',h1,h2,h3,h4⟩=>⟨v'',k'',h1,h2,om,h4⟩)
 have hRR:M-L*2^d=R∧L*2^d≤M:=by
  have:=Nat.div_add_mod M (2^d)
  rw[hL,hR,Nat.mul_comm]at this
  omega
 have HSub:Hid (∀v2 k2 w',Gb w w'→Big w' v2 k2 (L*2^d)→k2≤n+70000→CT 191 #[v,v2] w' fun x w''=>∃v' k,x=Z v'∧Big w'' v' k R∧k≤n∧Gb w' w''):=fun v2 k2 w' hg hb hk=>hRR.1▸kV (h.gb hg) om hb om hRR.2
 have um:Hid (∀w',CT 150 #[J .u64 1] w' fun x w''=>∃v' k,x=Z v'∧Big w'' v' k 1∧k≤2∧Gb w' w''):=fun w'=>dU 1 om w'
 have hd1:((d:Int)-1)=((d-1:Nat):Int):=om
 have MN:Hid (∀v' k w',Big w' v' k 1→k≤2→CT 180 #[v',J Y ((d:Int)-1)] w' fun x w''=>∃v' k,x=Z v'∧Big w'' v' k P∧k≤70000∧Gb w' w''):=fun v' k w' hb hk=>by
  exact ES
 have wU:Hid (∀v1 k1 v2 k2 w',Big w' v1 k1 R→k1≤n→Big w' v2 k2 P→k2≤70000→QB 129 #[v1,v2] w' (J Y (eG R P))):=fun v1 k1 v2 k2 w' h1 hk1 h2 hk2=>gY h1 om h2 om
 have hqe:¬q≤e:=om
 clear hR hP hL hRR h hd1
 subst hR0
 go_enter func155,ntmps155
 go_wp2_with (go_at_call 201;refine(Ew.out _ kg).mono ?_;rintro x w1 ⟨vL,kL,rfl,hbL,KD,hg1⟩;obtain⟨a1,a2,a3⟩:qo w1 w.heap.size 1 2 3 (v) (J Y e) (O false):=⟨ks,ks,ks⟩)
 go_region_held3 (fun w'=>w'.cell? ⟨w.heap.size,1,none⟩=some (v)∧w'.cell? ⟨w.heap.size,2,none⟩=some (J Y e)∧w'.cell? ⟨w.heap.size,3,none⟩=some (O false))
  ((go_split_ands;(repeat' apply And.intro)<;>exact kb))
  (first
   |(go_at_call 180;refine(uj.out vL kL _ (Big.gb hbL kg) KD).mono ?_;rintro x w2 ⟨vT,kT,rfl,Yc,X_,hg2⟩)
   |(go_at_call 191;refine(HSub.out vT kT _ kg (Big.gb Yc kg) X_).mono ?_;rintro x w3 ⟨vR,kR,rfl,hbR,hkR,hg3⟩;obtain⟨bR,Yz,rfl,hcR⟩:=Big.shape hbR;obtain rfl:=Big.none hbR rfl;obtain⟨b1,b2,b3⟩:qo w3 w.heap.size 1 2 3 (v) (J Y e) (O false):=⟨ks,ks,ks⟩))
 all_goals
  (try go_split_ands)
  exact Zm
theorem X6{v:Value}{n M:Nat}{w:World}(h:Big w v n M)(hn:n≤100000)(s e q:Int)(e0:-1000000≤e)(e1:e≤1000000)(q1:q≤1000000)(d:Nat)(hd:q-e=(d:Int))(d1:1≤d)(R P L:Nat)(hR:M%2^d=R)(hP:2^(d-1)=P)(hL:M/2^d=L)(hR0:R=0)(hc:eG R P=-1):
  CT 155 #[.agg #[J Y s,v,J Y e,O true],J Y q] w fun x w'=>∃v' k,x=Z (.tuple #[v',J Y 1])∧Big w' v' k L∧k≤n∧Gb w w':=by
 have Ew:Hid (∀w',Gb w w'→CT 201 #[v,J Y d] w' fun x w''=>∃v' k,x=Z v'∧Big w'' v' k L∧k≤n∧Gb w' w''):=fun w' hg=>hL▸oG (h.gb hg) om d om
 have uj:Hid (∀v' k w',Big w' v' k L→k≤n→CT 180 #[v',J Y d] w' fun x w''=>∃v' k,x=Z v'∧Big w'' v' k (L*2^d)∧k≤n+70000∧Gb w' w''):=fun v' k w' hb hk=>(eP hb om d om).mono (fun x w'' ⟨v'',k'',h1,h2,h3,h4⟩=>⟨v'',k'',h1,h2,om,h4⟩)
 have hRR:M-L*2^d=R∧L*2^d≤M:=by
  have:=Nat.div_add_mod M (2^d)
  rw[hL,hR,Nat.mul_comm]at this
  omega
 have HSub:Hid (∀v2 k2 w',Gb w w'→Big w' v2 k2 (L*2^d)→k2≤n+70000→CT 191 #[v,v2] w' fun x w''=>∃v' k,x=Z v'∧Big w'' v' k R∧k≤n∧Gb w' w''):=fun v2 k2 w' hg hb hk=>hRR.1▸kV (h.gb hg) om hb om hRR.2
 have um:Hid (∀w',CT 150 #[J .u64 1] w' fun x w''=>∃v' k,x=Z v'∧Big w'' v' k 1∧k≤2∧Gb w' w''):=fun w'=>dU 1 om w'
 have hd1:((d:Int)-1)=((d-1:Nat):Int):=om
 have MN:Hid (∀v' k w',Big w' v' k 1→k≤2→CT 180 #[v',J Y ((d:Int)-1)] w' fun x w''=>∃v' k,x=Z v'∧Big w'' v' k P∧k≤70000∧Gb w' w''):=fun v' k w' hb hk=>by
  exact ES
 have wU:Hid (∀v1 k1 v2 k2 w',Big w' v1 k1 R→k1≤n→Big w' v2 k2 P→k2≤70000→QB 129 #[v1,v2] w' (J Y (eG R P))):=fun v1 k1 v2 k2 w' h1 hk1 h2 hk2=>gY h1 om h2 om
 have hqe:¬q≤e:=om
 clear hR hP hL hRR h hd1
 subst hR0
 go_enter func155,ntmps155
 go_wp2_with (go_at_call 201;refine(Ew.out _ kg).mono ?_;rintro x w1 ⟨vL,kL,rfl,hbL,KD,hg1⟩;obtain⟨a1,a2,a3⟩:qo w1 w.heap.size 1 2 3 (v) (J Y e) (O true):=⟨ks,ks,ks⟩)
 go_region_held3 (fun w'=>w'.cell? ⟨w.heap.size,1,none⟩=some (v)∧w'.cell? ⟨w.heap.size,2,none⟩=some (J Y e)∧w'.cell? ⟨w.heap.size,3,none⟩=some (O true))
  ((go_split_ands;(repeat' apply And.intro)<;>exact kb))
  (first
   |(go_at_call 180;refine(uj.out vL kL _ (Big.gb hbL kg) KD).mono ?_;rintro x w2 ⟨vT,kT,rfl,Yc,X_,hg2⟩)
   |(go_at_call 191;refine(HSub.out vT kT _ kg (Big.gb Yc kg) X_).mono ?_;rintro x w3 ⟨vR,kR,rfl,hbR,hkR,hg3⟩;obtain⟨bR,Yz,rfl,hcR⟩:=Big.shape hbR;obtain rfl:=Big.none hbR rfl;obtain⟨b1,b2,b3⟩:qo w3 w.heap.size 1 2 3 (v) (J Y e) (O true):=⟨ks,ks,ks⟩))
 all_goals
  (try go_split_ands)
  exact Zl
theorem X5{v:Value}{n M:Nat}{w:World}(h:Big w v n M)(hn:n≤100000)(s e q:Int)(rest:Bool)(e0:-1000000≤e)(e1:e≤1000000)(q1:q≤1000000)(d:Nat)(hd:q-e=(d:Int))(d1:1≤d)(R P L:Nat)(hR:M%2^d=R)(hP:2^(d-1)=P)(hL:M/2^d=L)(hRn:R≠0)(hc:eG R P=-1):
  CT 155 #[.agg #[J Y s,v,J Y e,O rest],J Y q] w fun x w'=>∃v' k,x=Z (.tuple #[v',J Y 1])∧Big w' v' k L∧k≤n∧Gb w w':=by
 exact Zn
theorem X4{v:Value}{n M:Nat}{w:World}(h:Big w v n M)(hn:n≤100000)(s e q:Int)(e0:-1000000≤e)(e1:e≤1000000)(q1:q≤1000000)(d:Nat)(hd:q-e=(d:Int))(d1:1≤d)(R P L:Nat)(hR:M%2^d=R)(hP:2^(d-1)=P)(hL:M/2^d=L)(hRn:R≠0)(hc:eG R P=0):
  CT 155 #[.agg #[J Y s,v,J Y e,O false],J Y q] w fun x w'=>∃v' k,x=Z (.tuple #[v',J Y 2])∧Big w' v' k L∧k≤n∧Gb w w':=by
 have Ew:Hid (∀w',Gb w w'→CT 201 #[v,J Y d] w' fun x w''=>∃v' k,x=Z v'∧Big w'' v' k L∧k≤n∧Gb w' w''):=fun w' hg=>hL▸oG (h.gb hg) om d om
 have uj:Hid (∀v' k w',Big w' v' k L→k≤n→CT 180 #[v',J Y d] w' fun x w''=>∃v' k,x=Z v'∧Big w'' v' k (L*2^d)∧k≤n+70000∧Gb w' w''):=fun v' k w' hb hk=>(eP hb om d om).mono (fun x w'' ⟨v'',k'',h1,h2,h3,h4⟩=>⟨v'',k'',h1,h2,om,h4⟩)
 have hRR:M-L*2^d=R∧L*2^d≤M:=by
  have:=Nat.div_add_mod M (2^d)
  rw[hL,hR,Nat.mul_comm]at this
  omega
 have HSub:Hid (∀v2 k2 w',Gb w w'→Big w' v2 k2 (L*2^d)→k2≤n+70000→CT 191 #[v,v2] w' fun x w''=>∃v' k,x=Z v'∧Big w'' v' k R∧k≤n∧Gb w' w''):=fun v2 k2 w' hg hb hk=>hRR.1▸kV (h.gb hg) om hb om hRR.2
 have um:Hid (∀w',CT 150 #[J .u64 1] w' fun x w''=>∃v' k,x=Z v'∧Big w'' v' k 1∧k≤2∧Gb w' w''):=fun w'=>dU 1 om w'
 have hd1:((d:Int)-1)=((d-1:Nat):Int):=om
 have MN:Hid (∀v' k w',Big w' v' k 1→k≤2→CT 180 #[v',J Y ((d:Int)-1)] w' fun x w''=>∃v' k,x=Z v'∧Big w'' v' k P∧k≤70000∧Gb w' w''):=fun v' k w' hb hk=>by
  exact ES
 have wU:Hid (∀v1 k1 v2 k2 w',Big w' v1 k1 R→k1≤n→Big w' v2 k2 P→k2≤70000→QB 129 #[v1,v2] w' (J Y (eG R P))):=fun v1 k1 v2 k2 w' h1 hk1 h2 hk2=>gY h1 om h2 om
 have hqe:¬q≤e:=om
 clear hR hP hL hRR h hd1
 skip
 go_enter func155,ntmps155
 go_wp2_with (go_at_call 201;refine(Ew.out _ kg).mono ?_;rintro x w1 ⟨vL,kL,rfl,hbL,KD,hg1⟩;obtain⟨a1,a2,a3⟩:qo w1 w.heap.size 1 2 3 (v) (J Y e) (O false):=⟨ks,ks,ks⟩)
 go_region_held3 (fun w'=>w'.cell? ⟨w.heap.size,1,none⟩=some (v)∧w'.cell? ⟨w.heap.size,2,none⟩=some (J Y e)∧w'.cell? ⟨w.heap.size,3,none⟩=some (O false))
  ((go_split_ands;(repeat' apply And.intro)<;>exact kb))
  (first
   |(go_at_call 180;refine(uj.out vL kL _ (Big.gb hbL kg) KD).mono ?_;rintro x w2 ⟨vT,kT,rfl,Yc,X_,hg2⟩)
   |(go_at_call 191;refine(HSub.out vT kT _ kg (Big.gb Yc kg) X_).mono ?_;rintro x w3 ⟨vR,kR,rfl,hbR,hkR,hg3⟩;obtain⟨bR,Yz,rfl,hcR⟩:=Big.shape hbR;have hk0:=Big.some hbR hRn;obtain⟨b1,b2,b3⟩:qo w3 w.heap.size 1 2 3 (v) (J Y e) (O false):=⟨ks,ks,ks⟩))
 all_goals
  (try go_split_ands)
  exact Zm
theorem X3{v:Value}{n M:Nat}{w:World}(h:Big w v n M)(hn:n≤100000)(s e q:Int)(e0:-1000000≤e)(e1:e≤1000000)(q1:q≤1000000)(d:Nat)(hd:q-e=(d:Int))(d1:1≤d)(R P L:Nat)(hR:M%2^d=R)(hP:2^(d-1)=P)(hL:M/2^d=L)(hRn:R≠0)(hc:eG R P=0):
  CT 155 #[.agg #[J Y s,v,J Y e,O true],J Y q] w fun x w'=>∃v' k,x=Z (.tuple #[v',J Y 3])∧Big w' v' k L∧k≤n∧Gb w w':=by
 have Ew:Hid (∀w',Gb w w'→CT 201 #[v,J Y d] w' fun x w''=>∃v' k,x=Z v'∧Big w'' v' k L∧k≤n∧Gb w' w''):=fun w' hg=>hL▸oG (h.gb hg) om d om
 have uj:Hid (∀v' k w',Big w' v' k L→k≤n→CT 180 #[v',J Y d] w' fun x w''=>∃v' k,x=Z v'∧Big w'' v' k (L*2^d)∧k≤n+70000∧Gb w' w''):=fun v' k w' hb hk=>(eP hb om d om).mono (fun x w'' ⟨v'',k'',h1,h2,h3,h4⟩=>⟨v'',k'',h1,h2,om,h4⟩)
 have hRR:M-L*2^d=R∧L*2^d≤M:=by
  have:=Nat.div_add_mod M (2^d)
  rw[hL,hR,Nat.mul_comm]at this
  omega
 have HSub:Hid (∀v2 k2 w',Gb w w'→Big w' v2 k2 (L*2^d)→k2≤n+70000→CT 191 #[v,v2] w' fun x w''=>∃v' k,x=Z v'∧Big w'' v' k R∧k≤n∧Gb w' w''):=fun v2 k2 w' hg hb hk=>hRR.1▸kV (h.gb hg) om hb om hRR.2
 have um:Hid (∀w',CT 150 #[J .u64 1] w' fun x w''=>∃v' k,x=Z v'∧Big w'' v' k 1∧k≤2∧Gb w' w''):=fun w'=>dU 1 om w'
 have hd1:((d:Int)-1)=((d-1:Nat):Int):=om
 have MN:Hid (∀v' k w',Big w' v' k 1→k≤2→CT 180 #[v',J Y ((d:Int)-1)] w' fun x w''=>∃v' k,x=Z v'∧Big w'' v' k P∧k≤70000∧Gb w' w''):=fun v' k w' hb hk=>by
  exact ES
 have wU:Hid (∀v1 k1 v2 k2 w',Big w' v1 k1 R→k1≤n→Big w' v2 k2 P→k2≤70000→QB 129 #[v1,v2] w' (J Y (eG R P))):=fun v1 k1 v2 k2 w' h1 hk1 h2 hk2=>gY h1 om h2 om
 have hqe:¬q≤e:=om
 clear hR hP hL hRR h hd1
 skip
 go_enter func155,ntmps155
 go_wp2_with (go_at_call 201;refine(Ew.out _ kg).mono ?_;rintro x w1 ⟨vL,kL,rfl,hbL,KD,hg1⟩;obtain⟨a1,a2,a3⟩:qo w1 w.heap.size 1 2 3 (v) (J Y e) (O true):=⟨ks,ks,ks⟩)
 go_region_held3 (fun w'=>w'.cell? ⟨w.heap.size,1,none⟩=some (v)∧w'.cell? ⟨w.heap.size,2,none⟩=some (J Y e)∧w'.cell? ⟨w.heap.size,3,none⟩=some (O true))
  ((go_split_ands;(repeat' apply And.intro)<;>exact kb))
  (first
   |(go_at_call 180;refine(uj.out vL kL _ (Big.gb hbL kg) KD).mono ?_;rintro x w2 ⟨vT,kT,rfl,Yc,X_,hg2⟩)
   |(go_at_call 191;refine(HSub.out vT kT _ kg (Big.gb Yc kg) X_).mono ?_;rintro x w3 ⟨vR,kR,rfl,hbR,hkR,hg3⟩;obtain⟨bR,Yz,rfl,hcR⟩:=Big.shape hbR;have hk0:=Big.some hbR hRn;obtain⟨b1,b2,b3⟩:qo w3 w.heap.size 1 2 3 (v) (J Y e) (O true):=⟨ks,ks,ks⟩))
 all_goals
  (try go_split_ands)
  exact Zl
theorem XZ{v:Value}{n M:Nat}{w:World}(h:Big w v n M)(hn:n≤100000)(s e q:Int)(rest:Bool)(e0:-1000000≤e)(e1:e≤1000000)(q1:q≤1000000)(d:Nat)(hd:q-e=(d:Int))(d1:1≤d)(R P L:Nat)(hR:M%2^d=R)(hP:2^(d-1)=P)(hL:M/2^d=L)(hRn:R≠0)(hc:eG R P=1):
  CT 155 #[.agg #[J Y s,v,J Y e,O rest],J Y q] w fun x w'=>∃v' k,x=Z (.tuple #[v',J Y 3])∧Big w' v' k L∧k≤n∧Gb w w':=by
 exact Zn
theorem wH{v:Value}{n M:Nat}{w:World}(h:Big w v n M)(hn:n≤100000)(s e q:Int)(rest:Bool)(e0:-1000000≤e)(e1:e≤1000000)(q0:-1000000≤q)(q1:q≤1000000):
  CT 155 #[.agg #[J Y s,v,J Y e,O rest],J Y q] w fun x w'=>∃v' k,x=Z (.tuple #[v',J Y (aG M e q rest)])∧Big w' v' k (aT M e q)∧k≤n+70000∧Gb w w':=by
 by_cases hq:q≤e
 ·exact Uz h hn s e q rest e0 e1 q0 hq
 ·obtain⟨d,hd⟩:∃d:Nat,q-e=(d:Int):=⟨(q-e).toNat,om⟩
  have d1:1≤d:=om
  have WH:aT M e q=M/2^d:=by unfold aT;rw[if_neg hq,hd];rfl
  have ZV:aG M e q rest=hr M d rest:=by unfold aG;rw[if_neg hq,hd];rfl
  rw[WH,ZV]
  have fin:∀(H:Nat),hr M d rest=H→(CT 155 #[.agg #[J Y s,v,J Y e,O rest],J Y q] w fun x w'=>∃v' k,x=Z (.tuple #[v',J Y (H:Int)])∧Big w' v' k (M/2^d)∧k≤n∧Gb w w')→
    CT 155 #[.agg #[J Y s,v,J Y e,O rest],J Y q] w fun x w'=>∃v' k,x=Z (.tuple #[v',J Y (hr M d rest:Int)])∧Big w' v' k (M/2^d)∧k≤n+70000∧Gb w w':=by
   intro H hH hc
   rw[hH]
   exact hc.mono (fun x w' ⟨v',k,h1,h2,h3,h4⟩=>⟨v',k,h1,h2,om,h4⟩)
  by_cases hR:M%2^d=0
  ·cases rest
   ·exact fin 0 (D8 M d d1 hR) (X7 h hn s e q e0 e1 q1 d hd d1 _ _ _ rfl rfl rfl hR)
   ·have hp:0<2^(d-1):=Nat.pow_pos de
    refine fin 1 (UO M d true d1 om (.inr rfl)) (X6 h hn s e q e0 e1 q1 d hd d1 _ _ _ rfl rfl rfl hR ?_)
    unfold eG;rw[if_pos (by omega)]
  ·rcases Nat.lt_trichotomy (M%2^d) (2^(d-1))with c|c|c
   ·refine fin 1 (UO M d rest d1 c (.inl hR)) (X5 h hn s e q rest e0 e1 q1 d hd d1 _ _ _ rfl rfl rfl hR ?_)
    unfold eG;rw[if_pos c]
   ·have hc:eG (M%2^d) (2^(d-1))=0:=by unfold eG;rw[if_neg om,if_neg (by omega)]
    cases rest
    ·exact fin 2 (aA1 M d d1 c) (X4 h hn s e q e0 e1 q1 d hd d1 _ _ _ rfl rfl rfl hR hc)
    ·exact fin 3 (GH M d true d1 om (.inr rfl)) (X3 h hn s e q e0 e1 q1 d hd d1 _ _ _ rfl rfl rfl hR hc)
   ·refine fin 3 (GH M d rest d1 om (.inl om)) (XZ h hn s e q rest e0 e1 q1 d hd d1 _ _ _ rfl rfl rfl hR ?_)
    unfold eG;rw[if_neg om,if_pos c]
theorem vk{v:Value}{n L:Nat}{w:World}(h:Big w v n L)(hn:n≤500000)(mode sign:Int)(half:Nat)(m0:0≤mode)(m1:mode≤4)(hs:sign=0∨sign=1)(hh:half≤3):
  CT 156 #[J Y mode,J Y sign,v,J Y half] w fun x w'=>∃v' k,x=Z v'∧Big w' v' k (chosen mode sign L half)∧k≤n+3∧Gb w w':=by
 have Ry:∀b:Int,(L:Int)%2=b→Hid (∀w',w'=w→QW 202 #[v,J Y 0] w' (J .u32 b)):=fun b hb w' hw=>by subst hw;exact hb▸Kr h om
 have um:Hid (∀w',CT 150 #[J .u64 1] w' fun x w''=>∃v' k,x=Z v'∧Big w'' v' k 1∧k≤2∧Gb w' w''):=fun w'=>dU 1 om w'
 have HAdd:Hid (∀v2 k2 w',Gb w w'→Big w' v2 k2 1→k2≤2→CT 203 #[v,v2] w' fun x w''=>∃v' k,x=Z v'∧Big w'' v' k (L+1)∧k≤n+3∧Gb w' w''):=fun v2 k2 w' hg hb hk=>(wI (h.gb hg) om hb om).mono (fun x w'' ⟨v',k,h1,h2,h3,h4⟩=>⟨v',k,h1,h2,om,h4⟩)
 have HL:Hid (Big w v n L):=h
 obtain⟨U,hU⟩:∃U,U=up mode sign L half:=⟨_,rfl⟩
 have hch:chosen mode sign L half=L+(if U then 1 else 0):=by rw[hU];rfl
 rw[hch]
 have hcase:(mode=0∧(half:Int)=0∧U=false)∨(mode=0∧(half:Int)=1∧U=false)∨(mode=0∧(half:Int)=2∧(L:Int)%2=0∧U=false)∨(mode=0∧(half:Int)=2∧(L:Int)%2=1∧U=true)∨(mode=0∧(half:Int)=3∧U=true)∨
   (mode=1∧(half:Int)<2∧U=false)∨(mode=1∧2≤(half:Int)∧U=true)∨(mode=2∧U=false)∨
   (mode=3∧(half:Int)=0∧U=false)∨(mode=3∧0<(half:Int)∧sign=0∧U=true)∨(mode=3∧0<(half:Int)∧sign=1∧U=false)∨
   (mode=4∧(half:Int)=0∧U=false)∨(mode=4∧0<(half:Int)∧sign=0∧U=false)∨(mode=4∧0<(half:Int)∧sign=1∧U=true):=by
  unfold up at hU
  cases U
  ·have:=of_decide_eq_false hU.symm
   simp only[true_and,and_true,Bool.false_eq_true,and_false,or_false,false_or]
   omega
  ·have:=of_decide_eq_true hU.symm
   simp only[true_and,and_true,Bool.true_eq_false,and_false,or_false,false_or]
   omega
 generalize(half:Int)=H at*
 clear hU hch h
 rcases hcase with⟨rfl,rfl,rfl⟩|⟨rfl,rfl,rfl⟩|⟨rfl,rfl,hb,rfl⟩|⟨rfl,rfl,hb,rfl⟩|⟨rfl,rfl,rfl⟩|⟨rfl,c,rfl⟩|⟨rfl,c,rfl⟩|⟨rfl,rfl⟩|⟨rfl,rfl,rfl⟩|⟨rfl,c,rfl,rfl⟩|⟨rfl,c,rfl,rfl⟩|⟨rfl,rfl,rfl⟩|⟨rfl,c,rfl,rfl⟩|⟨rfl,c,rfl,rfl⟩
 all_goals
  first
   |(have HB:=Ry _ hb;clear Ry hb hs)
   |(have HB:Hid True:=trivial;clear Ry hs)
  go_enter func156,ntmps156
  go_wp2_with (first
   |(go_at_call 202;refine kw (HB.out _ rfl) ?_)
   |(go_at_call 150;refine(um.out _).mono ?_;rintro x w1 ⟨v1,k1,rfl,hb1,hk1,hg1⟩)
   |(go_at_call 203;refine(HAdd.out v1 k1 _ kg hb1 hk1).mono ?_;rintro x w2 ⟨v2,k2,rfl,hb2,hk2,hg2⟩))
  go_returns
  first
   |exact⟨_,_,rfl,HL.out,om,kg⟩
   |exact⟨_,_,rfl,hb2,om,kg⟩
   |exact⟨_,rfl,_,HL.out,om,kg⟩
   |exact⟨_,rfl,_,hb2,om,kg⟩
