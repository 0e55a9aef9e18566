import Derived.Test.YtnbbfeknbfohhaaGreatDoorA1
import Derived.Test.YtnbbfeknbfohhaaGreatDoorC0
import Derived.Deep.RegionHeld3
import Derived.Test.YtnbbfeknbfohhaaGreatDoorU1
import Derived.Deep.DeepCutAuto
open Go.Value renaming int → J, agg → X, slice → E, bool → U, tuple → I
open Go.IntKind renaming i64 → Y, u64 → O
open Go.Ending renaming returned → V
open Go.Proofs.Tryz
namespace Go.Proofs.YtnbbfeknbfohhaaGreatDoor
open Go.RowKit
def dX(kind s:Int):Nat:=
 if kind=0 then(if s=1 then 2147483648 else 2147483647)
 else if kind=1 then(if s=1 then 9223372036854775808 else 9223372036854775807)
 else if kind=2 then(if s=1 then 0 else 4294967295)
 else if kind=3 then(if s=1 then 0 else 18446744073709551615)
 else 0
def eH(kind w:Int):Int:=if(kind=0∨kind=1)∧9223372036854775808≤w then 1 else 0
def iH(kind w:Int):Nat:=if(kind=0∨kind=1)∧9223372036854775808≤w then(18446744073709551616-w).toNat else w.toNat
theorem Fg(kind w:Int):eH kind w=0∨eH kind w=1:=by unfold eH;split<;>simp
theorem uY(kind w:Int)(h0:0≤w)(h1:w<18446744073709551616):iH kind w<18446744073709551616:=by unfold iH;split<;>omega
def jK(kind w:Int):Bool:=decide ((0≤kind∧kind≤3)∧iH kind w≤dX kind (eH kind w))
set_option linter.unusedVariables false
set_option linter.unusedSimpArgs false
set_option maxRecDepth 1000000
set_option maxHeartbeats 40000000
theorem Zc{P:Prop}(h:P:=by
 go_enter func128,ntmps128
 go_wp2_with (first
  |(go_at_call 126;refine kw (HK.out _) ?_)
  |(go_at_call 150;refine(HO.out _).mono ?_;rintro e n1 ⟨b1,k1,q1,hb1,rfl,lT⟩)
  |(go_at_call 180;with_reducible refine(HS.out _ _ hb1).mono ?_;rintro e n2 ⟨b2,k2,q2,hb2,rfl,Aa⟩)
  |(go_at_call 191;with_reducible refine(HB.out _ _ _ (aB.gb hb2 lT) hb1).mono ?_;rintro e n4 ⟨b4,k4,q4,hb4,rfl,vC⟩))
 go_returns
 exact⟨_,_,_,hb4,rfl,Gb.g⟩):P:=h
def nY(kind:Int):Int:=if kind=0∨kind=2 then 32 else if kind=1∨kind=3 then 64 else 0
def uO(kind:Int):Bool:=decide (kind=0∨kind=1)
theorem nG(kind:Int)(w:World):QW 126 #[J Y kind] w (I #[J Y (nY kind),U (uO kind)]):=by
 rcases(show kind=0∨kind=1∨kind=2∨kind=3∨(kind≠0∧kind≠1∧kind≠2∧kind≠3) by omega)with rfl|rfl|rfl|rfl|⟨c0,c1,c2,c3⟩
 case inr.inr.inr.inr=>
  have e0:(kind==0)=false:=by simp[c0]
  have e1:(kind==1)=false:=by simp[c1]
  have e2:(kind==2)=false:=by simp[c2]
  have e3:(kind==3)=false:=by simp[c3]
  have h1:nY kind=0:=by simp[nY,c0,c1,c2,c3]
  have h2:uO kind=false:=by simp[uO,c0,c1]
  rw[h1,h2]
  go_enter func126,ntmps126
  go_wp2
  go_returns
  exact⟨rfl,rfl⟩
 all_goals
  go_enter func126,ntmps126
  go_wp2
  go_returns
  exact⟨rfl,rfl⟩
theorem oD(kind s B t:Int)(S:Bool)(T:Nat)(hs:s=0∨s=1∧S=true)(hB:(if S then B-1 else B)=t)(B0:0≤B)(B1:B≤64)(t0:0≤t)(hT:T=2^t.toNat)
  (HK:KW 126 #[J Y kind] (I #[J Y B,U S])) (w:World):
  CT 128 #[J Y kind,J Y s] w fun e w'=>∃b k c,aB 20 w' (E (some ⟨b,0,none⟩) k c) (if s=1 then T else T-1)∧e=V (E (some ⟨b,0,none⟩) k c)∧Gb w w':=by
 have T0:1≤T:=by rw[hT];exact Nat.pow_pos de
 have t64:t≤64:=by split at hB<;>omega
 have HO:Hid (∀w,CT 150 #[J O 1] w fun e w'=>∃b k c,aB 2 w' (E (some ⟨b,0,none⟩) k c) 1∧e=V (E (some ⟨b,0,none⟩) k c)∧Gb w w'):=fun w=>b_ (dU 1 om w)
 have HS:Hid (∀v w,aB 2 w v 1→CT 180 #[v,J Y t] w fun e w'=>∃b k c,aB 20 w' (E (some ⟨b,0,none⟩) k c) T∧e=V (E (some ⟨b,0,none⟩) k c)∧Gb w w'):=fun v w ⟨n,a1,a2⟩=>by
  obtain⟨m,rfl⟩:=Int.eq_ofNat_of_zero_le t0
  rw[Int.toNat_natCast]at hT
  rw[hT,←Nat.one_mul (2^m)]
  exact b_ ((eP a2 om m om).mono (fun e w' ⟨v,k,c1,c2,c3,c4⟩=>⟨v,k,c1,c2,om,c4⟩))
 have HB:Hid (∀v v' w,aB 20 w v T→aB 2 w v' 1→CT 191 #[v,v'] w fun e w'=>∃b k c,aB 20 w' (E (some ⟨b,0,none⟩) k c) (T-1)∧e=V (E (some ⟨b,0,none⟩) k c)∧Gb w w'):=fun v v' w ⟨n,a1,a2⟩ ⟨n',b1,b2⟩=>b_ ((kV a2 om b2 om om).mono (fun e w' ⟨v,k,c1,c2,c3,c4⟩=>⟨v,k,c1,c2,om,c4⟩))
 clear hT
 cases S
 ·rw[if_neg (by decide)]at hB
  rcases hs with rfl|⟨_,h⟩
  ·rw[if_neg (by decide)]
   subst hB
   exact Zc
  ·cases h
 ·rw[if_pos rfl]at hB
  have u1:IntKind.i64.wrap (B-1)=t:=wi
  rcases hs with rfl|⟨rfl,_⟩
  ·rw[if_neg (by decide)]
   exact Zc
  ·rw[if_pos rfl]
   go_enter func128,ntmps128
   go_wp2_with (first
    |(go_at_call 126;refine kw (HK.out _) ?_)
    |(go_at_call 150;refine(HO.out _).mono ?_;rintro e n1 ⟨b1,k1,q1,hb1,rfl,lT⟩)
    |(go_at_call 180;with_reducible refine(HS.out _ _ hb1).mono ?_;rintro e n2 ⟨b2,k2,q2,hb2,rfl,Aa⟩))
   go_returns
   exact⟨_,_,_,hb2,rfl,Gb.g⟩
theorem Gm(kind B:Int)(HK:KW 126 #[J Y kind] (I #[J Y B,U false]))(w:World):
  CT 128 #[J Y kind,J Y 1] w fun e w'=>∃b k c,aB 20 w' (E (some ⟨b,0,none⟩) k c) 0∧e=V (E (some ⟨b,0,none⟩) k c)∧Gb w w':=by
 go_enter func128,ntmps128
 go_wp2_with (go_at_call 126;refine kw (HK.out _) ?_)
 go_returns
 refine⟨_,_,_,⟨0,om,⟨de,.inl rfl⟩,(lC w 0).raw de⟩,rfl,Gb.g⟩
theorem zN(kind s:Int)(hs:s=0∨s=1)(w:World):
  CT 128 #[J Y kind,J Y s] w fun e w'=>∃b k c,aB 20 w' (E (some ⟨b,0,none⟩) k c) (dX kind s)∧e=V (E (some ⟨b,0,none⟩) k c)∧Gb w w':=by
 by_cases c:uO kind=true
 ·have hk:kind=0∨kind=1:=by unfold uO at c;exact of_decide_eq_true c
  rcases hk with rfl|rfl
  ·have:=oD 0 s 32 31 true 2147483648 (hs.imp id (fun h=>⟨h,rfl⟩)) de om om om de (fun w=>nG 0 w) w
   rcases hs with rfl|rfl<;>exact this
  ·have:=oD 1 s 64 63 true 9223372036854775808 (hs.imp id (fun h=>⟨h,rfl⟩)) de om om om de (fun w=>nG 1 w) w
   rcases hs with rfl|rfl<;>exact this
 ·have c':uO kind=false:=by simpa using c
  have HK:KW 126 #[J Y kind] (I #[J Y (nY kind),U false]):=fun w=>c'▸nG kind w
  have hk:¬(kind=0∨kind=1):=by unfold uO at c';exact of_decide_eq_false c'
  rcases hs with rfl|rfl
  ·rcases(show kind=2∨kind=3∨(kind≠2∧kind≠3) by omega)with rfl|rfl|⟨d,d'⟩
   ·exact oD 2 0 32 32 false 4294967296 om de om om om de HK w
   ·exact oD 3 0 64 64 false 18446744073709551616 om de om om om de HK w
   ·have e1:nY kind=0:=by unfold nY;rw[if_neg om,if_neg (by omega)]
    have e2:dX kind 0=0:=by unfold dX;rw[if_neg om,if_neg om,if_neg om,if_neg (by omega)]
    rw[e2]
    rw[e1]at HK
    exact oD kind 0 0 0 false 1 om de om om om de HK w
  ·have e2:dX kind 1=0:=by unfold dX;rw[if_neg om,if_neg (by omega)];(repeat' split)<;>first|rfl|omega
   rw[e2]
   exact Gm kind _ HK w
set_option maxRecDepth 1000000
theorem Yf{K:Nat}{w:World}{b k c N:Nat}(h:aB K w (E (some ⟨b,0,none⟩) k c) N)(hN:0<N):0<k:=by
 obtain⟨n,hn,hb⟩:=h
 obtain⟨b',cap,e,_⟩:=hb.shape
 have h2:=hb.1.iff
 injection e with _ e2 _
 have:n≠0:=fun h=>by have:=h2.1 h;omega
 omega
theorem O5(f mode kind a s:Int)(M:Nat)(hM:0<M)(HX:Hid (∀w,CT 60 #[J Y kind,J O a] w fun e w'=>∃b k c,aB 2 w' (E (some ⟨b,0,none⟩) k c) M∧e=V (I #[X #[J Y s,E (some ⟨b,0,none⟩) k c,J Y 0,U false],U true])∧Gb w w'))(V9:KW 61 #[J Y f] (U true))(HWy:KW 62 #[J Y mode] (U true))(Q:Int→Int→Prop)(HR:Hid (∀v w,aB 2 w v M→CT 65 #[J Y f,J Y mode,X #[J Y s,v,J Y 0,U false]] w fun e w'=>∃z fl,Q z fl∧e=V (X #[J O z,J Y fl])∧Gb w w'))(w:World):
  CT 19 #[J Y f,J Y mode,J Y kind,J O a] w fun e w'=>∃z fl,Q z fl∧e=V (X #[J O z,J Y fl])∧Gb w w':=by
 go_enter func19,ntmps19
 go_wp2_with (first
  |(go_at_call 60;refine(HX.out _).mono ?_;rintro e w1 ⟨b,k,c,hb,rfl,aj⟩;obtain⟨Bc,Ba,Wj,A_⟩:=aj.y2 w.heap.size 0 1 (J O 0) (J Y 0);have hz1:=au Bc;have hk1:=Yf hb hM)
  |(go_at_call 61;refine kw (V9.out _) ?_)
  |(go_at_call 62;refine kw (HWy.out _) ?_)
  |(go_at_call 65;refine(HR.out _ _ (aB.gb hb Gb.g)).mono ?_;rintro e w4 ⟨z,fl,hq,rfl,aF⟩;obtain⟨fP,fU,fO,fQ⟩:=aF.y2 w.heap.size 0 1 (J O 0) (J Y 0)))
 refine bodyPost_ret (v:=X #[J O z,J Y fl]) (by simp[results,Tryz.results19,go_sem,fP,fO]) rfl ⟨z,fl,hq,rfl,?_⟩
 exact Gb.g
set_option maxRecDepth 1000000
theorem Yg{K:Nat}{w:World}{b k c:Nat}(h:aB K w (E (some ⟨b,0,none⟩) k c) 0):((k:Nat):Int)=0:=by
 obtain⟨n,hn,hb⟩:=h
 obtain⟨b',cap,e,_⟩:=hb.shape
 have:=hb.none rfl
 injection e with _ e2 _
 omega
theorem zh(f mode kind a s z fl:Int)(M:Nat)(HX:Hid (∀w,CT 60 #[J Y kind,J O a] w fun e w'=>∃b k c,aB 2 w' (E (some ⟨b,0,none⟩) k c) M∧e=V (I #[X #[J Y s,E (some ⟨b,0,none⟩) k c,J Y 0,U false],U false])∧Gb w w'))(HL:KR 63 #[J Y f] (X #[J O z,J Y fl]))(w:World):
  QB 19 #[J Y f,J Y mode,J Y kind,J O a] w (X #[J O z,J Y fl]):=by
 go_enter func19,ntmps19
 go_wp2_with (first
  |(go_at_call 60;refine(HX.out _).mono ?_;rintro e w1 ⟨b,k,c,hb,rfl,aj⟩;obtain⟨Bc,Ba,Wj,A_⟩:=aj.y2 w.heap.size 0 1 (J O 0) (J Y 0);have hz1:=au Bc)
  |(go_at_call 63;refine(HL.out _).mono ?_;rintro e w9 ⟨rfl,aP⟩;obtain⟨fP,fU,fO,fQ⟩:=aP.y2 w.heap.size 0 1 (J O 0) (J Y 0)))
 refine bodyPost_ret (v:=X #[J O z,J Y fl]) (by simp[results,Tryz.results19,go_sem,fP,fO]) rfl ⟨rfl,?_⟩
 exact Gb.g
theorem Ju(f mode kind a s z fl:Int)(M:Nat)(HX:Hid (∀w,CT 60 #[J Y kind,J O a] w fun e w'=>∃b k c,aB 2 w' (E (some ⟨b,0,none⟩) k c) M∧e=V (I #[X #[J Y s,E (some ⟨b,0,none⟩) k c,J Y 0,U false],U true])∧Gb w w'))(V9:KW 61 #[J Y f] (U false))(HL:KR 63 #[J Y f] (X #[J O z,J Y fl]))(w:World):
  QB 19 #[J Y f,J Y mode,J Y kind,J O a] w (X #[J O z,J Y fl]):=by
 go_enter func19,ntmps19
 go_wp2_with (first
  |(go_at_call 60;refine(HX.out _).mono ?_;rintro e w1 ⟨b,k,c,hb,rfl,aj⟩;obtain⟨Bc,Ba,Wj,A_⟩:=aj.y2 w.heap.size 0 1 (J O 0) (J Y 0);have hz1:=au Bc)
  |(go_at_call 61;refine kw (V9.out _) ?_)
  |(go_at_call 63;refine(HL.out _).mono ?_;rintro e w9 ⟨rfl,aP⟩;obtain⟨fP,fU,fO,fQ⟩:=aP.y2 w.heap.size 0 1 (J O 0) (J Y 0)))
 refine bodyPost_ret (v:=X #[J O z,J Y fl]) (by simp[results,Tryz.results19,go_sem,fP,fO]) rfl ⟨rfl,?_⟩
 exact Gb.g
theorem Jt(f mode kind a s z fl:Int)(M:Nat)(HX:Hid (∀w,CT 60 #[J Y kind,J O a] w fun e w'=>∃b k c,aB 2 w' (E (some ⟨b,0,none⟩) k c) M∧e=V (I #[X #[J Y s,E (some ⟨b,0,none⟩) k c,J Y 0,U false],U true])∧Gb w w'))(V9:KW 61 #[J Y f] (U true))(HWy:KW 62 #[J Y mode] (U false))(HL:KR 63 #[J Y f] (X #[J O z,J Y fl]))(w:World):
  QB 19 #[J Y f,J Y mode,J Y kind,J O a] w (X #[J O z,J Y fl]):=by
 go_enter func19,ntmps19
 go_wp2_with (first
  |(go_at_call 60;refine(HX.out _).mono ?_;rintro e w1 ⟨b,k,c,hb,rfl,aj⟩;obtain⟨Bc,Ba,Wj,A_⟩:=aj.y2 w.heap.size 0 1 (J O 0) (J Y 0);have hz1:=au Bc)
  |(go_at_call 61;refine kw (V9.out _) ?_)
  |(go_at_call 62;refine kw (HWy.out _) ?_)
  |(go_at_call 63;refine(HL.out _).mono ?_;rintro e w9 ⟨rfl,aP⟩;obtain⟨fP,fU,fO,fQ⟩:=aP.y2 w.heap.size 0 1 (J O 0) (J Y 0)))
 refine bodyPost_ret (v:=X #[J O z,J Y fl]) (by simp[results,Tryz.results19,go_sem,fP,fO]) rfl ⟨rfl,?_⟩
 exact Gb.g
theorem Js(f mode kind a s z fl:Int)(M:Nat)(hM:M=0)(HX:Hid (∀w,CT 60 #[J Y kind,J O a] w fun e w'=>∃b k c,aB 2 w' (E (some ⟨b,0,none⟩) k c) M∧e=V (I #[X #[J Y s,E (some ⟨b,0,none⟩) k c,J Y 0,U false],U true])∧Gb w w'))(V9:KW 61 #[J Y f] (U true))(HWy:KW 62 #[J Y mode] (U true))(HL:KR 64 #[J Y f,J Y 0] (X #[J O z,J Y fl]))(w:World):
  QB 19 #[J Y f,J Y mode,J Y kind,J O a] w (X #[J O z,J Y fl]):=by
 subst hM
 go_enter func19,ntmps19
 go_wp2_with (first
  |(go_at_call 60;refine(HX.out _).mono ?_;rintro e w1 ⟨b,k,c,hb,rfl,aj⟩;obtain⟨Bc,Ba,Wj,A_⟩:=aj.y2 w.heap.size 0 1 (J O 0) (J Y 0);have hz1:=au Bc;have hk1:=Yg hb)
  |(go_at_call 61;refine kw (V9.out _) ?_)
  |(go_at_call 62;refine kw (HWy.out _) ?_)
  |(go_at_call 64;refine(HL.out _).mono ?_;rintro e w9 ⟨rfl,aP⟩;obtain⟨fP,fU,fO,fQ⟩:=aP.y2 w.heap.size 0 1 (J O 0) (J Y 0)))
 refine bodyPost_ret (v:=X #[J O z,J Y fl]) (by simp[results,Tryz.results19,go_sem,fP,fO]) rfl ⟨rfl,?_⟩
 exact Gb.g
set_option maxRecDepth 1000000
theorem Zd{P:Prop}(h:P:=by
 go_region_held3 (fun w'=>w'.cell? ⟨n1.heap.size,0,none⟩=some (J Y 0)∧w'.cell? ⟨n1.heap.size,1,none⟩=some (E (some ⟨b1,0,none⟩) k1 q1)∧w'.cell? ⟨n1.heap.size,2,none⟩=some (J Y 0)∧w'.cell? ⟨n1.heap.size,3,none⟩=some (U false))
  ((go_split_ands;(repeat' apply And.intro)<;>exact kh))
  (first
   |(go_at_call 128;refine(HM.out _).mono ?_;rintro e n3 ⟨b3,k3,q3,hb3,rfl,z_⟩;obtain⟨WE,DJ,XL,DI,nr2,aDE,nr3,aDD⟩:=z_.y4 w.heap.size 0 1 2 3 (J Y 0) (E none 0 0) (J Y 0) (U false))
   |(go_at_call 129;with_reducible refine(HC.out _ _ _ (aB.gb hb2 Gb.g) (aB.gb hb3 Gb.g)).mono ?_;rintro e n4 ⟨rfl,vC⟩;obtain⟨AV,Un,AU,Um,or2,aDC,or3,aDB⟩:=vC.y4 w.heap.size 0 1 2 3 (J Y 0) (E none 0 0) (J Y 0) (U false)))
 all_goals (try go_split_ands)
 all_goals go_wp2
 all_goals
  refine bodyPost_ret (v:=I #[X #[J Y 0,E (some ⟨b1,0,none⟩) k1 q1,J Y 0,U false],U t]) (by simp[results,Tryz.results60,go_sem,AV,AU,or2,or3,hd]) rfl ⟨b1,k1,q1,?_,rfl,?_⟩
  ·exact(aB.gb hb2 Gb.g).Rz AV AU or2 or3
  ·exact Gb.g):P:=h
theorem XW(kind a B d:Int)(M L:Nat)(t:Bool)(B0:0<B)(hd:decide (d≤0)=t)(ha:decide (9223372036854775808≤a)=false)(HK:KW 126 #[J Y kind] (I #[J Y B,U true]))(HB:Hid (∀w,CT 150 #[J O a] w fun e w'=>∃b k c,aB 2 w' (E (some ⟨b,0,none⟩) k c) M∧e=V (E (some ⟨b,0,none⟩) k c)∧Gb w w'))(HT:KW 114 #[J Y 63] (J O 9223372036854775808))(HM:Hid (∀w,CT 128 #[J Y kind,J Y 0] w fun e w'=>∃b k c,aB 20 w' (E (some ⟨b,0,none⟩) k c) L∧e=V (E (some ⟨b,0,none⟩) k c)∧Gb w w'))(HC:Hid (∀v v' w,aB 2 w v M→aB 20 w v' L→QB 129 #[v,v'] w (J Y d)))(w:World):
  CT 60 #[J Y kind,J O a] w fun e w'=>∃b k c,aB 2 w' (E (some ⟨b,0,none⟩) k c) M∧e=V (I #[X #[J Y 0,E (some ⟨b,0,none⟩) k c,J Y 0,U false],U t])∧Gb w w':=by
 go_enter func60,ntmps60
 go_upto_region 3 with(first
  |(go_at_call 126;refine kw (HK.out _) ?_)
  |(go_at_call 150;refine(HB.out _).mono ?_;rintro e n1 ⟨b1,k1,q1,hb1,rfl,lT⟩;obtain⟨EF,D5,X8,DZ,kr2,aAX,kr3,aAW⟩:=lT.y4 w.heap.size 0 1 2 3 (J Y 0) (E none 0 0) (J Y 0) (U false);have hz1:=au EF))
 obtain⟨w2,hw2⟩:∃w2,n1.alloc (.cells #[J Y 0,E (some ⟨b1,0,none⟩) k1 q1,J Y 0,U false] 96)=w2:=⟨_,rfl⟩
 have ak:Gb n1 w2:=by rw[←hw2];exact(Gb.refl _).alloc _
 have hb2:aB 2 w2 (E (some ⟨b1,0,none⟩) k1 q1) M:=aB.gb hb1 ak
 have x0:w2.cell? ⟨n1.heap.size,0,none⟩=some (J Y 0):=by rw[←hw2];simp[go_sem]
 have x1:w2.cell? ⟨n1.heap.size,1,none⟩=some (E (some ⟨b1,0,none⟩) k1 q1):=by rw[←hw2];simp[go_sem]
 have x2:w2.cell? ⟨n1.heap.size,2,none⟩=some (J Y 0):=by rw[←hw2];simp[go_sem]
 have x3:w2.cell? ⟨n1.heap.size,3,none⟩=some (U false):=by rw[←hw2];simp[go_sem]
 have hz2:n1.heap.size<w2.heap.size:=by rw[←hw2];simp
 rw[hw2]
 clear hw2
 obtain⟨zK,qP,DL,qO,mr2,aAL,mr3,aAK⟩:=ak.y4 w.heap.size 0 1 2 3 (J Y 0) (E none 0 0) (J Y 0) (U false)
 have hgw:Gb w w2:=Gb.g
 go_wp2_with (go_at_call 114;refine kw (HT.out _) ?_)
 exact Zd
set_option maxRecDepth 1000000
theorem XV(kind a B d:Int)(M L:Nat)(t:Bool)(B0:0<B)(hd:decide (d≤0)=t)(HK:KW 126 #[J Y kind] (I #[J Y B,U false]))(HB:Hid (∀w,CT 150 #[J O a] w fun e w'=>∃b k c,aB 2 w' (E (some ⟨b,0,none⟩) k c) M∧e=V (E (some ⟨b,0,none⟩) k c)∧Gb w w'))(HM:Hid (∀w,CT 128 #[J Y kind,J Y 0] w fun e w'=>∃b k c,aB 20 w' (E (some ⟨b,0,none⟩) k c) L∧e=V (E (some ⟨b,0,none⟩) k c)∧Gb w w'))(HC:Hid (∀v v' w,aB 2 w v M→aB 20 w v' L→QB 129 #[v,v'] w (J Y d)))(w:World):
  CT 60 #[J Y kind,J O a] w fun e w'=>∃b k c,aB 2 w' (E (some ⟨b,0,none⟩) k c) M∧e=V (I #[X #[J Y 0,E (some ⟨b,0,none⟩) k c,J Y 0,U false],U t])∧Gb w w':=by
 go_enter func60,ntmps60
 go_upto_region 3 with(first
  |(go_at_call 126;refine kw (HK.out _) ?_)
  |(go_at_call 150;refine(HB.out _).mono ?_;rintro e n1 ⟨b1,k1,q1,hb1,rfl,lT⟩;obtain⟨EF,D5,X8,DZ,kr2,aAX,kr3,aAW⟩:=lT.y4 w.heap.size 0 1 2 3 (J Y 0) (E none 0 0) (J Y 0) (U false);have hz1:=au EF))
 obtain⟨w2,hw2⟩:∃w2,n1.alloc (.cells #[J Y 0,E (some ⟨b1,0,none⟩) k1 q1,J Y 0,U false] 96)=w2:=⟨_,rfl⟩
 have ak:Gb n1 w2:=by rw[←hw2];exact(Gb.refl _).alloc _
 have hb2:aB 2 w2 (E (some ⟨b1,0,none⟩) k1 q1) M:=aB.gb hb1 ak
 have x0:w2.cell? ⟨n1.heap.size,0,none⟩=some (J Y 0):=by rw[←hw2];simp[go_sem]
 have x1:w2.cell? ⟨n1.heap.size,1,none⟩=some (E (some ⟨b1,0,none⟩) k1 q1):=by rw[←hw2];simp[go_sem]
 have x2:w2.cell? ⟨n1.heap.size,2,none⟩=some (J Y 0):=by rw[←hw2];simp[go_sem]
 have x3:w2.cell? ⟨n1.heap.size,3,none⟩=some (U false):=by rw[←hw2];simp[go_sem]
 have hz2:n1.heap.size<w2.heap.size:=by rw[←hw2];simp
 rw[hw2]
 clear hw2
 obtain⟨zK,qP,DL,qO,mr2,aAL,mr3,aAK⟩:=ak.y4 w.heap.size 0 1 2 3 (J Y 0) (E none 0 0) (J Y 0) (U false)
 have hgw:Gb w w2:=Gb.g
 go_wp2
 exact Zd
theorem aB.aDc{K:Nat}{w:World}{v:Value}{N:Nat}(h:aB K w v N){r:Nat}{x0 x2:Int}{x3:Bool}{q:Value}(hq:∀d,q≠J .u32 d){u0 u1 u2 u3:Value}(h0:w.cell? ⟨r,0,none⟩=some (J Y x0))(h1:w.cell? ⟨r,1,none⟩=some q)(h2:w.cell? ⟨r,2,none⟩=some (J Y x2))(h3:w.cell? ⟨r,3,none⟩=some (U x3)):
  aB K ((((w.setCell ⟨r,0,none⟩ u0).setCell ⟨r,1,none⟩ u1).setCell ⟨r,2,none⟩ u2).setCell ⟨r,3,none⟩ u3) v N:=
 (((h.st u0 h0 (fun d e=>by cases e)).st u1 (aS om h1) hq).st u2 (aS om (aS om h2)) (fun d e=>by cases e)).st u3 (aS om (aS om (aS om h3))) (fun d e=>by cases e)
theorem XY(kind a an B d:Int)(N M L:Nat)(t:Bool)(B0:0<B)(hd:decide (d≤0)=t)(ha:decide (9223372036854775808≤a)=true)(han:IntKind.u64.wrap (0-a)=an)(aFo:IntKind.u64.wrap (-a)=an)(HK:KW 126 #[J Y kind] (I #[J Y B,U true]))(HB:Hid (∀w,CT 150 #[J O a] w fun e w'=>∃b k c,aB 2 w' (E (some ⟨b,0,none⟩) k c) N∧e=V (E (some ⟨b,0,none⟩) k c)∧Gb w w'))(HB2:Hid (∀w,CT 150 #[J O an] w fun e w'=>∃b k c,aB 2 w' (E (some ⟨b,0,none⟩) k c) M∧e=V (E (some ⟨b,0,none⟩) k c)∧Gb w w'))(HT:KW 114 #[J Y 63] (J O 9223372036854775808))(HM:Hid (∀w,CT 128 #[J Y kind,J Y 1] w fun e w'=>∃b k c,aB 20 w' (E (some ⟨b,0,none⟩) k c) L∧e=V (E (some ⟨b,0,none⟩) k c)∧Gb w w'))(HC:Hid (∀v v' w,aB 2 w v M→aB 20 w v' L→QB 129 #[v,v'] w (J Y d)))(w:World):
  CT 60 #[J Y kind,J O a] w fun e w'=>∃b k c,aB 2 w' (E (some ⟨b,0,none⟩) k c) M∧e=V (I #[X #[J Y 1,E (some ⟨b,0,none⟩) k c,J Y 0,U false],U t])∧Gb w w':=by
 go_enter func60,ntmps60
 go_upto_region 3 with(first
  |(go_at_call 126;refine kw (HK.out _) ?_)
  |(go_at_call 150;refine(HB.out _).mono ?_;rintro e n1 ⟨b1,k1,q1,hb1,rfl,lT⟩;obtain⟨EF,D5,X8,DZ,kr2,aAX,kr3,aAW⟩:=lT.y4 w.heap.size 0 1 2 3 (J Y 0) (E none 0 0) (J Y 0) (U false);have hz1:=au EF))
 obtain⟨w2,hw2⟩:∃w2,n1.alloc (.cells #[J Y 0,E (some ⟨b1,0,none⟩) k1 q1,J Y 0,U false] 96)=w2:=⟨_,rfl⟩
 have ak:Gb n1 w2:=by rw[←hw2];exact(Gb.refl _).alloc _
 have hb2:aB 2 w2 (E (some ⟨b1,0,none⟩) k1 q1) N:=aB.gb hb1 ak
 have x0:w2.cell? ⟨n1.heap.size,0,none⟩=some (J Y 0):=by rw[←hw2];simp[go_sem]
 have x1:w2.cell? ⟨n1.heap.size,1,none⟩=some (E (some ⟨b1,0,none⟩) k1 q1):=by rw[←hw2];simp[go_sem]
 have x2:w2.cell? ⟨n1.heap.size,2,none⟩=some (J Y 0):=by rw[←hw2];simp[go_sem]
 have x3:w2.cell? ⟨n1.heap.size,3,none⟩=some (U false):=by rw[←hw2];simp[go_sem]
 have xz0:w2.frozen? ⟨n1.heap.size,0,none⟩=false:=by rw[←hw2];simp[go_sem]
 have xz1:w2.frozen? ⟨n1.heap.size,1,none⟩=false:=by rw[←hw2];simp[go_sem]
 have xz2:w2.frozen? ⟨n1.heap.size,2,none⟩=false:=by rw[←hw2];simp[go_sem]
 have xz3:w2.frozen? ⟨n1.heap.size,3,none⟩=false:=by rw[←hw2];simp[go_sem]
 have hz2:n1.heap.size<w2.heap.size:=by rw[←hw2];simp
 rw[hw2]
 clear hw2
 obtain⟨zK,qP,DL,qO,mr2,aAL,mr3,aAK⟩:=ak.y4 w.heap.size 0 1 2 3 (J Y 0) (E none 0 0) (J Y 0) (U false)
 have hgw:Gb w w2:=Gb.g
 go_upto_region 5 with(first
  |(go_at_call 114;refine kw (HT.out _) ?_)
  |(go_at_call 150;refine(HB2.out _).mono ?_;rintro e n5 ⟨b5,k5,q5,hb5,rfl,CJ⟩;obtain⟨lu,iC,lM,iy,pr2,P7,pr3,P6⟩:=CJ.y4 w.heap.size 0 1 2 3 (J Y 0) (E none 0 0) (J Y 0) (U false);obtain⟨px0,aE2,px1,aE1,px2,aE0,px3,aEZ⟩:=CJ.y4 n1.heap.size 0 1 2 3 (J Y 0) (E (some ⟨b1,0,none⟩) k1 q1) (J Y 0) (U false);have UM:=au px0))
 obtain⟨w6,hw6⟩:∃w6,(((n5.setCell ⟨n1.heap.size,0,none⟩ (J Y 1)).setCell ⟨n1.heap.size,1,none⟩ (E (some ⟨b5,0,none⟩) k5 q5)).setCell ⟨n1.heap.size,2,none⟩ (J Y 0)).setCell ⟨n1.heap.size,3,none⟩ (U false)=w6:=⟨_,rfl⟩
 have aCu:Gb w n5:=Gb.g
 have hlt:w.heap.size≤n1.heap.size:=om
 have fK:Gb w w6:=by
  rw[←hw6]
  exact(((aCu.setCell (a:=⟨n1.heap.size,0,none⟩) hlt _).setCell (a:=⟨n1.heap.size,1,none⟩) hlt _).setCell (a:=⟨n1.heap.size,2,none⟩) hlt _).setCell (a:=⟨n1.heap.size,3,none⟩) hlt _
 have y0:w6.cell? ⟨n1.heap.size,0,none⟩=some (J Y 1):=by rw[←hw6];exact kh
 have y1:w6.cell? ⟨n1.heap.size,1,none⟩=some (E (some ⟨b5,0,none⟩) k5 q5):=by rw[←hw6];exact kh
 have y2:w6.cell? ⟨n1.heap.size,2,none⟩=some (J Y 0):=by rw[←hw6];exact kh
 have y3:w6.cell? ⟨n1.heap.size,3,none⟩=some (U false):=by rw[←hw6];exact kh
 have hb6:aB 2 w6 (E (some ⟨b5,0,none⟩) k5 q5) M:=by rw[←hw6];exact hb5.aDc (fun d e=>by cases e) px0 px1 px2 px3
 have tr0:w6.cell? ⟨w.heap.size,0,none⟩=some (J Y 0):=by rw[←hw6];exact kh
 have tr1:w6.cell? ⟨w.heap.size,1,none⟩=some (E none 0 0):=by rw[←hw6];exact kh
 have tr2:w6.cell? ⟨w.heap.size,2,none⟩=some (J Y 0):=by rw[←hw6];exact kh
 have tr3:w6.cell? ⟨w.heap.size,3,none⟩=some (U false):=by rw[←hw6];exact kh
 have aBP:w6.frozen? ⟨w.heap.size,0,none⟩=false:=by rw[←hw6];exact kh
 have aBO:w6.frozen? ⟨w.heap.size,1,none⟩=false:=by rw[←hw6];exact kh
 have aEU:w6.frozen? ⟨w.heap.size,2,none⟩=false:=by rw[←hw6];exact kh
 have aET:w6.frozen? ⟨w.heap.size,3,none⟩=false:=by rw[←hw6];exact kh
 rw[hw6]
 clear hw6
 go_region_held3 (fun w'=>w'.cell? ⟨n1.heap.size,0,none⟩=some (J Y 1)∧w'.cell? ⟨n1.heap.size,1,none⟩=some (E (some ⟨b5,0,none⟩) k5 q5)∧w'.cell? ⟨n1.heap.size,2,none⟩=some (J Y 0)∧w'.cell? ⟨n1.heap.size,3,none⟩=some (U false))
  ((go_split_ands;(repeat' apply And.intro)<;>exact kh))
  (first
   |(go_at_call 128;refine(HM.out _).mono ?_;rintro e n3 ⟨b3,k3,q3,hb3,rfl,z_⟩;obtain⟨WE,DJ,XL,DI,nr2,aDE,nr3,aDD⟩:=z_.y4 w.heap.size 0 1 2 3 (J Y 0) (E none 0 0) (J Y 0) (U false))
   |(go_at_call 129;with_reducible refine(HC.out _ _ _ (aB.gb hb6 Gb.g) (aB.gb hb3 Gb.g)).mono ?_;rintro e n4 ⟨rfl,vC⟩;obtain⟨AV,Un,AU,Um,or2,aDC,or3,aDB⟩:=vC.y4 w.heap.size 0 1 2 3 (J Y 0) (E none 0 0) (J Y 0) (U false)))
 all_goals (try go_split_ands)
 all_goals go_wp2
 all_goals
  refine bodyPost_ret (v:=I #[X #[J Y 1,E (some ⟨b5,0,none⟩) k5 q5,J Y 0,U false],U t]) (by simp[results,Tryz.results60,go_sem,AV,AU,or2,or3,hd]) rfl ⟨b5,k5,q5,?_,rfl,?_⟩
  ·exact(aB.gb hb6 Gb.g).Rz AV AU or2 or3
  ·exact Gb.g
section
attribute [local go_sem] undef
theorem XU(kind a:Int)(M:Nat)(HK:KW 126 #[J Y kind] (I #[J Y 0,U false]))(HB:Hid (∀w,CT 150 #[J O a] w fun e w'=>∃b k c,aB 2 w' (E (some ⟨b,0,none⟩) k c) M∧e=V (E (some ⟨b,0,none⟩) k c)∧Gb w w'))(w:World):
  CT 60 #[J Y kind,J O a] w fun e w'=>∃b k c,aB 2 w' (E (some ⟨b,0,none⟩) k c) M∧e=V (I #[X #[J Y 0,E (some ⟨b,0,none⟩) k c,J Y 0,U false],U false])∧Gb w w':=by
 go_enter func60,ntmps60
 go_upto_region 3 with(first
  |(go_at_call 126;refine kw (HK.out _) ?_)
  |(go_at_call 150;refine(HB.out _).mono ?_;rintro e n1 ⟨b1,k1,q1,hb1,rfl,lT⟩;obtain⟨EF,D5,X8,DZ,kr2,aAX,kr3,aAW⟩:=lT.y4 w.heap.size 0 1 2 3 (J Y 0) (E none 0 0) (J Y 0) (U false);have hz1:=au EF))
 obtain⟨w2,hw2⟩:∃w2,n1.alloc (.cells #[J Y 0,E (some ⟨b1,0,none⟩) k1 q1,J Y 0,U false] 96)=w2:=⟨_,rfl⟩
 have ak:Gb n1 w2:=by rw[←hw2];exact(Gb.refl _).alloc _
 have hb2:aB 2 w2 (E (some ⟨b1,0,none⟩) k1 q1) M:=aB.gb hb1 ak
 have x0:w2.cell? ⟨n1.heap.size,0,none⟩=some (J Y 0):=by rw[←hw2];simp[go_sem]
 have x1:w2.cell? ⟨n1.heap.size,1,none⟩=some (E (some ⟨b1,0,none⟩) k1 q1):=by rw[←hw2];simp[go_sem]
 have x2:w2.cell? ⟨n1.heap.size,2,none⟩=some (J Y 0):=by rw[←hw2];simp[go_sem]
 have x3:w2.cell? ⟨n1.heap.size,3,none⟩=some (U false):=by rw[←hw2];simp[go_sem]
 have hz2:n1.heap.size<w2.heap.size:=by rw[←hw2];simp
 rw[hw2]
 clear hw2
 obtain⟨zK,qP,DL,qO,mr2,aAL,mr3,aAK⟩:=ak.y4 w.heap.size 0 1 2 3 (J Y 0) (E none 0 0) (J Y 0) (U false)
 have hgw:Gb w w2:=Gb.g
 go_wp2
 first
  |go_region
  |fail
 all_goals (try go_split_ands)
 all_goals go_wp2
 all_goals
  refine bodyPost_ret (v:=I #[X #[J Y 0,E (some ⟨b1,0,none⟩) k1 q1,J Y 0,U false],U false]) (by simp[results,Tryz.results60,go_sem,zK,DL,mr2,mr3]) rfl ⟨b1,k1,q1,?_,rfl,?_⟩
  ·exact(aB.gb hb2 Gb.g).Rz zK DL mr2 mr3
  ·exact Gb.g
end
def sW(kind a:Int):bI:=if iH kind a=0 then⟨0,0,0,0⟩else⟨1,eH kind a,0,iH kind a⟩
def gQ(f mode kind a Z fl:Int):Prop:=
 (∃p mx one inf sg nan,aI f p mx one inf sg nan∧(0≤mode∧mode≤4)∧jK kind a=true∧bV p (1-mx) mx one inf sg nan mode (sW kind a) Z fl)∨
 (∃p mx one inf sg nan,aI f p mx one inf sg nan∧(¬(0≤mode∧mode≤4)∨jK kind a=false)∧Z=nan∧fl=1)∨
 (¬(f=0∨f=1)∧Z=9221120237041090560∧fl=1)
theorem gQ.one{f mode kind a Z fl Z' qA:Int}(h:gQ f mode kind a Z fl)(h':gQ f mode kind a Z' qA):Z=Z'∧fl=qA:=by
 rcases h with⟨p,mx,one,inf,sg,nan,hF,hm,hk,hp⟩|⟨p,mx,one,inf,sg,nan,hF,hm,rfl,rfl⟩|⟨hF,rfl,rfl⟩<;>
 rcases h' with⟨p',mx',one',inf',TI,nan',hF',hm',hk',hp'⟩|⟨p',mx',one',inf',TI,nan',hF',hm',rfl,rfl⟩|⟨hF',rfl,rfl⟩
 ·obtain⟨rfl,rfl,rfl,rfl,rfl,rfl⟩:=hF.one hF'
  exact bV.one hp hp'
 ·exfalso
  rcases hm' with h|h
  ·exact h hm
  ·rw[hk]at h;cases h
 ·exact absurd hF.yes.symm (by simp[hF'])
 ·exfalso
  rcases hm with h|h
  ·exact h hm'
  ·rw[hk']at h;cases h
 ·obtain⟨rfl,rfl,rfl,rfl,rfl,rfl⟩:=hF.one hF'
  exact⟨rfl,rfl⟩
 ·exact absurd hF.yes.symm (by simp[hF'])
 ·exact absurd hF'.yes.symm (by simp[hF])
 ·exact absurd hF'.yes.symm (by simp[hF])
 ·exact⟨rfl,rfl⟩
theorem UH(kind a:Int):0≤(sW kind a).c ∧(sW kind a).c ≤4:=by unfold sW;split<;>(dsimp only;omega)
theorem NW(f mode kind a:Int):∃Z fl,gQ f mode kind a Z fl:=by
 by_cases hf:f=0∨f=1
 ·obtain⟨p,mx,one,inf,sg,nan,hF⟩:=kF f hf
  by_cases hm:0≤mode∧mode≤4
  ·cases hk:jK kind a
   ·exact⟨_,_,.inr (.inl ⟨p,mx,one,inf,sg,nan,hF,.inr hk,rfl,rfl⟩)⟩
   ·obtain⟨Z,fl,hp⟩:=Dw p (1-mx) mx one inf sg nan mode _ (UH kind a).1 (UH kind a).2
    exact⟨Z,fl,.inl ⟨p,mx,one,inf,sg,nan,hF,hm,hk,hp⟩⟩
  ·exact⟨_,_,.inr (.inl ⟨p,mx,one,inf,sg,nan,hF,.inl hm,rfl,rfl⟩)⟩
 ·exact⟨_,_,.inr (.inr ⟨hf,rfl,rfl⟩)⟩
theorem Yu(M L:Nat):decide (eG M L≤0)=decide (M≤L):=by
 unfold eG
 by_cases h:M≤L
 ·rw[decide_eq_true h,decide_eq_true]
  split<;>(try split)<;>omega
 ·rw[decide_eq_false h,decide_eq_false]
  rw[if_neg om,if_pos (by omega)];omega
theorem Qo(kind a:Int)(a0:0≤a)(a1:a<18446744073709551616)(w:World):
  CT 60 #[J Y kind,J O a] w fun e w'=>∃b k c,aB 2 w' (E (some ⟨b,0,none⟩) k c) (iH kind a)∧e=V (I #[X #[J Y (eH kind a),E (some ⟨b,0,none⟩) k c,J Y 0,U false],U (jK kind a)])∧Gb w w':=by
 have HB:∀(v:Int) (N:Nat),v=(N:Int)→N<18446744073709551616→Hid (∀w,CT 150 #[J O v] w fun e w'=>∃b k c,aB 2 w' (E (some ⟨b,0,none⟩) k c) N∧e=V (E (some ⟨b,0,none⟩) k c)∧Gb w w'):=by
  intro v N e h w
  subst e
  exact b_ ((dU N h w).mono (fun e w' ⟨v,k,c1,c2,c3,c4⟩=>⟨v,k,c1,c2,om,c4⟩))
 have HM:∀s,s=0∨s=1→Hid (∀w,CT 128 #[J Y kind,J Y s] w fun e w'=>∃b k c,aB 20 w' (E (some ⟨b,0,none⟩) k c) (dX kind s)∧e=V (E (some ⟨b,0,none⟩) k c)∧Gb w w'):=fun s hs w=>zN kind s hs w
 have HC:∀M L:Nat,Hid (∀v v' w,aB 2 w v M→aB 20 w v' L→QB 129 #[v,v'] w (J Y (eG M L))):=fun M L v v' w ⟨n,h1,h2⟩ ⟨n',h1',h2'⟩=>gY h2 om h2' om
 have HT:KW 114 #[J Y 63] (J O 9223372036854775808):=fun w=>mP 63 _ om de w
 have ht:a=((a.toNat:Nat):Int):=om
 have kd:∀B S,nY kind=B→uO kind=S→KW 126 #[J Y kind] (I #[J Y B,U S]):=by
  intro B S e1 e2 w
  rw[←e1,←e2]
  exact nG kind w
 by_cases hk:0≤kind∧kind≤3
 ·have hB:0<nY kind:=by rcases(show kind=0∨kind=1∨kind=2∨kind=3 by omega)with rfl|rfl|rfl|rfl<;>decide
  have ft:decide (eG (iH kind a) (dX kind (eH kind a))≤0)=jK kind a:=by
   rw[Yu];unfold jK
   rw[decide_eq_decide]
   exact⟨fun h=>⟨hk,h⟩,fun h=>h.2⟩
  by_cases hs:kind=0∨kind=1
  ·have hS:uO kind=true:=by unfold uO;exact decide_eq_true hs
   by_cases hh:9223372036854775808≤a
   ·have e1:eH kind a=1:=by unfold eH;rw[if_pos ⟨hs,hh⟩]
    have e2:iH kind a=(18446744073709551616-a).toNat :=by unfold iH;rw[if_pos ⟨hs,hh⟩]
    have hw1:IntKind.u64.wrap (0-a)=18446744073709551616-a:=wu
    have hw2:IntKind.u64.wrap (-a)=18446744073709551616-a:=wu
    rw[e1]at ft⊢
    exact XY kind a (18446744073709551616-a) (nY kind) _ a.toNat _ _ _ hB ft (decide_eq_true hh) hw1 hw2 (kd _ _ rfl hS) (HB a _ ht om) (HB _ _ (by rw[e2];omega) (uY kind a a0 a1)) HT (HM 1 (.inr rfl)) (HC _ _) w
   ·have e1:eH kind a=0:=by unfold eH;rw[if_neg (fun h=>hh h.2)]
    have e2:iH kind a=a.toNat:=by unfold iH;rw[if_neg (fun h=>hh h.2)]
    rw[e1]at ft⊢
    exact XW kind a (nY kind) _ _ _ _ hB ft (decide_eq_false hh) (kd _ _ rfl hS) (HB a _ (by rw[e2];exact ht) (uY kind a a0 a1)) HT (HM 0 (.inl rfl)) (HC _ _) w
  ·have hS:uO kind=false:=by unfold uO;exact decide_eq_false hs
   have e1:eH kind a=0:=by unfold eH;rw[if_neg (fun h=>hs h.1)]
   have e2:iH kind a=a.toNat:=by unfold iH;rw[if_neg (fun h=>hs h.1)]
   rw[e1]at ft⊢
   exact XV kind a (nY kind) _ _ _ _ hB ft (kd _ _ rfl hS) (HB a _ (by rw[e2];exact ht) (uY kind a a0 a1)) (HM 0 (.inl rfl)) (HC _ _) w
 ·have hs:¬(kind=0∨kind=1):=om
  have e1:eH kind a=0:=by unfold eH;rw[if_neg (fun h=>hs h.1)]
  have e2:iH kind a=a.toNat:=by unfold iH;rw[if_neg (fun h=>hs h.1)]
  have e3:jK kind a=false:=by unfold jK;exact decide_eq_false (fun h=>hk h.1)
  rw[e1,e3]
  exact XU kind a _ (kd _ _ (by unfold nY;rw[if_neg om,if_neg (by omega)]) (by unfold uO;exact decide_eq_false hs)) (HB a _ (by rw[e2];exact ht) (uY kind a a0 a1)) w
theorem xR(f mode kind a:Int)(a0:0≤a)(a1:a<18446744073709551616)(w:World):
  CT 19 #[J Y f,J Y mode,J Y kind,J O a] w fun e w'=>∃Z fl,gQ f mode kind a Z fl∧e=V (X #[J O Z,J Y fl])∧Gb w w':=by
 have HX:∀t,jK kind a=t→Hid (∀w,CT 60 #[J Y kind,J O a] w fun e w'=>∃b k c,aB 2 w' (E (some ⟨b,0,none⟩) k c) (iH kind a)∧e=V (I #[X #[J Y (eH kind a),E (some ⟨b,0,none⟩) k c,J Y 0,U false],U t])∧Gb w w'):=fun t ht w=>ht▸Qo kind a a0 a1 w
 have fin:∀Z fl,gQ f mode kind a Z fl→(QB 19 #[J Y f,J Y mode,J Y kind,J O a] w (X #[J O Z,J Y fl]))→CT 19 #[J Y f,J Y mode,J Y kind,J O a] w fun e w'=>∃Z fl,gQ f mode kind a Z fl∧e=V (X #[J O Z,J Y fl])∧Gb w w':=fun Z fl hp h=>h.mono (fun e w' ⟨h1,h2⟩=>⟨Z,fl,hp,h1,h2⟩)
 by_cases hf:f=0∨f=1
 ·obtain⟨p,mx,one,inf,sg,nan,hF⟩:=kF f hf
  cases hk:jK kind a
  ·exact fin nan 1 (.inr (.inl ⟨p,mx,one,inf,sg,nan,hF,.inr hk,rfl,rfl⟩)) (zh f mode kind a _ nan 1 _ (HX false hk) (fun w=>cZ hF w) w)
  ·have V9:KW 61 #[J Y f] (U true):=fun w=>iD f true (by simp[hf]) w
   by_cases hm:0≤mode∧mode≤4
   ·have HWy:KW 62 #[J Y mode] (U true):=fun w=>mO mode true (by simp[hm]) w
    rcases Nat.eq_zero_or_pos (iH kind a)with h0|h0
    ·refine fin (sw 0 sg 0) 0 (.inl ⟨p,mx,one,inf,sg,nan,hF,hm,hk,?_⟩) (Js f mode kind a _ _ _ _ h0 (HX true hk) V9 HWy (fun w=>jS hF 0 (.inl rfl) w) w)
     unfold sW;rw[if_pos h0];exact .inl ⟨rfl,rfl,rfl⟩
    ·refine(O5 f mode kind a _ _ h0 (HX true hk) V9 HWy (bV p (1-mx) mx one inf sg nan mode ⟨1,eH kind a,0,iH kind a⟩) (fun v w hB=>m_ hF mode hm.1 hm.2 ⟨1,eH kind a,0,iH kind a⟩ rfl (Fg kind a) h0 (by dsimp only;omega) (by dsimp only;omega) 2 om v w hB) w).mono ?_
     rintro e w' ⟨Z,fl,hp,rfl,hg⟩
     refine⟨Z,fl,.inl ⟨p,mx,one,inf,sg,nan,hF,hm,hk,?_⟩,rfl,hg⟩
     unfold sW;rw[if_neg (by omega)];exact hp
   ·exact fin nan 1 (.inr (.inl ⟨p,mx,one,inf,sg,nan,hF,.inl hm,rfl,rfl⟩)) (Jt f mode kind a _ nan 1 _ (HX true hk) V9 (fun w=>mO mode false (by simp;omega) w) (fun w=>cZ hF w) w)
 ·have hL:KR 63 #[J Y f] (X #[J O 9221120237041090560,J Y 1]):=fun w=>oJ f hf w
  cases hk:jK kind a
  ·exact fin _ 1 (.inr (.inr ⟨hf,rfl,rfl⟩)) (zh f mode kind a _ _ 1 _ (HX false hk) hL w)
  ·exact fin _ 1 (.inr (.inr ⟨hf,rfl,rfl⟩)) (Ju f mode kind a _ _ 1 _ (HX true hk) (fun w=>iD f false (by simp;omega) w) hL w)
