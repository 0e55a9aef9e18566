import Derived.Test.YtmiekgjgpmfekaaGreatDoorM8
set_option linter.all false
set_option maxRecDepth 1000000
set_option maxHeartbeats 40000000
open Option renaming none → O, some → V
open Bool renaming false → X
open Go.Proofs.YtmiekgjgpmfekaaGreatDoor renaming vI → J
open Go.Value renaming bool → Y
open Go.Proofs.Tryz
namespace Go.Proofs.YtmiekgjgpmfekaaGreatDoor
open Go.RowKit
attribute [local go_sem] aj bK
variable{K N r:Nat}{w:World}{v q u0 u1 u2 u3:Value}{x0 x2 f mode kind a Z fl Z' oQ:Int}{x3:Bool}
theorem aBJ(kind a B d:Int)(M L:Nat)(t:Bool)(B0:0<B)(hd:decide (d<=0)=t)(HK:kX kind B X)(HB:Hid (∀w,CT 100 #[.int .u64 a] w (qh 2 M w)))(HM:Hid (∀w,CT 131 #[J kind,J 0] w (qh 20 L w)))(HC:Hid (∀v v' w,aC 2 w v M->aC 20 w v' L->QB 102 #[v,v'] w (J d)))(w:World):
  CT 80 #[J kind,.int .u64 a] w fun e w'=>∃b k c,aC 2 w' (aB b k c) M/\e=.returned (.tuple #[.agg #[J 0,aB b k c,J 0,Y X],Y t])/\Gb w w':=by
 go_enter func80,ntmps80;go_upto_region 3 with(first
  |(go_at_call 129;refine kw (HK _) ?_)
  |(go_at_call 100;refine(HB _).mono ?_;rintro e n1 ⟨b1,k1,q1,hb1,rfl,mV⟩;have t_:=mV.FW w;have hz1:=au t_.1))
 obtain⟨w2,hw2⟩:∃w2,n1.alloc (.cells #[J 0,aB b1 k1 q1,J 0,Y X] 109)=w2:=⟨_,rfl⟩;have aA:Gb n1 w2:=by rw[<-hw2];exact(Gb.refl _).alloc _
 have hb2:aC 2 w2 (aB b1 k1 q1) M:=aC.gb hb1 aA;have x0:w2.cell? ⟨n1.heap.size,0,O⟩=V (J 0):=by rw[<-hw2];simp[go_sem]
 have x1:w2.cell? ⟨n1.heap.size,1,O⟩=V (aB b1 k1 q1):=by rw[<-hw2];simp[go_sem]
 have x2:w2.cell? ⟨n1.heap.size,2,O⟩=V (J 0):=by rw[<-hw2];simp[go_sem]
 have x3:w2.cell? ⟨n1.heap.size,3,O⟩=V (Y X):=by rw[<-hw2];simp[go_sem]
 have hz2:n1.heap.size<w2.heap.size:=by rw[<-hw2];simp
 rw[hw2];clear hw2;have:=aA.FW w;have hgw:Gb w w2:=Gb.g;go_wp2;go_region_held3 (fun w'=>aj w' n1.heap.size 0 (J 0)/\aj w' n1.heap.size 1 (aB b1 k1 q1)/\aj w' n1.heap.size 2 (J 0)/\aj w' n1.heap.size 3 (Y X))
  (exact kZ)
  (first
   |(go_at_call 131;refine(HM _).mono ?_;rintro e n3 ⟨b3,k3,q3,hb3,rfl,zA⟩;have:=zA.FW w)
   |(go_at_call 102;with_reducible refine ku (HC.out _ _ _ (aC.gb hb2 Gb.g) (aC.gb hb3 Gb.g)) fun n4 uX=>?_;have BK:=uX.FW w))
 all_goals go_wp2
 all_goals
  refine bodyPost_ret (v:=.tuple #[.agg #[J 0,aB b1 k1 q1,J 0,Y X],Y t]) (by simp[results,Tryz.results80,go_sem,BK,hd]) rfl ⟨b1,k1,q1,?_,rfl,?_⟩
  ·exact(aC.gb hb2 Gb.g).Uw BK.1 BK.2.2.1 BK.2.2.2.2.1 BK.2.2.2.2.2.2.1
  ·exact Gb.g
theorem aC.aHT(h:aC K w v N)(hq:∀d,q≠ .int .u32 d)(h0:aj w r 0 (J x0))(h1:aj w r 1 q)(h2:aj w r 2 (J x2))(h3:aj w r 3 (Y x3)):
  aC K ((((w.setCell ⟨r,0,O⟩ u0).setCell ⟨r,1,O⟩ u1).setCell ⟨r,2,O⟩ u2).setCell ⟨r,3,O⟩ u3) v N:=
 (((h.st u0 h0 (fun d e=>by cases e)).st u1 (aQ om h1) hq).st u2 (aQ om (aQ om h2)) (fun d e=>by cases e)).st u3 (aQ om (aQ om (aQ om h3))) (fun d e=>by cases e)
theorem aBK(kind a an B d:Int)(N M L:Nat)(t:Bool)(B0:0<B)(hd:decide (d<=0)=t)(ha:decide (9223372036854775808<=a)=true)(han:IntKind.u64.wrap (0-a)=an)(aKD:IntKind.u64.wrap (-a)=an)(HK:kX kind B true)(HB:Hid (∀w,CT 100 #[.int .u64 a] w (qh 2 N w)))(HB2:Hid (∀w,CT 100 #[.int .u64 an] w (qh 2 M w)))(HT:KW 120 #[J 63] (.int .u64 9223372036854775808))(HM:Hid (∀w,CT 131 #[J kind,J 1] w (qh 20 L w)))(HC:Hid (∀v v' w,aC 2 w v M->aC 20 w v' L->QB 102 #[v,v'] w (J d)))(w:World):
  CT 80 #[J kind,.int .u64 a] w fun e w'=>∃b k c,aC 2 w' (aB b k c) M/\e=.returned (.tuple #[.agg #[J 1,aB b k c,J 0,Y X],Y t])/\Gb w w':=by
 go_enter func80,ntmps80;go_upto_region 3 with(first
  |(go_at_call 129;refine kw (HK _) ?_)
  |(go_at_call 100;refine(HB _).mono ?_;rintro e n1 ⟨b1,k1,q1,hb1,rfl,mV⟩;have t_:=mV.FW w;have hz1:=au t_.1))
 obtain⟨w2,hw2⟩:∃w2,n1.alloc (.cells #[J 0,aB b1 k1 q1,J 0,Y X] 109)=w2:=⟨_,rfl⟩;have aA:Gb n1 w2:=by rw[<-hw2];exact(Gb.refl _).alloc _
 have hb2:aC 2 w2 (aB b1 k1 q1) N:=aC.gb hb1 aA;have x0:w2.cell? ⟨n1.heap.size,0,O⟩=V (J 0):=by rw[<-hw2];simp[go_sem]
 have x1:w2.cell? ⟨n1.heap.size,1,O⟩=V (aB b1 k1 q1):=by rw[<-hw2];simp[go_sem]
 have x2:w2.cell? ⟨n1.heap.size,2,O⟩=V (J 0):=by rw[<-hw2];simp[go_sem]
 have x3:w2.cell? ⟨n1.heap.size,3,O⟩=V (Y X):=by rw[<-hw2];simp[go_sem]
 have xz0:bK w2 n1.heap.size 0:=by rw[<-hw2];simp[go_sem]
 have xz1:bK w2 n1.heap.size 1:=by rw[<-hw2];simp[go_sem]
 have xz2:bK w2 n1.heap.size 2:=by rw[<-hw2];simp[go_sem]
 have xz3:bK w2 n1.heap.size 3:=by rw[<-hw2];simp[go_sem]
 have hz2:n1.heap.size<w2.heap.size:=by rw[<-hw2];simp
 rw[hw2];clear hw2;have:=aA.FW w;have hgw:Gb w w2:=Gb.g;go_upto_region 5 with(first
  |(go_at_call 120;refine kw (HT _) ?_)
  |(go_at_call 100;refine(HB2 _).mono ?_;rintro e n5 ⟨b5,k5,q5,hb5,rfl,Hw⟩;have:=Hw.FW w;have px0:=Hw.FW n1;have Q_:=au px0.1))
 obtain⟨w6,hw6⟩:∃w6,(((n5.setCell ⟨n1.heap.size,0,O⟩ (J 1)).setCell ⟨n1.heap.size,1,O⟩ (aB b5 k5 q5)).setCell ⟨n1.heap.size,2,O⟩ (J 0)).setCell ⟨n1.heap.size,3,O⟩ (Y X)=w6:=⟨_,rfl⟩;have aFd:Gb w n5:=Gb.g;have hlt:w.heap.size<=n1.heap.size:=om;have b_:Gb w w6:=by
  rw[<-hw6];exact(((aFd.setCell (a:=⟨n1.heap.size,0,O⟩) hlt _).setCell (a:=⟨n1.heap.size,1,O⟩) hlt _).setCell (a:=⟨n1.heap.size,2,O⟩) hlt _).setCell (a:=⟨n1.heap.size,3,O⟩) hlt _
 have y0:w6.cell? ⟨n1.heap.size,0,O⟩=V (J 1):=by rw[<-hw6];exact kh
 have y1:w6.cell? ⟨n1.heap.size,1,O⟩=V (aB b5 k5 q5):=by rw[<-hw6];exact kh
 have y2:w6.cell? ⟨n1.heap.size,2,O⟩=V (J 0):=by rw[<-hw6];exact kh
 have y3:w6.cell? ⟨n1.heap.size,3,O⟩=V (Y X):=by rw[<-hw6];exact kh
 have hb6:aC 2 w6 (aB b5 k5 q5) M:=by rw[<-hw6];exact hb5.aHT (fun d e=>by cases e) px0.1 px0.2.2.1 px0.2.2.2.2.1 px0.2.2.2.2.2.2.1
 have tr0:w6.cell? ⟨w.heap.size,0,O⟩=V (J 0):=by rw[<-hw6];exact kh
 have tr1:w6.cell? ⟨w.heap.size,1,O⟩=V (.slice O 0 0):=by rw[<-hw6];exact kh
 have tr2:w6.cell? ⟨w.heap.size,2,O⟩=V (J 0):=by rw[<-hw6];exact kh
 have tr3:w6.cell? ⟨w.heap.size,3,O⟩=V (Y X):=by rw[<-hw6];exact kh
 have aHR:bK w6 w.heap.size 0:=by rw[<-hw6];exact kh
 have aHQ:bK w6 w.heap.size 1:=by rw[<-hw6];exact kh
 have aJ4:bK w6 w.heap.size 2:=by rw[<-hw6];exact kh
 have aJ3:bK w6 w.heap.size 3:=by rw[<-hw6];exact kh
 rw[hw6];clear hw6;go_region_held3 (fun w'=>aj w' n1.heap.size 0 (J 1)/\aj w' n1.heap.size 1 (aB b5 k5 q5)/\aj w' n1.heap.size 2 (J 0)/\aj w' n1.heap.size 3 (Y X))
  (exact kZ)
  (first
   |(go_at_call 131;refine(HM _).mono ?_;rintro e n3 ⟨b3,k3,q3,hb3,rfl,zA⟩;have:=zA.FW w)
   |(go_at_call 102;with_reducible refine ku (HC.out _ _ _ (aC.gb hb6 Gb.g) (aC.gb hb3 Gb.g)) fun n4 uX=>?_;have BK:=uX.FW w))
 all_goals go_wp2
 all_goals
  refine bodyPost_ret (v:=.tuple #[.agg #[J 1,aB b5 k5 q5,J 0,Y X],Y t]) (by simp[results,Tryz.results80,go_sem,BK,hd]) rfl ⟨b5,k5,q5,?_,rfl,?_⟩
  ·exact(aC.gb hb6 Gb.g).Uw BK.1 BK.2.2.1 BK.2.2.2.2.1 BK.2.2.2.2.2.2.1
  ·exact Gb.g
section
attribute [local go_sem] undef
theorem aBI(kind a:Int)(M:Nat)(HK:kX kind 0 X)(HB:Hid (∀w,CT 100 #[.int .u64 a] w (qh 2 M w)))(w:World):
  CT 80 #[J kind,.int .u64 a] w fun e w'=>∃b k c,aC 2 w' (aB b k c) M/\e=.returned (.tuple #[.agg #[J 0,aB b k c,J 0,Y X],Y X])/\Gb w w':=by
 go_enter func80,ntmps80;go_upto_region 3 with(first
  |(go_at_call 129;refine kw (HK _) ?_)
  |(go_at_call 100;refine(HB _).mono ?_;rintro e n1 ⟨b1,k1,q1,hb1,rfl,mV⟩;have t_:=mV.FW w;have hz1:=au t_.1))
 obtain⟨w2,hw2⟩:∃w2,n1.alloc (.cells #[J 0,aB b1 k1 q1,J 0,Y X] 109)=w2:=⟨_,rfl⟩;have aA:Gb n1 w2:=by rw[<-hw2];exact(Gb.refl _).alloc _
 have hb2:aC 2 w2 (aB b1 k1 q1) M:=aC.gb hb1 aA;have x0:w2.cell? ⟨n1.heap.size,0,O⟩=V (J 0):=by rw[<-hw2];simp[go_sem]
 have x1:w2.cell? ⟨n1.heap.size,1,O⟩=V (aB b1 k1 q1):=by rw[<-hw2];simp[go_sem]
 have x2:w2.cell? ⟨n1.heap.size,2,O⟩=V (J 0):=by rw[<-hw2];simp[go_sem]
 have x3:w2.cell? ⟨n1.heap.size,3,O⟩=V (Y X):=by rw[<-hw2];simp[go_sem]
 have hz2:n1.heap.size<w2.heap.size:=by rw[<-hw2];simp
 rw[hw2];clear hw2;have Jl:=aA.FW w;have hgw:Gb w w2:=Gb.g;go_wp2;first
  |go_region
  |fail
 all_goals go_wp2
 all_goals
  refine bodyPost_ret (v:=.tuple #[.agg #[J 0,aB b1 k1 q1,J 0,Y X],Y X]) (by simp[results,Tryz.results80,go_sem,Jl]) rfl ⟨b1,k1,q1,?_,rfl,?_⟩
  ·exact(aC.gb hb2 Gb.g).Uw Jl.1 Jl.2.2.1 Jl.2.2.2.2.1 Jl.2.2.2.2.2.2.1
  ·exact Gb.g
end
def ql(kind a:Int):bZ:=if d_ kind a=0 then⟨0,0,0,0⟩else⟨1,cu kind a,0,d_ kind a⟩
def dU(f mode kind a Z fl:Int):Prop:=
 (∃p mx one inf sg nan,aP f p mx one inf sg nan/\(0<=mode/\mode<=4)/\dZ kind a=true/\bW p (1-mx) mx one inf sg nan mode (ql kind a) Z fl)\/
 (∃p mx one inf sg nan,aP f p mx one inf sg nan/\(¬(0<=mode/\mode<=4)\/dZ kind a=X)/\Z=nan/\fl=1)\/
 (¬(f=0\/f=1)/\Z=9221120237041090560/\fl=1)
theorem dU.one(h:dU f mode kind a Z fl)(h':dU f mode kind a Z' oQ):Z=Z'/\fl=oQ:=by
 rcases h with⟨p,mx,one,inf,sg,nan,hF,hm,hk,hp⟩|⟨p,mx,one,inf,sg,nan,hF,hm,rfl,rfl⟩|⟨hF,rfl,rfl⟩<;>
 rcases h' with⟨p',mx',one',inf',SS,nan',hF',hm',hk',hp'⟩|⟨p',mx',one',inf',SS,nan',hF',hm',rfl,rfl⟩|⟨hF',rfl,rfl⟩
 ·obtain⟨rfl,rfl,rfl,rfl,rfl,rfl⟩:=hF.one hF';exact bW.one hp hp'
 ·exfalso;rcases hm' with h|h
  ·exact h hm
  ·rw[hk]at h;cases h
 ·exact absurd hF.yes.symm (by simp[hF'])
 ·exfalso;rcases hm with h|h
  ·exact h hm'
  ·rw[hk']at h;cases h
 ·obtain⟨rfl,rfl,rfl,rfl,rfl,rfl⟩:=hF.one hF';exact⟨rfl,rfl⟩
 ·exact absurd hF.yes.symm (by simp[hF'])
 ·exact absurd hF'.yes.symm (by simp[hF])
 ·exact absurd hF'.yes.symm (by simp[hF])
 ·exact⟨rfl,rfl⟩
theorem Zj(kind a:Int):0<=(ql kind a).c /\(ql kind a).c <=4:=by unfold ql;split<;>(dsimp only;omega)
theorem Du(f mode kind a:Int):∃Z fl,dU f mode kind a Z fl:=by
 by_cases hf:f=0\/f=1
 ·obtain⟨p,mx,one,inf,sg,nan,hF⟩:=iC f hf;by_cases hm:0<=mode/\mode<=4
  ·cases hk:dZ kind a
   ·exact⟨_,_,.inr (.inl ⟨p,mx,one,inf,sg,nan,hF,.inr hk,rfl,rfl⟩)⟩
   ·obtain⟨Z,fl,hp⟩:=Ja p (1-mx) mx one inf sg nan mode _ (Zj kind a).1 (Zj kind a).2;exact⟨Z,fl,.inl ⟨p,mx,one,inf,sg,nan,hF,hm,hk,hp⟩⟩
  ·exact⟨_,_,.inr (.inl ⟨p,mx,one,inf,sg,nan,hF,.inl hm,rfl,rfl⟩)⟩
 ·exact⟨_,_,.inr (.inr ⟨hf,rfl,rfl⟩)⟩
theorem aCe(M L:Nat):decide (fH M L<=0)=decide (M<=L):=by
 unfold fH;by_cases h:M<=L
 ·rw[decide_eq_true h,decide_eq_true];split<;>(try split)<;>omega
 ·rw[decide_eq_false h,decide_eq_false];rw[if_neg om,if_pos (by omega)];omega
theorem VD(kind a:Int)(a0:0<=a)(a1:a<18446744073709551616)(w:World):
  CT 80 #[J kind,.int .u64 a] w fun e w'=>∃b k c,aC 2 w' (aB b k c) (d_ kind a)/\e=.returned (.tuple #[.agg #[J (cu kind a),aB b k c,J 0,Y X],Y (dZ kind a)])/\Gb w w':=by
 have HB:∀(v:Int) (N:Nat),v=(N:Int)->N<18446744073709551616->Hid (∀w,CT 100 #[.int .u64 v] w (qh 2 N w)):=by
  intro v N e h w;subst e;exact dV ((fC N h w).mono (fun e w' ⟨v,k,c1,c2,c3,c4⟩=>⟨v,k,c1,c2,om,c4⟩))
 have HM:∀s,s=0\/s=1->Hid (∀w,CT 131 #[J kind,J s] w (qh 20 (bG kind s) w)):=fun s hs w=>sS kind s hs w;have HC:∀M L:Nat,Hid (∀v v' w,aC 2 w v M->aC 20 w v' L->QB 102 #[v,v'] w (J (fH M L))):=fun M L v v' w ⟨n,h1,h2⟩ ⟨n',h1',h2'⟩=>gV h2 om h2' om;have HT:KW 120 #[J 63] (.int .u64 9223372036854775808):=fun w=>gU 63 _ om de w;have ht:a=((a.toNat:Nat):Int):=om;have kd:∀B S,lD kind=B->wP kind=S->kX kind B S:=by
  intro B S e1 e2 w;rw[<-e1,<-e2];exact jC kind w
 by_cases hk:0<=kind/\kind<=3
 ·have hB:0<lD kind:=by rcases(show kind=0\/kind=1\/kind=2\/kind=3 by omega)with rfl|rfl|rfl|rfl<;>decide
  have ft:decide (fH (d_ kind a) (bG kind (cu kind a))<=0)=dZ kind a:=by
   rw[aCe];unfold dZ;rw[decide_eq_decide];exact⟨fun h=>⟨hk,h⟩,fun h=>h.2⟩
  by_cases hs:kind=0\/kind=1
  ·have hS:wP kind=true:=by unfold wP;exact decide_eq_true hs
   by_cases hh:9223372036854775808<=a
   ·have e1:cu kind a=1:=by unfold cu;rw[if_pos ⟨hs,hh⟩]
    have e2:d_ kind a=(18446744073709551616-a).toNat :=by unfold d_;rw[if_pos ⟨hs,hh⟩]
    have hw1:IntKind.u64.wrap (0-a)=18446744073709551616-a:=wu;have hw2:IntKind.u64.wrap (-a)=18446744073709551616-a:=wu;rw[e1]at ft⊢
    exact aBK kind a (18446744073709551616-a) (lD kind) _ a.toNat _ _ _ hB ft (decide_eq_true hh) hw1 hw2 (kd _ _ rfl hS) (HB a _ ht om) (HB _ _ (by rw[e2];omega) (vY kind a a0 a1)) HT (HM 1 (.inr rfl)) (HC _ _) w
   ·have e1:cu kind a=0:=by unfold cu;rw[if_neg (fun h=>hh h.2)]
    have e2:d_ kind a=a.toNat:=by unfold d_;rw[if_neg (fun h=>hh h.2)]
    rw[e1]at ft⊢
    exact TA kind a (lD kind) _ _ _ _ hB ft (decide_eq_false hh) (kd _ _ rfl hS) (HB a _ (by rw[e2];exact ht) (vY kind a a0 a1)) HT (HM 0 (.inl rfl)) (HC _ _) w
  ·have hS:wP kind=X:=by unfold wP;exact decide_eq_false hs
   have e1:cu kind a=0:=by unfold cu;rw[if_neg (fun h=>hs h.1)]
   have e2:d_ kind a=a.toNat:=by unfold d_;rw[if_neg (fun h=>hs h.1)]
   rw[e1]at ft⊢
   exact aBJ kind a (lD kind) _ _ _ _ hB ft (kd _ _ rfl hS) (HB a _ (by rw[e2];exact ht) (vY kind a a0 a1)) (HM 0 (.inl rfl)) (HC _ _) w
 ·have hs:¬(kind=0\/kind=1):=om;have e1:cu kind a=0:=by unfold cu;rw[if_neg (fun h=>hs h.1)]
  have e2:d_ kind a=a.toNat:=by unfold d_;rw[if_neg (fun h=>hs h.1)]
  have e3:dZ kind a=X:=by unfold dZ;exact decide_eq_false (fun h=>hk h.1)
  rw[e1,e3];exact aBI kind a _ (kd _ _ (by unfold lD;rw[if_neg om,if_neg (by omega)]) (by unfold wP;exact decide_eq_false hs)) (HB a _ (by rw[e2];exact ht) (vY kind a a0 a1)) w
theorem g_(f mode kind a:Int)(a0:0<=a)(a1:a<18446744073709551616)(w:World):
  CT 36 #[J f,J mode,J kind,.int .u64 a] w fun e w'=>∃Z fl,dU f mode kind a Z fl/\e=.returned (aK Z fl)/\Gb w w':=by
 have HX:∀t,dZ kind a=t->Hid (∀w,CT 80 #[J kind,.int .u64 a] w fun e w'=>∃b k c,aC 2 w' (aB b k c) (d_ kind a)/\e=.returned (.tuple #[.agg #[J (cu kind a),aB b k c,J 0,Y X],Y t])/\Gb w w'):=fun t ht w=>ht▸VD kind a a0 a1 w;have fin:∀Z fl,dU f mode kind a Z fl->(QB 36 #[J f,J mode,J kind,.int .u64 a] w (aK Z fl))->CT 36 #[J f,J mode,J kind,.int .u64 a] w fun e w'=>∃Z fl,dU f mode kind a Z fl/\e=.returned (aK Z fl)/\Gb w w':=fun Z fl hp h=>h.mono (fun e w' ⟨h1,h2⟩=>⟨Z,fl,hp,h1,h2⟩);by_cases hf:f=0\/f=1
 ·obtain⟨p,mx,one,inf,sg,nan,hF⟩:=iC f hf;cases hk:dZ kind a
  ·exact fin nan 1 (.inr (.inl ⟨p,mx,one,inf,sg,nan,hF,.inr hk,rfl,rfl⟩)) (Ei f mode kind a _ nan 1 _ (HX X hk) (fun w=>dI hF w) w)
  ·have HFm:KW 81 #[J f] (Y true):=fun w=>iq f true (by simp[hf]) w;by_cases hm:0<=mode/\mode<=4
   ·have HWy:KW 82 #[J mode] (Y true):=fun w=>jK mode true (by simp[hm]) w;rcases Nat.eq_zero_or_pos (d_ kind a)with h0|h0
    ·refine fin (sw 0 sg 0) 0 (.inl ⟨p,mx,one,inf,sg,nan,hF,hm,hk,?_⟩) (Pv f mode kind a _ _ _ _ h0 (HX true hk) HFm HWy (fun w=>iy hF 0 (.inl rfl) w) w);unfold ql;rw[if_pos h0];exact .inl ⟨rfl,rfl,rfl⟩
    ·refine(GN f mode kind a _ _ h0 (HX true hk) HFm HWy (bW p (1-mx) mx one inf sg nan mode ⟨1,cu kind a,0,d_ kind a⟩) (fun v w hB=>mF hF mode hm.1 hm.2 ⟨1,cu kind a,0,d_ kind a⟩ rfl (D8 kind a) h0 (by dsimp only;omega) (by dsimp only;omega) 2 om v w hB) w).mono ?_;rintro e w' ⟨Z,fl,hp,rfl,hg⟩;refine⟨Z,fl,.inl ⟨p,mx,one,inf,sg,nan,hF,hm,hk,?_⟩,rfl,hg⟩;unfold ql;rw[if_neg (by omega)];exact hp
   ·exact fin nan 1 (.inr (.inl ⟨p,mx,one,inf,sg,nan,hF,.inl hm,rfl,rfl⟩)) (Px f mode kind a _ nan 1 _ (HX true hk) HFm (fun w=>jK mode X (by simp;omega) w) (fun w=>dI hF w) w)
 ·have hL:nH f 9221120237041090560 1:=fun w=>oC f hf w;cases hk:dZ kind a
  ·exact fin _ 1 (.inr (.inr ⟨hf,rfl,rfl⟩)) (Ei f mode kind a _ _ 1 _ (HX X hk) hL w)
  ·exact fin _ 1 (.inr (.inr ⟨hf,rfl,rfl⟩)) (Py f mode kind a _ _ 1 _ (HX true hk) (fun w=>iq f X (by simp;omega) w) hL w)
