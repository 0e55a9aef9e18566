import Derived.Test.YtmiekgjgpmfekaaGreatDoorL5ZT
set_option linter.all false
set_option maxRecDepth 1000000
set_option maxHeartbeats 40000000
open Option renaming none → E, some → D
open Bool renaming false → U, true → H
open Go.Proofs.YtmiekgjgpmfekaaGreatDoor renaming vI → J
open Go.Value renaming int → Y, bool → V
open Go.IntKind renaming u64 → O
open Go.Ending renaming returned → X
open Go.Proofs.Tryz
namespace Go.Proofs.YtmiekgjgpmfekaaGreatDoor
open Go.RowKit
attribute [local go_sem] aj bG
variable{f p mx inf sg nan mode a Z fl s x0 x2 kind Z' pO:Int}{K N r:Nat}{w:World}{v q u0 u1 u2 u3:Value}{x3:Bool}
theorem aCA(kind a B d:Int)(M L:Nat)(t:Bool)(B0:0<B)(hd:decide (d<=0)=t)(HK:lM kind B U)(HB:Hid (∀w,CT 100 #[Y O a] w (qK 2 M w)))(HM:Hid (∀w,CT 131 #[J kind,J 0] w (qK 20 L w)))(HC:Hid (∀v v' w,aF 2 w v M->aF 20 w v' L->QB 102 #[v,v'] w (J d)))(w:World):
  CT 80 #[J kind,Y O a] w fun e w'=>∃b k c,aF 2 w' (aB b k c) M/\e=X (.tuple #[.agg #[J 0,aB b k c,J 0,V U],V t])/\Gb w w':=by
 go_enter func80,ntmps80;go_upto_region 3 with(first
  |(go_at_call 129;refine kw (HK _) ?_)
  |(go_at_call 100;refine(HB _).mono ?_;rintro e n1 ⟨b1,k1,q1,hb1,rfl,nM⟩;have qO:=nM.Gs w;have hz1:=au qO.1))
 obtain⟨w2,hw2⟩:∃w2,n1.alloc (.cells #[J 0,aB b1 k1 q1,J 0,V U] 109)=w2:=⟨_,rfl⟩;have aA:Gb n1 w2:=by rw[<-hw2];exact(Gb.refl _).alloc _
 have hb2:aF 2 w2 (aB b1 k1 q1) M:=aF.gb hb1 aA;have x0:w2.cell? ⟨n1.heap.size,0,E⟩=D (J 0):=by rw[<-hw2];simp[go_sem]
 have x1:w2.cell? ⟨n1.heap.size,1,E⟩=D (aB b1 k1 q1):=by rw[<-hw2];simp[go_sem]
 have x2:w2.cell? ⟨n1.heap.size,2,E⟩=D (J 0):=by rw[<-hw2];simp[go_sem]
 have x3:w2.cell? ⟨n1.heap.size,3,E⟩=D (V U):=by rw[<-hw2];simp[go_sem]
 have hz2:n1.heap.size<w2.heap.size:=by rw[<-hw2];simp
 rw[hw2];clear hw2;have:=aA.Gs w;have hgw:Gb w w2:=Gb.g;go_wp2;go_region_held3 (fun w'=>aj w' n1.heap.size 0 (J 0)/\aj w' n1.heap.size 1 (aB b1 k1 q1)/\aj w' n1.heap.size 2 (J 0)/\aj w' n1.heap.size 3 (V U))
  (exact kX)
  (first
   |(go_at_call 131;refine(HM _).mono ?_;rintro e n3 ⟨b3,k3,q3,hb3,rfl,z_⟩;have:=z_.Gs w)
   |(go_at_call 102;with_reducible refine ku (HC.out _ _ _ (aF.gb hb2 Gb.g) (aF.gb hb3 Gb.g)) fun n4 vZ=>?_;have AQ:=vZ.Gs w))
 all_goals go_wp2
 all_goals
  refine bodyPost_ret (v:=.tuple #[.agg #[J 0,aB b1 k1 q1,J 0,V U],V t]) (by simp[results,Tryz.results80,go_sem,AQ,hd]) rfl ⟨b1,k1,q1,?_,rfl,?_⟩
  ·exact(aF.gb hb2 Gb.g).Vj AQ.1 AQ.2.2.1 AQ.2.2.2.2.1 AQ.2.2.2.2.2.2.1
  ·exact Gb.g
theorem aF.aIZ(h:aF K w v N)(hq:∀d,q≠Y .u32 d)(h0:aj w r 0 (J x0))(h1:aj w r 1 q)(h2:aj w r 2 (J x2))(h3:aj w r 3 (V x3)):
  aF K ((((w.setCell ⟨r,0,E⟩ u0).setCell ⟨r,1,E⟩ u1).setCell ⟨r,2,E⟩ u2).setCell ⟨r,3,E⟩ u3) v N:=
 (((h.st u0 h0 (fun d e=>by cases e)).st u1 (aS om h1) hq).st u2 (aS om (aS om h2)) (fun d e=>by cases e)).st u3 (aS om (aS om (aS om h3))) (fun d e=>by cases e)
theorem aCB(kind a an B d:Int)(N M L:Nat)(t:Bool)(B0:0<B)(hd:decide (d<=0)=t)(ha:decide (9223372036854775808<=a)=H)(han:IntKind.u64.wrap (0-a)=an)(aLo:IntKind.u64.wrap (-a)=an)(HK:lM kind B H)(HB:Hid (∀w,CT 100 #[Y O a] w (qK 2 N w)))(HB2:Hid (∀w,CT 100 #[Y O an] w (qK 2 M w)))(HT:KW 120 #[J 63] (Y O 9223372036854775808))(HM:Hid (∀w,CT 131 #[J kind,J 1] w (qK 20 L w)))(HC:Hid (∀v v' w,aF 2 w v M->aF 20 w v' L->QB 102 #[v,v'] w (J d)))(w:World):
  CT 80 #[J kind,Y O a] w fun e w'=>∃b k c,aF 2 w' (aB b k c) M/\e=X (.tuple #[.agg #[J 1,aB b k c,J 0,V U],V t])/\Gb w w':=by
 go_enter func80,ntmps80;go_upto_region 3 with(first
  |(go_at_call 129;refine kw (HK _) ?_)
  |(go_at_call 100;refine(HB _).mono ?_;rintro e n1 ⟨b1,k1,q1,hb1,rfl,nM⟩;have qO:=nM.Gs w;have hz1:=au qO.1))
 obtain⟨w2,hw2⟩:∃w2,n1.alloc (.cells #[J 0,aB b1 k1 q1,J 0,V U] 109)=w2:=⟨_,rfl⟩;have aA:Gb n1 w2:=by rw[<-hw2];exact(Gb.refl _).alloc _
 have hb2:aF 2 w2 (aB b1 k1 q1) N:=aF.gb hb1 aA;have x0:w2.cell? ⟨n1.heap.size,0,E⟩=D (J 0):=by rw[<-hw2];simp[go_sem]
 have x1:w2.cell? ⟨n1.heap.size,1,E⟩=D (aB b1 k1 q1):=by rw[<-hw2];simp[go_sem]
 have x2:w2.cell? ⟨n1.heap.size,2,E⟩=D (J 0):=by rw[<-hw2];simp[go_sem]
 have x3:w2.cell? ⟨n1.heap.size,3,E⟩=D (V U):=by rw[<-hw2];simp[go_sem]
 have xz0:bG w2 n1.heap.size 0:=by rw[<-hw2];simp[go_sem]
 have XB:bG w2 n1.heap.size 1:=by rw[<-hw2];simp[go_sem]
 have xz2:bG w2 n1.heap.size 2:=by rw[<-hw2];simp[go_sem]
 have xz3:bG w2 n1.heap.size 3:=by rw[<-hw2];simp[go_sem]
 have hz2:n1.heap.size<w2.heap.size:=by rw[<-hw2];simp
 rw[hw2];clear hw2;have:=aA.Gs w;have hgw:Gb w w2:=Gb.g;go_upto_region 5 with(first
  |(go_at_call 120;refine kw (HT _) ?_)
  |(go_at_call 100;refine(HB2 _).mono ?_;rintro e n5 ⟨b5,k5,q5,hb5,rfl,IB⟩;have:=IB.Gs w;have px0:=IB.Gs n1;have Lc:=au px0.1))
 obtain⟨w6,hw6⟩:∃w6,(((n5.setCell ⟨n1.heap.size,0,E⟩ (J 1)).setCell ⟨n1.heap.size,1,E⟩ (aB b5 k5 q5)).setCell ⟨n1.heap.size,2,E⟩ (J 0)).setCell ⟨n1.heap.size,3,E⟩ (V U)=w6:=⟨_,rfl⟩;have Xe:Gb w n5:=Gb.g;have hlt:w.heap.size<=n1.heap.size:=om;have bJ:Gb w w6:=by
  rw[<-hw6];exact(((Xe.setCell (a:=⟨n1.heap.size,0,E⟩) hlt _).setCell (a:=⟨n1.heap.size,1,E⟩) hlt _).setCell (a:=⟨n1.heap.size,2,E⟩) hlt _).setCell (a:=⟨n1.heap.size,3,E⟩) hlt _
 have y0:w6.cell? ⟨n1.heap.size,0,E⟩=D (J 1):=by rw[<-hw6];exact kh
 have y1:w6.cell? ⟨n1.heap.size,1,E⟩=D (aB b5 k5 q5):=by rw[<-hw6];exact kh
 have y2:w6.cell? ⟨n1.heap.size,2,E⟩=D (J 0):=by rw[<-hw6];exact kh
 have y3:w6.cell? ⟨n1.heap.size,3,E⟩=D (V U):=by rw[<-hw6];exact kh
 have hb6:aF 2 w6 (aB b5 k5 q5) M:=by rw[<-hw6];exact hb5.aIZ (fun d e=>by cases e) px0.1 px0.2.2.1 px0.2.2.2.2.1 px0.2.2.2.2.2.2.1
 have tr0:w6.cell? ⟨w.heap.size,0,E⟩=D (J 0):=by rw[<-hw6];exact kh
 have tr1:w6.cell? ⟨w.heap.size,1,E⟩=D (.slice E 0 0):=by rw[<-hw6];exact kh
 have tr2:w6.cell? ⟨w.heap.size,2,E⟩=D (J 0):=by rw[<-hw6];exact kh
 have tr3:w6.cell? ⟨w.heap.size,3,E⟩=D (V U):=by rw[<-hw6];exact kh
 have aKW:bG w6 w.heap.size 0:=by rw[<-hw6];exact kh
 have aKV:bG w6 w.heap.size 1:=by rw[<-hw6];exact kh
 have aKU:bG w6 w.heap.size 2:=by rw[<-hw6];exact kh
 have aKT:bG w6 w.heap.size 3:=by rw[<-hw6];exact kh
 rw[hw6];clear hw6;go_region_held3 (fun w'=>aj w' n1.heap.size 0 (J 1)/\aj w' n1.heap.size 1 (aB b5 k5 q5)/\aj w' n1.heap.size 2 (J 0)/\aj w' n1.heap.size 3 (V U))
  (exact kX)
  (first
   |(go_at_call 131;refine(HM _).mono ?_;rintro e n3 ⟨b3,k3,q3,hb3,rfl,z_⟩;have:=z_.Gs w)
   |(go_at_call 102;with_reducible refine ku (HC.out _ _ _ (aF.gb hb6 Gb.g) (aF.gb hb3 Gb.g)) fun n4 vZ=>?_;have AQ:=vZ.Gs w))
 all_goals go_wp2
 all_goals
  refine bodyPost_ret (v:=.tuple #[.agg #[J 1,aB b5 k5 q5,J 0,V U],V t]) (by simp[results,Tryz.results80,go_sem,AQ,hd]) rfl ⟨b5,k5,q5,?_,rfl,?_⟩
  ·exact(aF.gb hb6 Gb.g).Vj AQ.1 AQ.2.2.1 AQ.2.2.2.2.1 AQ.2.2.2.2.2.2.1
  ·exact Gb.g
section
attribute [local go_sem] undef
theorem aCz(kind a:Int)(M:Nat)(HK:lM kind 0 U)(HB:Hid (∀w,CT 100 #[Y O a] w (qK 2 M w)))(w:World):
  CT 80 #[J kind,Y O a] w fun e w'=>∃b k c,aF 2 w' (aB b k c) M/\e=X (.tuple #[.agg #[J 0,aB b k c,J 0,V U],V U])/\Gb w w':=by
 go_enter func80,ntmps80;go_upto_region 3 with(first
  |(go_at_call 129;refine kw (HK _) ?_)
  |(go_at_call 100;refine(HB _).mono ?_;rintro e n1 ⟨b1,k1,q1,hb1,rfl,nM⟩;have qO:=nM.Gs w;have hz1:=au qO.1))
 obtain⟨w2,hw2⟩:∃w2,n1.alloc (.cells #[J 0,aB b1 k1 q1,J 0,V U] 109)=w2:=⟨_,rfl⟩;have aA:Gb n1 w2:=by rw[<-hw2];exact(Gb.refl _).alloc _
 have hb2:aF 2 w2 (aB b1 k1 q1) M:=aF.gb hb1 aA;have x0:w2.cell? ⟨n1.heap.size,0,E⟩=D (J 0):=by rw[<-hw2];simp[go_sem]
 have x1:w2.cell? ⟨n1.heap.size,1,E⟩=D (aB b1 k1 q1):=by rw[<-hw2];simp[go_sem]
 have x2:w2.cell? ⟨n1.heap.size,2,E⟩=D (J 0):=by rw[<-hw2];simp[go_sem]
 have x3:w2.cell? ⟨n1.heap.size,3,E⟩=D (V U):=by rw[<-hw2];simp[go_sem]
 have hz2:n1.heap.size<w2.heap.size:=by rw[<-hw2];simp
 rw[hw2];clear hw2;have JM:=aA.Gs w;have hgw:Gb w w2:=Gb.g;go_wp2;first
  |go_region
  |fail
 all_goals go_wp2
 all_goals
  refine bodyPost_ret (v:=.tuple #[.agg #[J 0,aB b1 k1 q1,J 0,V U],V U]) (by simp[results,Tryz.results80,go_sem,JM]) rfl ⟨b1,k1,q1,?_,rfl,?_⟩
  ·exact(aF.gb hb2 Gb.g).Vj JM.1 JM.2.2.1 JM.2.2.2.2.1 JM.2.2.2.2.2.2.1
  ·exact Gb.g
end
def qP(kind a:Int):cu:=if eG kind a=0 then⟨0,0,0,0⟩else⟨1,cO kind a,0,eG kind a⟩
def dU(f mode kind a Z fl:Int):Prop:=
 (∃p mx one inf sg nan,aQ f p mx one inf sg nan/\(0<=mode/\mode<=4)/\d_ kind a=H/\b_ p (1-mx) mx one inf sg nan mode (qP kind a) Z fl)\/
 (∃p mx one inf sg nan,aQ f p mx one inf sg nan/\(¬(0<=mode/\mode<=4)\/d_ kind a=U)/\Z=nan/\fl=1)\/
 (¬(f=0\/f=1)/\Z=9221120237041090560/\fl=1)
theorem dU.one(h:dU f mode kind a Z fl)(h':dU f mode kind a Z' pO):Z=Z'/\fl=pO:=by
 rcases h with⟨p,mx,one,inf,sg,nan,hF,hm,hk,hp⟩|⟨p,mx,one,inf,sg,nan,hF,hm,rfl,rfl⟩|⟨hF,rfl,rfl⟩<;>
 rcases h' with⟨p',mx',one',inf',Ua,nan',hF',hm',hk',hp'⟩|⟨p',mx',one',inf',Ua,nan',hF',hm',rfl,rfl⟩|⟨hF',rfl,rfl⟩
 ·obtain⟨rfl,rfl,rfl,rfl,rfl,rfl⟩:=hF.one hF';exact b_.one hp hp'
 ·exfalso;rcases hm' with h|h
  ·exact h hm
  ·rw[hk]at h;cases h
 ·exact absurd hF.yes.symm (by simp[hF'])
 ·exfalso;rcases hm with h|h
  ·exact h hm'
  ·rw[hk']at h;cases h
 ·obtain⟨rfl,rfl,rfl,rfl,rfl,rfl⟩:=hF.one hF';exact⟨rfl,rfl⟩
 ·exact absurd hF.yes.symm (by simp[hF'])
 ·exact absurd hF'.yes.symm (by simp[hF])
 ·exact absurd hF'.yes.symm (by simp[hF])
 ·exact⟨rfl,rfl⟩
theorem aAb(kind a:Int):0<=(qP kind a).c /\(qP kind a).c <=4:=by unfold qP;split<;>(dsimp only;omega)
theorem D5(f mode kind a:Int):∃Z fl,dU f mode kind a Z fl:=by
 by_cases hf:f=0\/f=1
 ·obtain⟨p,mx,one,inf,sg,nan,hF⟩:=iG f hf;by_cases hm:0<=mode/\mode<=4
  ·cases hk:d_ kind a
   ·exact⟨_,_,.inr (.inl ⟨p,mx,one,inf,sg,nan,hF,.inr hk,rfl,rfl⟩)⟩
   ·obtain⟨Z,fl,hp⟩:=JC p (1-mx) mx one inf sg nan mode _ (aAb kind a).1 (aAb kind a).2;exact⟨Z,fl,.inl ⟨p,mx,one,inf,sg,nan,hF,hm,hk,hp⟩⟩
  ·exact⟨_,_,.inr (.inl ⟨p,mx,one,inf,sg,nan,hF,.inl hm,rfl,rfl⟩)⟩
 ·exact⟨_,_,.inr (.inr ⟨hf,rfl,rfl⟩)⟩
theorem aC5(M L:Nat):decide (fK M L<=0)=decide (M<=L):=by
 unfold fK;by_cases h:M<=L
 ·rw[decide_eq_true h,decide_eq_true];split<;>(try split)<;>omega
 ·rw[decide_eq_false h,decide_eq_false];rw[if_neg om,if_pos (by omega)];omega
theorem WC(kind a:Int)(a0:0<=a)(a1:a<18446744073709551616)(w:World):
  CT 80 #[J kind,Y O a] w fun e w'=>∃b k c,aF 2 w' (aB b k c) (eG kind a)/\e=X (.tuple #[.agg #[J (cO kind a),aB b k c,J 0,V U],V (d_ kind a)])/\Gb w w':=by
 have HB:∀(v:Int) (N:Nat),v=(N:Int)->N<18446744073709551616->Hid (∀w,CT 100 #[Y O v] w (qK 2 N w)):=by
  intro v N e h w;subst e;exact dV ((fE N h w).mono (fun e w' ⟨v,k,c1,c2,c3,c4⟩=>⟨v,k,c1,c2,om,c4⟩))
 have HM:∀s,s=0\/s=1->Hid (∀w,CT 131 #[J kind,J s] w (qK 20 (bK kind s) w)):=fun s hs w=>uq kind s hs w;have HC:∀M L:Nat,Hid (∀v v' w,aF 2 w v M->aF 20 w v' L->QB 102 #[v,v'] w (J (fK M L))):=fun M L v v' w ⟨n,h1,h2⟩ ⟨n',h1',h2'⟩=>gY h2 om h2' om;have HT:KW 120 #[J 63] (Y O 9223372036854775808):=fun w=>gX 63 _ om de w;have ht:a=((a.toNat:Nat):Int):=om;have kd:∀B S,lW kind=B->xJ kind=S->lM kind B S:=by
  intro B S e1 e2 w;rw[<-e1,<-e2];exact jH kind w
 by_cases hk:0<=kind/\kind<=3
 ·have hB:0<lW kind:=by rcases(show kind=0\/kind=1\/kind=2\/kind=3 by omega)with rfl|rfl|rfl|rfl<;>decide
  have ft:decide (fK (eG kind a) (bK kind (cO kind a))<=0)=d_ kind a:=by
   rw[aC5];unfold d_;rw[decide_eq_decide];exact⟨fun h=>⟨hk,h⟩,fun h=>h.2⟩
  by_cases hs:kind=0\/kind=1
  ·have hS:xJ kind=H:=by unfold xJ;exact decide_eq_true hs
   by_cases hh:9223372036854775808<=a
   ·have e1:cO kind a=1:=by unfold cO;rw[if_pos ⟨hs,hh⟩]
    have e2:eG kind a=(18446744073709551616-a).toNat :=by unfold eG;rw[if_pos ⟨hs,hh⟩]
    have hw1:IntKind.u64.wrap (0-a)=18446744073709551616-a:=wu;have hw2:IntKind.u64.wrap (-a)=18446744073709551616-a:=wu;rw[e1]at ft⊢
    exact aCB kind a (18446744073709551616-a) (lW kind) _ a.toNat _ _ _ hB ft (decide_eq_true hh) hw1 hw2 (kd _ _ rfl hS) (HB a _ ht om) (HB _ _ (by rw[e2];omega) (wW kind a a0 a1)) HT (HM 1 (.inr rfl)) (HC _ _) w
   ·have e1:cO kind a=0:=by unfold cO;rw[if_neg (fun h=>hh h.2)]
    have e2:eG kind a=a.toNat:=by unfold eG;rw[if_neg (fun h=>hh h.2)]
    rw[e1]at ft⊢
    exact Ut kind a (lW kind) _ _ _ _ hB ft (decide_eq_false hh) (kd _ _ rfl hS) (HB a _ (by rw[e2];exact ht) (wW kind a a0 a1)) HT (HM 0 (.inl rfl)) (HC _ _) w
  ·have hS:xJ kind=U:=by unfold xJ;exact decide_eq_false hs
   have e1:cO kind a=0:=by unfold cO;rw[if_neg (fun h=>hs h.1)]
   have e2:eG kind a=a.toNat:=by unfold eG;rw[if_neg (fun h=>hs h.1)]
   rw[e1]at ft⊢
   exact aCA kind a (lW kind) _ _ _ _ hB ft (kd _ _ rfl hS) (HB a _ (by rw[e2];exact ht) (wW kind a a0 a1)) (HM 0 (.inl rfl)) (HC _ _) w
 ·have hs:¬(kind=0\/kind=1):=om;have e1:cO kind a=0:=by unfold cO;rw[if_neg (fun h=>hs h.1)]
  have e2:eG kind a=a.toNat:=by unfold eG;rw[if_neg (fun h=>hs h.1)]
  have e3:d_ kind a=U:=by unfold d_;exact decide_eq_false (fun h=>hk h.1)
  rw[e1,e3];exact aCz kind a _ (kd _ _ (by unfold lW;rw[if_neg om,if_neg (by omega)]) (by unfold xJ;exact decide_eq_false hs)) (HB a _ (by rw[e2];exact ht) (wW kind a a0 a1)) w
theorem iw(f mode kind a:Int)(a0:0<=a)(a1:a<18446744073709551616)(w:World):
  CT 36 #[J f,J mode,J kind,Y O a] w fun e w'=>∃Z fl,dU f mode kind a Z fl/\e=X (aK Z fl)/\Gb w w':=by
 have HX:∀t,d_ kind a=t->Hid (∀w,CT 80 #[J kind,Y O a] w fun e w'=>∃b k c,aF 2 w' (aB b k c) (eG kind a)/\e=X (.tuple #[.agg #[J (cO kind a),aB b k c,J 0,V U],V t])/\Gb w w'):=fun t ht w=>ht▸WC kind a a0 a1 w;have fin:∀Z fl,dU f mode kind a Z fl->(QB 36 #[J f,J mode,J kind,Y O a] w (aK Z fl))->CT 36 #[J f,J mode,J kind,Y O a] w fun e w'=>∃Z fl,dU f mode kind a Z fl/\e=X (aK Z fl)/\Gb w w':=fun Z fl hp h=>h.mono (fun e w' ⟨h1,h2⟩=>⟨Z,fl,hp,h1,h2⟩);by_cases hf:f=0\/f=1
 ·obtain⟨p,mx,one,inf,sg,nan,hF⟩:=iG f hf;cases hk:d_ kind a
  ·exact fin nan 1 (.inr (.inl ⟨p,mx,one,inf,sg,nan,hF,.inr hk,rfl,rfl⟩)) (EK f mode kind a _ nan 1 _ (HX U hk) (fun w=>dJ hF w) w)
  ·have HFm:KW 81 #[J f] (V H):=fun w=>iE f H (by simp[hf]) w;by_cases hm:0<=mode/\mode<=4
   ·have HWy:KW 82 #[J mode] (V H):=fun w=>jS mode H (by simp[hm]) w;rcases Nat.eq_zero_or_pos (eG kind a)with h0|h0
    ·refine fin (sw 0 sg 0) 0 (.inl ⟨p,mx,one,inf,sg,nan,hF,hm,hk,?_⟩) (Qp f mode kind a _ _ _ _ h0 (HX H hk) HFm HWy (fun w=>iF hF 0 (.inl rfl) w) w);unfold qP;rw[if_pos h0];exact .inl ⟨rfl,rfl,rfl⟩
    ·refine(Ie f mode kind a _ _ h0 (HX H hk) HFm HWy (b_ p (1-mx) mx one inf sg nan mode ⟨1,cO kind a,0,eG kind a⟩) (fun v w hB=>nG hF mode hm.1 hm.2 ⟨1,cO kind a,0,eG kind a⟩ rfl (Ey kind a) h0 (by dsimp only;omega) (by dsimp only;omega) 2 om v w hB) w).mono ?_;rintro e w' ⟨Z,fl,hp,rfl,hg⟩;refine⟨Z,fl,.inl ⟨p,mx,one,inf,sg,nan,hF,hm,hk,?_⟩,rfl,hg⟩;unfold qP;rw[if_neg (by omega)];exact hp
   ·exact fin nan 1 (.inr (.inl ⟨p,mx,one,inf,sg,nan,hF,.inl hm,rfl,rfl⟩)) (Qq f mode kind a _ nan 1 _ (HX H hk) HFm (fun w=>jS mode U (by simp;omega) w) (fun w=>dJ hF w) w)
 ·have hL:nY f 9221120237041090560 1:=fun w=>oW f hf w;cases hk:d_ kind a
  ·exact fin _ 1 (.inr (.inr ⟨hf,rfl,rfl⟩)) (EK f mode kind a _ _ 1 _ (HX U hk) hL w)
  ·exact fin _ 1 (.inr (.inr ⟨hf,rfl,rfl⟩)) (Qr f mode kind a _ _ 1 _ (HX H hk) (fun w=>iE f U (by simp;omega) w) hL w)
theorem aDN{P:Prop}(h:P:=by
 have hh:¬9223372036854775808<=a:=om;unfold cO eG;rw[if_neg (fun k=>hh k.2),if_neg (fun k=>hh k.2)];exact⟨rfl,om⟩):P:=h
theorem qA(x y:Int):(x==y)=decide (x=y):=by by_cases h:x=y<;>simp[h]
theorem aKk(a:Int)(a0:0<=a)(a1:a<18446744073709551616):∃s m:Int,(d_ 0 a=H->s=cO 0 a/\m=((eG 0 a:Nat):Int))/\∀w,QR 260 #[.agg #[Y .i32 (-2147483648),Y .i32 2147483647],Y O a] w (.tuple #[J s,Y O m,V (d_ 0 a)]):=by
 obtain⟨x,hx⟩:∃x,IntKind.i32.wrap a=x:=⟨_,rfl⟩;have hx':=hx;rw[IntKind.wrap_i32]at hx';have hft:d_ 0 a=decide (IntKind.u64.wrap x=a):=by
  unfold d_;rw[IntKind.wrap_u64,decide_eq_decide];by_cases h:9223372036854775808<=a
  ·have e1:cO 0 a=1:=by unfold cO;rw[if_pos ⟨.inl rfl,h⟩]
   have e2:eG 0 a=(18446744073709551616-a).toNat :=by unfold eG;rw[if_pos ⟨.inl rfl,h⟩]
   rw[e1,e2,show bK 0 1=2147483648 by decide];omega
  ·have e1:cO 0 a=0:=by unfold cO;rw[if_neg (fun k=>h k.2)]
   have e2:eG 0 a=a.toNat:=by unfold eG;rw[if_neg (fun k=>h k.2)]
   rw[e1,e2,show bK 0 0=2147483647 by decide];omega
 have hd:=hft;rw[hd];by_cases c:x<0
 ·refine⟨1,IntKind.u64.wrap (-a),fun h=>?_,fun w=>Oy a x _ _ _ hx c rfl (qA _ _) rfl w⟩;have:=of_decide_eq_true h;rw[IntKind.wrap_u64]at this;have hh:9223372036854775808<=a:=om;unfold cO eG;rw[if_pos ⟨.inl rfl,hh⟩,if_pos ⟨.inl rfl,hh⟩,IntKind.wrap_u64];exact⟨rfl,om⟩
 ·refine⟨0,a,fun h=>?_,fun w=>Ox a x _ _ hx om rfl (qA _ _) w⟩;have:=of_decide_eq_true h;rw[IntKind.wrap_u64]at this;exact aDN
theorem aGq(a:Int)(a0:0<=a)(a1:a<18446744073709551616):∃s m:Int,(d_ 1 a=H->s=cO 1 a/\m=((eG 1 a:Nat):Int))/\∀w,QR 263 #[gW (-9223372036854775808) 9223372036854775807,Y O a] w (.tuple #[J s,Y O m,V (d_ 1 a)]):=by
 obtain⟨x,hx⟩:∃x,IntKind.i64.wrap a=x:=⟨_,rfl⟩;have hx':=hx;rw[IntKind.wrap_i64]at hx';have hft:d_ 1 a=decide (IntKind.u64.wrap x=a):=by
  unfold d_;rw[IntKind.wrap_u64,decide_eq_decide];by_cases h:9223372036854775808<=a
  ·have e1:cO 1 a=1:=by unfold cO;rw[if_pos ⟨.inr rfl,h⟩]
   have e2:eG 1 a=(18446744073709551616-a).toNat :=by unfold eG;rw[if_pos ⟨.inr rfl,h⟩]
   rw[e1,e2,show bK 1 1=9223372036854775808 by decide];omega
  ·have e1:cO 1 a=0:=by unfold cO;rw[if_neg (fun k=>h k.2)]
   have e2:eG 1 a=a.toNat:=by unfold eG;rw[if_neg (fun k=>h k.2)]
   rw[e1,e2,show bK 1 0=9223372036854775807 by decide];omega
 have hd:=hft;rw[hd];by_cases c:x<0
 ·refine⟨1,IntKind.u64.wrap (-a),fun h=>?_,fun w=>CX a x _ _ _ hx c rfl (qA _ _) rfl w⟩;have hh:9223372036854775808<=a:=om;unfold cO eG;rw[if_pos ⟨.inr rfl,hh⟩,if_pos ⟨.inr rfl,hh⟩,IntKind.wrap_u64];exact⟨rfl,om⟩
 ·refine⟨0,a,fun h=>?_,fun w=>CW a x _ _ hx om rfl (qA _ _) w⟩;exact aDN
theorem aKj(a:Int)(a0:0<=a)(a1:a<18446744073709551616):∃s m:Int,(d_ 2 a=H->s=cO 2 a/\m=((eG 2 a:Nat):Int))/\∀w,QR 265 #[.agg #[Y .u32 0,Y .u32 4294967295],Y O a] w (.tuple #[J s,Y O m,V (d_ 2 a)]):=by
 obtain⟨x,hx⟩:∃x,IntKind.u32.wrap a=x:=⟨_,rfl⟩;have hx':=hx;rw[IntKind.wrap_u32]at hx';have hsg:cO 2 a=0:=by unfold cO;rw[if_neg (by omega)]
 have hmg:eG 2 a=a.toNat:=by unfold eG;rw[if_neg (by omega)]
 have hft:d_ 2 a=decide (IntKind.u64.wrap x=a):=by
  unfold d_;rw[hsg,hmg];rw[IntKind.wrap_u64,decide_eq_decide,show bK 2 0=4294967295 by decide];omega
 rw[hft,hsg,hmg];exact⟨0,a,fun _=>⟨rfl,om⟩,fun w=>Ov a x _ _ hx om rfl (qA _ _) w⟩
theorem aKi(a:Int)(a0:0<=a)(a1:a<18446744073709551616):∃s m:Int,(d_ 3 a=H->s=cO 3 a/\m=((eG 3 a:Nat):Int))/\∀w,QR 267 #[aG 0 18446744073709551615,Y O a] w (.tuple #[J s,Y O m,V (d_ 3 a)]):=by
 have hsg:cO 3 a=0:=by unfold cO;rw[if_neg (by omega)]
 have hmg:eG 3 a=a.toNat:=by unfold eG;rw[if_neg (by omega)]
 have hft:d_ 3 a=H:=by
  unfold d_;rw[hsg,hmg];rw[show bK 3 0=18446744073709551615 by decide];exact decide_eq_true om
 rw[hft,hsg,hmg];exact⟨0,a,fun _=>⟨rfl,om⟩,fun w=>Ou a a0 (by rw[IntKind.wrap_u64];omega) w⟩
theorem uP(f mode kind a:Int)(a0:0<=a)(a1:a<18446744073709551616)(w:World)(hw:Fm w):
  CT 145 #[J f,J mode,J kind,Y O a] w fun e w'=>∃Z fl,dU f mode kind a Z fl/\e=X (aK Z fl)/\Gr w w':=by
 have fin:∀Z,dU f mode kind a Z 1->(Aw f mode kind a w Z 1)->CT 145 #[J f,J mode,J kind,Y O a] w fun e w'=>∃Z fl,dU f mode kind a Z fl/\e=X (aK Z fl)/\Gr w w':=fun Z hp h=>h.mono (fun e w' ⟨h1,h2⟩=>⟨Z,1,hp,h1,h2⟩);have kn:∃(kv:Value) (kb:Bool),∀w,QR 87 #[J kind] w (.tuple #[kv,V kb]):=by
  by_cases hk:0<=kind/\kind<=3
  ·rcases(show kind=0\/kind=1\/kind=2\/kind=3 by omega)with rfl|rfl|rfl|rfl
   ·exact⟨_,_,sF⟩
   ·exact⟨_,_,lD⟩
   ·exact⟨_,_,sD⟩
   ·exact⟨_,_,su⟩
  ·exact⟨_,_,fun w=>BF kind hk w⟩
 obtain⟨kv,kb,HKn⟩:=kn;by_cases hf:f=0\/f=1
 ·obtain⟨p,mx,one,inf,sg,nan,hF⟩:=iG f hf;obtain⟨mn,fb,sp,hM,hmn,hfb⟩:=hF.m;have HN:Ht p mn mx nan 1:=fun w=>dI hM w;by_cases hm:0<=mode/\mode<=4
  ·obtain⟨k,hk⟩:=lq mode hm.1 hm.2;have HS:Hid (∀w',Gr w w'->nP f mode w' p mn mx k H):=fun w'' hg'=>eY hF hM mode k (fun w=>gZ mode k hk w) (hw.gr hg');have bad:d_ kind a=U->dU f mode kind a nan 1:=fun h=>.inr (.inl ⟨p,mx,one,inf,sg,nan,hF,.inr h,rfl,rfl⟩);have HR:∀s m,s=cO kind a->m=((eG kind a:Nat):Int)->Hid (∀w,CT 185 #[dP p mn mx mode k,J s,J 0,aG 0 m,V U] w fun e w'=>∃z fl,b_ p (1-mx) mx one inf sg nan mode (qP kind a) z fl/\e=X (aK z fl)/\Gr w w'):=by
    intro s m hs hm' w;subst hs hm';have hlt:=wW kind a a0 a1;rcases Nat.eq_zero_or_pos (eG kind a)with h0|h0
    ·have hs0:cO kind a=0:=by
      unfold eG at h0;unfold cO;by_cases c:(kind=0\/kind=1)/\9223372036854775808<=a
      ·rw[if_pos c]at h0;exfalso;omega
      ·rw[if_neg c]
     rw[h0,hs0];refine(zO hM mode k 0 0 U om om (sw 0 sg 0) (fun w=>jh hM 0 _ (.inl ⟨rfl,by simp[sw]⟩) w) w).mono ?_;rintro e w' ⟨rfl,hg⟩;refine⟨_,_,?_,rfl,hg⟩;unfold qP;rw[if_pos h0];exact .inl ⟨rfl,rfl,rfl⟩
    ·have:=rJ hM mode mode k hk (cO kind a) (Ey kind a) 0 om om (eG kind a) h0 om U (fun h=>by cases h) w;rw[show eG kind a/18446744073709551616=0 by omega,show eG kind a%18446744073709551616=eG kind a by omega]at this;refine this.mono ?_;rintro e w' ⟨z,fl,hr,rfl,hg⟩;rw[hmn]at hr;refine⟨_,_,?_,rfl,hg⟩;unfold qP;rw[if_neg (by omega)];exact .inr (.inl ⟨rfl,z,hr,by rw[MI]⟩)
   have ok:d_ kind a=H->(∃s m,(s=cO kind a/\m=((eG kind a:Nat):Int))/\CT 145 #[J f,J mode,J kind,Y O a] w fun e w'=>∃z fl,b_ p (1-mx) mx one inf sg nan mode (qP kind a) z fl/\e=X (aK z fl)/\Gr w w')->CT 145 #[J f,J mode,J kind,Y O a] w fun e w'=>∃Z fl,dU f mode kind a Z fl/\e=X (aK Z fl)/\Gr w w':=fun hq ⟨s,m,_,h⟩=>h.mono (fun e w' ⟨z,fl,h0,h1,h2⟩=>⟨z,fl,.inl ⟨p,mx,one,inf,sg,nan,hF,hm,hq,h0⟩,h1,h2⟩);by_cases hkd:0<=kind/\kind<=3
   ·rcases(show kind=0\/kind=1\/kind=2\/kind=3 by omega)with rfl|rfl|rfl|rfl
    ·obtain⟨s,m,he,HW⟩:=aKk a a0 a1;cases hq:d_ 0 a<;>rw[hq]at HW he
     ·exact fin nan (bad hq) (Xj p mn mx mode nan f mode 0 a s m k HS sF HW HN)
     ·exact ok hq ⟨s,m,he rfl,aAB p mn mx mode f mode 0 a s m k HS sF HW _ (HR s m (he rfl).1 (he rfl).2)⟩
    ·obtain⟨s,m,he,HW⟩:=aGq a a0 a1;cases hq:d_ 1 a<;>rw[hq]at HW he
     ·exact fin nan (bad hq) (IG p mn mx mode nan f mode 1 a s m k HS lD HW HN)
     ·exact ok hq ⟨s,m,he rfl,Oq p mn mx mode f mode 1 a s m k HS lD HW _ (HR s m (he rfl).1 (he rfl).2)⟩
    ·obtain⟨s,m,he,HW⟩:=aKj a a0 a1;cases hq:d_ 2 a<;>rw[hq]at HW he
     ·exact fin nan (bad hq) (Xi p mn mx mode nan f mode 2 a s m k HS sD HW HN)
     ·exact ok hq ⟨s,m,he rfl,aAA p mn mx mode f mode 2 a s m k HS sD HW _ (HR s m (he rfl).1 (he rfl).2)⟩
    ·obtain⟨s,m,he,HW⟩:=aKi a a0 a1;cases hq:d_ 3 a<;>rw[hq]at HW he
     ·exact fin nan (bad hq) (Xh p mn mx mode nan f mode 3 a s m k HS su HW HN)
     ·exact ok hq ⟨s,m,he rfl,aAz p mn mx mode f mode 3 a s m k HS su HW _ (HR s m (he rfl).1 (he rfl).2)⟩
   ·exact fin nan (bad (by unfold d_;exact decide_eq_false (fun h=>hkd h.1))) (aAC p mn mx mode nan f mode kind a k HS (fun w=>BF kind hkd w) HN)
  ·exact fin nan (.inr (.inl ⟨p,mx,one,inf,sg,nan,hF,.inl hm,rfl,rfl⟩)) (Ot p mn mx mode nan f mode kind a kv kb (fun w'' hg'=>gV hF hM mode (fun w=>kV mode om w) (hw.gr hg')) HKn HN)
 ·exact fin _ (.inr (.inr ⟨hf,rfl,rfl⟩)) (Ot _ _ _ _ _ f mode kind a kv kb (fun w'' hg'=>fV f mode hf (hw.gr hg')) HKn (fun w=>dI m64 w))
theorem aCO(f mode kind a:Int)(a0:0<=a)(a1:a<18446744073709551616):
  ∃Z fl:Int,dU f mode kind a Z fl/\(∀w,QB 36 #[J f,J mode,J kind,Y O a] w (aK Z fl))/\
   (∀w,Fm w->Aw f mode kind a w Z fl):=
 KD (fun _ _ _ _ h h'=>dU.one h h') (D5 f mode kind a) (iw f mode kind a a0 a1) (uP f mode kind a a0 a1)
theorem aEZ{one v:Int}(h:aQ f p mx one inf sg nan)(hs:s=0\/s=1)(v0:0<=v)(v1:v<=inf):0<=sw s sg v/\sw s sg v<2*sg/\sw s sg v<18446744073709551616:=by
 have hb:=h.bounds;unfold sw;split<;>omega
theorem aCp{one:Int}(h:aQ f p mx one inf sg nan)(hs:s=0\/s=1){y:cu}(hy:bQ p mx one inf sg nan (sw s sg 0) y):y.s=s/\y.e=0/\y.M=0/\y.c=0:=by
 have hb:=h.bounds;obtain⟨y1,y2⟩:=bQ.bare h hs om om hy;rcases y2 with⟨_,v',hs',hv'⟩|⟨c,_⟩
 ·dsimp only at hs' hv';have:v'=0:=om;subst this;rcases hv' with⟨q,c,e,m⟩|⟨_,_,c,_⟩|⟨_,c,_⟩|⟨q,c,e,m⟩|⟨q0,q1,c,_⟩
  ·exact⟨y1,e,om,c⟩
  all_goals (exfalso;omega)
 ·exfalso;omega
theorem Nh{one:Int}(a0:0<=a)(a1:a<18446744073709551616)(hF:aQ f p mx one inf sg nan){x:cu}(hx:bQ p mx one inf sg nan a x)(xc:x.c<=2)(hp:b_ p (1-mx) mx one inf sg nan mode (oJ mode x) Z 0):
  (0<=Z/\Z<2*sg/\Z<18446744073709551616)/\∃y,bQ p mx one inf sg nan Z y/\y.c<=2/\y.s=x.s/\(x.c<=1->y.c<=1/\∀way,aN way y=aN mode x)/\zi y=0/\∀way,b_ p (1-mx) mx one inf sg nan way (oJ way y) Z 0:=by
 have hb:=hF.bounds;obtain⟨v1,v2,v3,v4,v5,v6⟩:=bT hF hx;have hs:=v1.jL;have x0:=v1.c0;by_cases hn:x.c=1/\x.e<0
 ·obtain⟨c,e⟩:=hn;obtain⟨hl,hz0,hz1⟩:=kM hF hx mode c e;rcases Nat.eq_zero_or_pos (aN mode x)with h0|h0
  ·obtain⟨rfl,_⟩:=b_.one hp (hz0 h0);have hsw:=aEZ hF hs (Int.le_refl 0) (show(0:Int)<=inf by omega);obtain⟨y,hy⟩:=fG hF _ hsw.1 hsw.2.2;obtain⟨q1,q2,q3,q4⟩:=aCp hF hs hy;have hny:¬(y.c=1/\y.e<0):=om;refine⟨hsw,y,hy,om,q1,fun _=>⟨om,fun way=>?_⟩,rC (a:=a) hF hny,fun way=>?_⟩
   ·rw[jM om,q3,h0,Nat.zero_mul]
   ·rw[jD hny];exact oL hF hsw.1 hy om way
  ·obtain⟨z,hr,hpz⟩:=hz1 h0;obtain⟨rfl,_⟩:=b_.one hp hpz;obtain⟨z0,z1,hy'⟩:=SG hF hs h0 om (hr mode);have hsw:=aEZ hF hs (show 0<=z by omega) (show z<=inf by omega);obtain⟨y,hy⟩:=fG hF _ hsw.1 hsw.2.2;obtain⟨q1,q2,q3⟩:=hy' y hy;have hye:=(bT hF hy).2.2.2.1;have hw:=fun way=>XV (x:=y) om q3 way;refine⟨hsw,y,hy,om,q2,fun _=>⟨om,fun way=>(hw way).1⟩,?_,fun way=>?_⟩
   ·unfold zi;rw[(hw 0).2,if_neg (by simp)]
   ·by_cases hny:y.c=1/\y.e<0
    ·unfold oJ;rw[if_pos hny,(hw way).1,if_neg om,q2];exact .inr (.inl ⟨rfl,z,hr way,rfl⟩)
    ·rw[jD hny];exact oL hF hsw.1 hy om way
 ·rw[jD hn]at hp;obtain⟨rfl,_⟩:=b_.one hp (oL hF a0 hx xc mode);obtain⟨ha,v,_,_,hzz⟩:=mV hF a0 hx xc;refine⟨⟨a0,ha,a1⟩,x,hx,xc,rfl,fun hc=>⟨hc,fun way=>?_⟩,rC (a:=Z) hF hn,fun way=>?_⟩
  ·have he:0<=x.e:=by
    rcases(show x.c=1\/x.c≠1 by omega)with k|k
    ·omega
    ·have:=hzz k;omega
   rw[jM he,jM he]
  ·rw[jD hn];exact oL hF a0 hx xc way
theorem aFF{one:Int}(a0:0<=a)(a1:a<18446744073709551616)(hF:aQ f p mx one inf sg nan){x:cu}(hx:bQ p mx one inf sg nan a x)(xc:x.c<=2)(hR:jA f mode a H Z fl)(hfl:fl≠1):
  (0<=Z/\Z<18446744073709551616)/\(∀way,0<=way->way<=4->jA f way Z H Z 0)/\∀kind I gl,dA f mode kind a I gl->gl≠1->dA f mode kind Z I 0/\gl=fl:=by
 rcases hR with⟨p',mx',one',inf',Ua,nan',x',hF',hm,hx',hp⟩|⟨_,_,_,_,_,_,_,_,_,k⟩|⟨_,_,k⟩
 ·obtain⟨rfl,rfl,rfl,rfl,rfl,rfl⟩:=hF.one hF';obtain rfl:=hx.one hF hx';rcases hp with⟨c,_⟩|⟨_,hp,aH5⟩
  ·exfalso;omega
  ·rw[if_pos rfl]at aH5;obtain⟨hZ,y,hy,yc,ys,hM,hwf,hpk⟩:=Nh a0 a1 hF hx xc hp;refine⟨⟨hZ.1,hZ.2.2⟩,fun way w0 w4=>.inl ⟨p,mx,one,inf,sg,nan,y,hF,⟨w0,w4⟩,hy,.inr ⟨yc,hpk way,by rw[if_pos rfl,hwf]⟩⟩,fun kind I gl hT hgl=>?_⟩;rcases hT with⟨p',mx',one',inf',Ua,nan',x',hF',ha',hm',hk',hx',hq⟩|⟨_,_,k⟩
   ·obtain⟨rfl,rfl,rfl,rfl,rfl,rfl⟩:=hF.one hF';obtain rfl:=hx.one hF hx';rcases hq with⟨_,_,k⟩|⟨c1,hle,rfl,rfl⟩|⟨_,_,_,k⟩
    ·exact absurd k hgl
    ·obtain⟨yc1,hMy⟩:=hM c1;refine⟨.inl ⟨p,mx,one,inf,sg,nan,y,hF,hZ.2.1,hm',hk',hy,.inr (.inl ⟨yc1,?_,?_,hwf.symm⟩)⟩,aH5.symm⟩
     ·rw[hMy mode,ys];exact hle
     ·rw[hMy mode,ys]
    ·exact absurd k hgl
   ·exact absurd k hgl
 ·exact absurd k hfl
 ·exact absurd k hfl
