import Derived.Test.YtmiekgjgpmfekaaGreatDoorN4
set_option linter.all false
set_option maxRecDepth 1000000
set_option maxHeartbeats 40000000
open Bool renaming false → X
open Go.Proofs.YtmiekgjgpmfekaaGreatDoor renaming vI → J, vU → Y
open Go.IntKind renaming u64 → Z
open Go.Ending renaming returned → O
open Go.Proofs.Tryz
namespace Go.Proofs.YtmiekgjgpmfekaaGreatDoor
open Go.RowKit
variable{w w':World}{n base cap:Nat}{g cs:Nat->Int}{o:Ops}{v va vb:Value}{t:TypeId}
theorem Yw{P:Prop}(h:P:=by
 go_wp2;go_roundw
 case rel=>exact⟨j+1,om,by go_num,kg⟩
 case measure=>simp[intOf]<;>omega):P:=h
theorem aEM{P:Prop}(h:P:=by
 obtain rfl:j=n:=om;have n_:¬(j:Int)<(j:Int):=om;go_wp2;go_returns;exact⟨rfl,hgb⟩):P:=h
theorem aEN{P:Prop}(h:P:=by
 go_wp2;go_roundw
 case rel=>exact⟨j+1,om,by go_num,by go_num,trivial⟩
 case measure=>simp[intOf]<;>omega):P:=h
theorem aES{P:Prop}(h:P:=by
 go_wp2;go_loopw [5] (fun i wr=>i=J 0/\w=wr) (fun _ _=>0)
 case atStart=>exact⟨rfl,rfl⟩
 case round=>
  obtain⟨rfl,rfl⟩:=hrel;go_wp2;go_returns;exact⟨rfl,Gb.refl w⟩):P:=h
theorem aET{P:Prop}(h:P:=by
 go_wp2;go_loopw [1,5] (fun k i wr=>k=J 1/\i=J 0/\w=wr) (fun _ _ _=>0)
 case atStart=>exact⟨rfl,rfl,rfl⟩
 case round=>
  obtain⟨rfl,rfl,rfl⟩:=hrel;go_wp2;go_returns;exact⟨rfl,rfl⟩):P:=h
attribute [local go_sem] aj bG
theorem OB(a b:Int)(w:World):
  QR 49 #[aG a b,aG a b] w (.bool true):=by
 go_enter func49,ntmps49;go_wp2;go_returns;exact⟨rfl,kr⟩
theorem jU(ha:Rd w Z va n (n*2) g)(hb:Rd w Z vb n (n*2) g)(hn:n<=2000000):
  QB 13 #[va,vb] w (.bool true):=by
 rcases Nat.eq_zero_or_pos n with rfl|hpos
 ·obtain⟨a,ca,rfl,_⟩:=ha;obtain⟨b,cb,rfl,_⟩:=hb;go_enter func13,ntmps13;exact aES
 ·obtain⟨a,ca,rfl,_,_,hca⟩:=ha.at hpos;obtain⟨b,cb,rfl,_,_,hcb⟩:=hb.at hpos;have HA:Hid _:=hca;have HB:Hid _:=hcb;have HE:Hid (∀x y w,QR 49 #[aG x y,aG x y] w (.bool true)):=fun x y w=>OB x y w;clear hca hcb ha hb;go_enter func13,ntmps13;go_wp2;go_loopw [5] (fun i wr=>∃j:Nat,j<=n/\i=J j/\Gb w wr) (fun i _=>n-(intOf i).toNat)
  case atStart=>exact⟨0,Nat.zero_le _,rfl,Gb.refl w⟩
  case round=>
   obtain⟨j,hj,rfl,hgb⟩:=hrel;by_cases hlt:j<n
   ·have hlt':(j:Int)<(n:Int):=om;have a0:aj wr a (j*2) (Y (g (j*2))):=hgb.old (HA _ om);have a1:aj wr a (j*2+1) (Y (g (j*2+1))):=hgb.old (HA _ om);have b0:aj wr b (j*2) (Y (g (j*2))):=hgb.old (HB _ om);have b1:aj wr b (j*2+1) (Y (g (j*2+1))):=hgb.old (HB _ om);generalize g (j*2)=x at*
    generalize g (j*2+1)=y at*
    go_wp2;go_region_held3 (fun w'=>aj w' a (j*2) (Y x)/\aj w' a (j*2+1) (Y y)/\aj w' b (j*2) (Y x)/\aj w' b (j*2+1) (Y y))
     (exact kX)
     (first
      |(go_at_call 49;with_reducible refine ku (HE.out _ _ _) fun w1 ak=>?_))
    all_goals
     exact Yw
   ·exact aEM
theorem qM(ho:Ow w base t 2 Z v n g)(hn:n<=2000000):
  CT 14 #[v,J 1] w fun e w'=>e=O (J ((2*n+1:Nat):Int))/\Ow w' base t 2 Z v n (fun j=>((j+1:Nat):Int))/\Mk w w' v:=by
 rcases Nat.eq_zero_or_pos n with rfl|hpos
 ·obtain⟨a,ca,rfl,_⟩:=ho.len;have HO:Hid _:=ho;clear ho;go_enter func14,ntmps14;go_wp2;go_loopw [1,5] (fun k i wr=>k=J 1/\i=J 0/\w=wr) (fun _ _ _=>0)
  case atStart=>exact⟨rfl,rfl,rfl⟩
  case round=>
   obtain⟨rfl,rfl,rfl⟩:=hrel;go_wp2;go_returns;exact⟨rfl,Ow.congr HO.out (fun j hj=>om),Mk.refl _ _⟩
 ·obtain⟨b,cap,rfl,hb0,hb1,hc1,hc2,_⟩:=ho.at hpos;have HO:Hid _:=ho;clear ho;go_enter func14,ntmps14;go_wp2;go_loopw [1,5] (fun k i wr=>∃j:Nat,j<=n/\i=J j/\k=J ((2*j+1:Nat):Int)/\Ow wr base t 2 Z (aB b n cap) n (fun q=>if q<2*j then((q+1:Nat):Int)else g q)/\Mk w wr (aB b n cap)) (fun _ i _=>n-(intOf i).toNat)
  case atStart=>exact⟨0,Nat.zero_le _,rfl,rfl,Ow.congr HO.out (fun q hq=>by rw[if_neg (by omega)]),Mk.refl _ _⟩
  case round=>
   obtain⟨j,hj,rfl,rfl,hof,hmk⟩:=hrel;have HF:Hid _:=hof;by_cases hlt:j<n
   ·have hlt':(j:Int)<(n:Int):=om;obtain⟨b',cap',e,_,_,_,_,hcz⟩:=hof.at hpos;simp only[Value.slice.injEq,Option.some.injEq,Addr.mk.injEq,and_true,true_and]at e;obtain⟨rfl,rfl⟩:=e;obtain⟨c0,z0⟩:=hcz (j*2) om;obtain⟨c1,z1⟩:=hcz (j*2+1) om;rw[if_neg (by omega)]at c0 c1;clear hof hcz;go_wp2;go_roundw
    case rel=>
     refine⟨j+1,om,by go_num,by go_num,?_,?_⟩
     ·refine Ow.congr (Ow.store (Ow.store HF.out (j*2) (2*(j:Int)+1)) (j*2+1) (2*(j:Int)+1+1)) (fun q hq=>?_);by_cases e1:q=j*2+1
      ·rw[if_pos e1,if_pos (by omega)];omega
      ·by_cases e2:q=j*2
       ·rw[if_neg e1,if_pos e2,if_pos (by omega)];omega
       ·by_cases e3:q<2*j
        ·rw[if_neg e1,if_neg e2,if_pos e3,if_pos (by omega)]
        ·rw[if_neg e1,if_neg e2,if_neg e3,if_neg (by omega)]
     ·exact(hmk.set _ _).set _ _
    case measure=>simp[intOf]<;>omega
   ·obtain rfl:j=n:=om;have n_:¬(j:Int)<(j:Int):=om;clear hof;go_wp2;go_returns;exact⟨bC (by go_num),Ow.congr HF.out (fun q hq=>by rw[if_pos (by omega)];try omega),hmk⟩
theorem yC(hr:Rd w Z v n (n*2) (fun j=>((j+1:Nat):Int)))(hn:n<=2000000):
  QW 15 #[v,J 1] w (J ((2*n+1:Nat):Int)):=by
 rcases Nat.eq_zero_or_pos n with rfl|hpos
 ·obtain⟨a,ca,rfl,_⟩:=hr;go_enter func15,ntmps15;exact aET
 ·obtain⟨b,cap,rfl,_,_,hc⟩:=hr.at hpos;have HC:Hid _:=hc;clear hr hc;go_enter func15,ntmps15;go_wp2;go_loopw [1,5] (fun k i wr=>∃j:Nat,j<=n/\i=J j/\k=J ((2*j+1:Nat):Int)/\w=wr) (fun _ i _=>n-(intOf i).toNat)
  case atStart=>exact⟨0,Nat.zero_le _,rfl,rfl,rfl⟩
  case round=>
   obtain⟨j,hj,rfl,rfl,rfl⟩:=hrel;by_cases hlt:j<n
   ·have hlt':(j:Int)<(n:Int):=om;have c0:w.cell? ⟨b,j*2,none⟩=some (Y (2*(j:Int)+1)):=by rw[HC.out _ (by omega)];congr 2;omega
    have c1:w.cell? ⟨b,j*2+1,none⟩=some (Y (2*(j:Int)+1+1)):=by rw[HC.out _ (by omega)];congr 2;omega
    exact aEN
   ·obtain rfl:j=n:=om;have n_:¬(j:Int)<(j:Int):=om;go_wp2;go_returns;exact⟨bC (by go_num),rfl⟩
theorem Yv{P:Prop}(h:P:=by
 clear hb;go_enter func47,ntmps47;go_wp2;go_returns;exact⟨rfl,rfl⟩):P:=h
def rN(k:Int):Nat:=if 1<=k/\k<=6 then 2^(k.toNat-1)else 0
theorem aHq(k:Int):rN k<=64:=by
 unfold rN;split
 ·have:=Nat.pow_le_pow_right (show 0<2 by decide) (show k.toNat-1<=6 by omega);omega
 ·omega
abbrev KU(F:Nat)(args:Array Value)(w:World)(n:Nat)(f:Nat->Int × Int):Prop:=Calls Tryz.prog F args w fun e w'=>∃v,e=O v/\Ow w' w.heap.size 59 2 Z v n (flat f)/\Gb w w'
theorem aDg(H:o.S)(HI:o.In)(k:Int)(w:World):KU 11 #[J k] w (rN k) (o.rt k.toNat):=by
 by_cases h:1<=k/\k<=6
 ·obtain⟨n,rfl⟩:=Int.eq_ofNat_of_zero_le (show 0<=k by omega);have hn:rN (n:Int)=2^(n-1):=by unfold rN;rw[if_pos h];rfl
  rw[hn];exact DN H HI n om om w
 ·have hn:rN k=0:=by unfold rN;rw[if_neg h]
  rw[hn];rcases(show k<1\/1<=k/\6<k by omega)with c|⟨c,c'⟩
  ·have c1:¬1<=k:=om;clear h hn;go_enter func11,ntmps11;go_wp2;go_returns;exact⟨_,rfl,Ow.lit _ _ _ _ _,kg⟩
  ·have c1:¬k<1:=om;clear h hn;go_enter func11,ntmps11;go_wp2;go_returns;exact⟨_,rfl,Ow.lit _ _ _ _ _,kg⟩
theorem Ir(k:Int)(b:Bool)(hb:b=decide (1<=k/\k<=6))(w:World):
  QW 47 #[J k] w (.bool b):=by
 rcases(show(k<1\/1<=k/\6<k\/1<=k/\k<=6) by omega)with c|⟨c,c'⟩|⟨c,c'⟩
 ·obtain rfl:b=X:=by rw[hb];simp;omega
  have c1:¬1<=k:=om;exact Yv
 ·obtain rfl:b=X:=by rw[hb];simp;omega
  have c1:¬k<=6:=om;exact Yv
 ·obtain rfl:b=true:=by rw[hb];simp;omega
  exact Yv
theorem aDh(H:o.I)(HI:o.In)(k:Int)(hw:Fm w):KU 12 #[J k] w (rN k) (o.rt k.toNat):=by
 by_cases h:1<=k/\k<=6
 ·obtain⟨n,rfl⟩:=Int.eq_ofNat_of_zero_le (show 0<=k by omega);have hn:rN (n:Int)=2^(n-1):=by unfold rN;rw[if_pos h];rfl
  rw[hn];have HL:KW 47 #[J n] (.bool true):=fun w=>Ir _ true (by simp;omega) w;have HC:Hid (CT 48 #[J n] w fun e w'=>∃g cap u,e=O (aB g (n+1) cap)/\aj w' g n u/\Ow w' w.heap.size 59 2 Z u (2^(n-1)) (flat (o.rt n))/\Gb w w'):=(uF H HI n om om hw).mono fun e w' ⟨v,e1,⟨xs,h1,h2⟩,hg⟩=>by
   obtain⟨u,hu,ho⟩:=h2 n om om;obtain⟨g,cap,rfl⟩:∃g cap,v=aB g (n+1) cap:=by
    rcases h1.2 with⟨_,h⟩|⟨g,J_,_,rfl,_⟩
    ·omega
    ·exact⟨g,J_,rfl⟩
   exact⟨g,cap,u,e1,(World.ownsRow.cellAt h1 n om).trans hu,ho,hg⟩
  have hlt:n<n+1:=om;clear hn hw H HI;go_enter func12,ntmps12;go_wp2_with (first
   |(go_at_call 47;refine kw (HL _) ?_)
   |(go_at_call 48;refine HC.out.mono ?_;rintro e w2 ⟨g,cap,u,rfl,hc2,ho2,aA⟩))
  go_returns;exact⟨_,rfl,ho2,aA⟩
 ·have hn:rN k=0:=by unfold rN;rw[if_neg h]
  rw[hn];have HL:KW 47 #[J k] (.bool X):=fun w=>Ir _ X (by simp;omega) w;clear h hn hw H HI;go_enter func12,ntmps12;go_wp2_with (first
   |(go_at_call 47;refine kw (HL _) ?_))
  go_returns;exact⟨_,rfl,Ow.nil _ _ _ _ _ _,Gb.refl w⟩
theorem ZY(HS:o.S)(HP:o.I)(HI:o.In)(k:Int)(hw:Fm w):
  QB 3 #[J k] w (.bool true):=by
 have hN:=aHq k;have H1:Hid (∀w,KU 11 #[J k] w (rN k) (o.rt k.toNat)):=fun w=>aDg HS HI k w;have H2:Hid (∀w',Gb w w'->KU 12 #[J k] w' (rN k) (o.rt k.toNat)):=fun w' hg=>aDh HP HI k (hw.gb hg);generalize rN k=N at*
 generalize o.rt k.toNat=f at*
 have hz:¬((2*N+1:Nat):Int)<0:=om;clear HS HP HI hw;go_enter func3,ntmps3;go_upto_region 2 with(go_at_call 11;refine(H1 _).mono ?_;rintro e w1 ⟨v0,rfl,ho0,ak⟩);go_upto_region 3 with(go_at_call 12;refine(H2 _ kg).mono ?_;rintro e w2 ⟨v1,rfl,ho1,aA⟩);go_upto_region 5 with(go_at_call 13;refine ku (jU ho1.rd (ho0.rd.gb aA) om) fun w3 aC=>?_);go_upto_region 7 with(go_at_call 14;refine(qM (ho1.gb aC) om).mono ?_;rintro e w4 ⟨rfl,ho4,aGg⟩);have hs1:=ak.size;have hne:∀p,v0.ownBlock=some p->v1.ownBlock≠some p:=fun p h0 h1=>by
  have a:=(World.ownsRow.lt ho0 p h0).2;have b:=(World.ownsRow.lt ho1 p h1).1;omega
 have hr4:Rd w4 Z v0 N (N*2) (flat f):=Rd.mk aGg ((ho0.rd.gb aA).gb aC) hne;have aH:Gb w w4:=Gb.below kg (aGg.below (base:=w1.heap.size) fun p h1=>(World.ownsRow.lt ho1 p h1).1) hs1;clear aGg;go_upto_region 13 with(go_at_call 15;refine kw (yC ho4.rd om) ?_);go_upto_region 14 with(go_at_call 12;refine(H2 _ kg).mono ?_;rintro e w6 ⟨v6,rfl,ho6,bJ⟩);go_wp2_with (go_at_call 13;refine ku (jU ho6.rd (hr4.gb bJ) om) fun w7 dZ=>?_);go_returns;exact⟨rfl,kg⟩
theorem Yx{P:Prop}(h:P:=by
 by_cases e2:q<j
 ·rw[if_neg e1,if_pos e2,if_pos (by omega)]
 ·rw[if_neg e1,if_neg e2,if_neg (by omega)]):P:=h
theorem aER{P:Prop}(h:P:=by
 obtain rfl:j=n:=om;have n_:¬(j:Int)<(j:Int):=om;clear hof;go_wp2;go_returns;exact⟨_,rfl,Ow.congr HF.out (fun q hq=>by rw[if_pos (by omega)]),hgb⟩):P:=h
theorem aGa:(Tryz.prog.info? 33).map (fun i=>(i.zero,i.size,i.bytes))=some (some (Y 0),1,8):=by kernel_rfl
theorem GU{a:Option Addr}(ha:lQ w Z a n g)(hn:n<=2000000):
  CT 17 #[.slice a n cap] w fun e w'=>∃v,e=O v/\Ow w' w.heap.size 33 1 Z v n g/\Gb w w':=by
 have hmk:∀w,(Instr.makeSlice 27 (J (n:Int)) (J (n:Int))).run Tryz.prog w=.ok (aB w.heap.size n n) (w.alloc (.cells (madeCells #[Y 0] (n*1)) 33)):=fun w=>j_ 27 33 (Y 0) 1 8 Tryz.underlying27 aGa de n om w;have Hu:Hid (Ow (w.alloc (.cells (madeCells #[Y 0] n) 33)) w.heap.size 33 1 Z (aB w.heap.size n n) n (fun _=>0)):=by have:=Ow.made w 33 1 #[Y 0] Z (z1 _) n (by omega);rw[Nat.mul_one]at this;exact this
 have HA:Hid _:=ha;clear ha;go_enter func17,ntmps17;go_wp2;go_loopw [4] (fun i wr=>∃j:Nat,j<=n/\i=J j/\Ow wr w.heap.size 33 1 Z (aB w.heap.size n n) n (fun q=>if q<j then g q else 0)/\Gb w wr) (fun i _=>n-(intOf i).toNat)
 case atStart=>exact⟨0,Nat.zero_le _,rfl,Ow.congr Hu.out (fun q hq=>by rw[if_neg (by omega)]),kg⟩
 case round=>
  obtain⟨j,hj,rfl,hof,hgb⟩:=hrel;have HF:Hid _:=hof;by_cases hlt:j<n
  ·have hlt':(j:Int)<(n:Int):=om;obtain⟨b,cap',e,_,_,_,_,hcz⟩:=hof.at om;simp only[Value.slice.injEq,Option.some.injEq,Addr.mk.injEq,and_true,true_and]at e;obtain⟨rfl,rfl⟩:=e;obtain⟨c0,z0⟩:=hcz j om;rw[if_neg (by omega)]at c0;rcases HA.out with h0|⟨b,off,rfl,hc⟩
   ·omega
   have x0:aj wr b (off+j) (Y (g j)):=hgb.old (hc j hlt);obtain⟨x,hx⟩:∃x,g j=x:=⟨_,rfl⟩;rw[hx]at x0;have Hx:Hid _:=hx;clear hof hcz hx hc;go_wp2;go_roundw
   case rel=>
    refine⟨j+1,om,by go_num,?_,kg⟩;refine Ow.congr (Ow.store HF.out j x) (fun q hq=>?_);by_cases e1:q=j
    ·rw[if_pos e1,if_pos om,e1,Hx.out]
    ·exact Yx
   case measure=>simp[intOf]<;>omega
  ·exact aER
theorem lI(ha:Rd w Z va n n g)(hb:Rd w Z vb n n g)(hn:n<=2000000):
  QB 19 #[va,vb] w (.bool true):=by
 rcases Nat.eq_zero_or_pos n with rfl|hpos
 ·obtain⟨a,ca,rfl,_⟩:=ha;obtain⟨b,cb,rfl,_⟩:=hb;go_enter func19,ntmps19;exact aES
 ·obtain⟨a,ca,rfl,_,_,hca⟩:=ha.at hpos;obtain⟨b,cb,rfl,_,_,hcb⟩:=hb.at hpos;have HA:Hid _:=hca;have HB:Hid _:=hcb;clear hca hcb ha hb;go_enter func19,ntmps19;go_wp2;go_loopw [5] (fun i wr=>∃j:Nat,j<=n/\i=J j/\Gb w wr) (fun i _=>n-(intOf i).toNat)
  case atStart=>exact⟨0,Nat.zero_le _,rfl,Gb.refl w⟩
  case round=>
   obtain⟨j,hj,rfl,hgb⟩:=hrel;by_cases hlt:j<n
   ·have hlt':(j:Int)<(n:Int):=om;have a0:aj wr a j (Y (g j)):=hgb.old (HA _ om);have b0:aj wr b j (Y (g j)):=hgb.old (HB _ om);generalize g j=x at*
    go_wp2;go_region;all_goals
     exact Yw
   ·exact aEM
theorem uM(s:Int)(s0:1<=s)(s1:s<=5000000)(ho:Ow w base t 1 Z v n g)(hn:n<=2000000):
  CT 20 #[v,J s] w fun e w'=>e=O (J (s+n))/\Ow w' base t 1 Z v n (fun j=>s+j)/\Mk w w' v:=by
 rcases Nat.eq_zero_or_pos n with rfl|hpos
 ·obtain⟨a,ca,rfl,_⟩:=ho.len;have HO:Hid _:=ho;clear ho;go_enter func20,ntmps20;go_wp2;go_loopw [1,5] (fun k i wr=>k=J s/\i=J 0/\w=wr) (fun _ _ _=>0)
  case atStart=>exact⟨rfl,rfl,rfl⟩
  case round=>
   obtain⟨rfl,rfl,rfl⟩:=hrel;go_wp2;go_returns;exact⟨bC (by first|(simp[go_sem];done)|rfl),Ow.congr HO.out (fun j hj=>om),Mk.refl _ _⟩
 ·obtain⟨b,cap,rfl,hb0,hb1,hc1,hc2,_⟩:=ho.at hpos;have HO:Hid _:=ho;clear ho;go_enter func20,ntmps20;go_wp2;go_loopw [1,5] (fun k i wr=>∃j:Nat,∃x:Int,j<=n/\i=J j/\k=J x/\Hid (x=s+j)/\Ow wr base t 1 Z (aB b n cap) n (fun q=>if q<j then s+q else g q)/\Mk w wr (aB b n cap)) (fun _ i _=>n-(intOf i).toNat)
  case atStart=>exact⟨0,s,Nat.zero_le _,rfl,rfl,by show _=_;omega,Ow.congr HO.out (fun q hq=>by rw[if_neg (by omega)]),Mk.refl _ _⟩
  case round=>
   obtain⟨j,x,hj,rfl,rfl,HX,hof,hmk⟩:=hrel;have HF:Hid _:=hof;have hx:=HX.out;have x0:0<=x:=om;have x1:x<=8000000:=om;by_cases hlt:j<n
   ·have hlt':(j:Int)<(n:Int):=om;obtain⟨b',cap',e,_,_,_,_,hcz⟩:=hof.at hpos;simp only[Value.slice.injEq,Option.some.injEq,Addr.mk.injEq,and_true,true_and]at e;obtain⟨rfl,rfl⟩:=e;obtain⟨c0,z0⟩:=hcz j om;rw[if_neg (by omega)]at c0;clear hof hcz hx;go_wp2;go_roundw
    case rel=>
     refine⟨j+1,x+1,om,by go_num,by go_num,by show _=_;have:=HX.out;omega,?_,?_⟩
     ·refine Ow.congr (Ow.store HF.out j x) (fun q hq=>?_);by_cases e1:q=j
      ·rw[if_pos e1,if_pos om,e1];exact HX.out
      ·exact Yx
     ·exact hmk.set _ _
    case measure=>simp[intOf]<;>omega
   ·obtain rfl:j=n:=om;have n_:¬(j:Int)<(j:Int):=om;clear hof hx;go_wp2;go_returns;exact⟨bC (by have:=HX.out;simp[go_sem];omega),Ow.congr HF.out (fun q hq=>by rw[if_pos (by omega)]),hmk⟩
theorem aEO{P:Prop}(h:P:=by
 rcases(show k=1\/k=2\/k=3\/k=4\/k=5\/k=6 by omega)with rfl|rfl|rfl|rfl|rfl|rfl<;>simp at hk<;>simp[hk]):P:=h
theorem aEP{P:Prop}(h:P:=by
 rcases(show k=1\/k=2\/k=3\/k=4\/k=5\/k=6 by omega)with rfl|rfl|rfl|rfl|rfl|rfl<;>simp at hk<;>simp<;>omega):P:=h
theorem aEQ{P:Prop}(h:P:=by
 have:=uF H HI k.toNat om om hw;rw[Int.toNat_of_nonneg (by omega)]at this;exact this.mono fun e w' ⟨v,e1,e2,e3⟩=>⟨v,e1,e2.cr om,e3⟩):P:=h
theorem TN{P:Prop}(h:P:=by
 go_wp2_with (go_at_call 47;refine kw (HL _) ?_);go_returns;exact⟨_,rfl,Ow.nil _ _ _ _ _ _,Gb.refl w⟩):P:=h
theorem O8(H:o.I)(HI:o.In)(k:Int)(hn:n<=2000000)(hw:Fm w)(hr:Rd w Z v n n cs)(hcs:∀j,Wd (cs j)):
  wK 18 #[J k,v] w (tN k n) (o.tr k.toNat cs):=by
 by_cases h:1<=k/\k<=6
 ·have HL:KW 47 #[J k] (.bool true):=fun w=>log_any _ true (by simp;omega) w;by_cases hk:n=2^k.toNat
  ·have ht:tN k n=2^(k.toNat-1):=by unfold tN;rw[if_pos ⟨h.1,h.2,hk⟩]
   rw[ht];have HC:Hid (CT 48 #[J k] w fun e w'=>∃cv,e=O cv/\CR o w' cv (k.toNat+1)/\Gb w w'):=by
    exact aEQ
   have HT:Hid (∀w' cv,Gb w w'->CR o w' cv (k.toNat+1)->wK 55 #[cv,v] w' (2^(k.toNat-1)) (o.tr k.toNat cs)):=fun w' cv hg hc=>vk H HI k.toNat om om (hw.gb hg) (by rw[<-hk];exact hr.gb hg) hcs hc;obtain⟨a,cap,rfl,_⟩:=hr;have hkk:(2:Int)^k.toNat=(n:Int):=by rw[hk];simp
   generalize 2^(k.toNat-1)=N at*
   generalize o.tr k.toNat cs=f at*
   generalize k.toNat+1=n1 at*
   have hcase:k=1/\n=2\/k=2/\n=4\/k=3/\n=8\/k=4/\n=16\/k=5/\n=32\/k=6/\n=64:=by
    exact aEO
   clear hkk hk ht H HI hw hcs h;rcases hcase with⟨rfl,rfl⟩|⟨rfl,rfl⟩|⟨rfl,rfl⟩|⟨rfl,rfl⟩|⟨rfl,rfl⟩|⟨rfl,rfl⟩
   all_goals
    go_enter func18,ntmps18;go_wp2_with (first
     |(go_at_call 47;refine kw (HL _) ?_)
     |(go_at_call 48;refine HC.out.mono ?_;rintro e w1 ⟨cv,rfl,hcr,ak⟩)
     |(go_at_call 55;refine(HT _ _ ak hcr).mono ?_;rintro e w2 ⟨v2,rfl,ho2,aA⟩))
    go_returns;exact⟨_,rfl,Ow.mono ho2 ak.size,ak.trans aA⟩
  ·have ht:tN k n=0:=by unfold tN;rw[if_neg (fun h'=>hk h'.2.2)]
   rw[ht];obtain⟨a,cap,rfl,_⟩:=hr;have hcase:k=1/\((n:Int)==2)=X\/k=2/\((n:Int)==4)=X\/k=3/\((n:Int)==8)=X\/k=4/\((n:Int)==16)=X\/k=5/\((n:Int)==32)=X\/k=6/\((n:Int)==64)=X:=by
    exact aEP
   clear hk ht H HI hw hcs h;rcases hcase with⟨rfl,hq⟩|⟨rfl,hq⟩|⟨rfl,hq⟩|⟨rfl,hq⟩|⟨rfl,hq⟩|⟨rfl,hq⟩
   all_goals
    go_enter func18,ntmps18;exact TN
 ·have HL:KW 47 #[J k] (.bool X):=fun w=>log_any _ X (by simp;omega) w;have ht:tN k n=0:=by unfold tN;rw[if_neg (fun h'=>h ⟨h'.1,h'.2.1⟩)]
  rw[ht];obtain⟨a,cap,rfl,_⟩:=hr;clear ht H HI hw hcs h;go_enter func18,ntmps18;exact TN
theorem JR(HS:o.S)(HP:o.I)(HI:o.In)(k:Int)(a:Option Addr)(n cap:Nat)(cs:Nat->Int)(hcs:∀j,Wd (cs j))(hw:Fm w)(ha:lQ w Z a n cs)(hn:n<=1048576):
  QB 4 #[J k,.slice a n cap] w (.bool true):=by
 have hN:=aHf k n;have H1:Hid (∀w v,Rd w Z v n n cs->wK 16 #[J k,v] w (tN k n) (o.tr k.toNat cs)):=fun w v hr=>qB HS HI k om hr hcs;have H2:Hid (∀w' v,Gb w w'->Rd w' Z v n n cs->wK 18 #[J k,v] w' (tN k n) (o.tr k.toNat cs)):=fun w' v hg hr=>O8 HP HI k om (hw.gb hg) hr hcs;have H3:Hid (∀w',Gb w w'->CT 17 #[.slice a n cap] w' fun e w''=>∃v,e=O v/\Ow w'' w'.heap.size 33 1 Z v n cs/\Gb w' w''):=fun w' hg=>GU (ha.gb hg) om;generalize tN k n=N at*
 generalize o.tr k.toNat cs=f at*
 have hnn:¬(1048576:Int)<(n:Int):=om;have hz:¬((2*N+1:Nat):Int)<0:=om;have hz1:¬(1+(n:Int))<0:=om;clear HS HP HI hw ha hcs;have XC:∀{w':World} {b:Nat} {v:Value},Ow w' b 33 1 Z v n cs->Rd w' Z v n n cs:=fun ho=>by have:=ho.rd;rw[Nat.mul_one]at this;exact this
 go_enter func4,ntmps4;go_upto_region 4 with(first
  |(go_at_call 17;refine(H3 _ kg).mono ?_;rintro e w1 ⟨u1,rfl,hu1,ak⟩)
  |(go_at_call 16;refine(H1 _ _ (XC hu1)).mono ?_;rintro e w2 ⟨v0,rfl,ho0,aA⟩))
 go_upto_region 5 with(go_at_call 17;refine(H3 _ kg).mono ?_;rintro e w3 ⟨x1,rfl,hx1,aC⟩);go_upto_region 6 with(go_at_call 18;refine(H2 _ _ kg (XC hx1)).mono ?_;rintro e w4 ⟨v1,rfl,ho1,aH⟩);go_upto_region 8 with(go_at_call 13;refine ku (jU ho1.rd ((ho0.rd.gb aC).gb aH) om) fun w5 aO=>?_);have hx5:=(hx1.gb aH).gb aO;go_upto_region 10 with(first
  |(go_at_call 17;refine(H3 _ kg).mono ?_;rintro e w6 ⟨u6,rfl,hu6,bJ⟩)
  |(go_at_call 19;refine ku (lI (XC (hx5.gb bJ)) (XC hu6) om) fun w7 dZ=>?_))
 have hx7:=(hx5.gb bJ).gb dZ;have aAp:Ow w7 w3.heap.size 59 2 Z v1 N (flat f):=((ho1.gb aO).gb bJ).gb dZ;have aAl:Rd w7 Z v0 N (N*2) (flat f):=((((ho0.rd.gb aC).gb aH).gb aO).gb bJ).gb dZ;have aGi:Gb w w7:=kg;go_upto_region 12 with(go_at_call 20;refine(uM 1 om om hx7 om).mono ?_;rintro e w8 ⟨rfl,_,J7⟩);have hs1:=ak.size;have hs2:=aA.size;have hs3:=aC.size;have hb0:∀p,v0.ownBlock=some p->w1.heap.size<=p/\p<w2.heap.size:=fun p h=>⟨(World.ownsRow.lt ho0 p h).1,(World.ownsRow.lt ho0 p h).2⟩;have hbx:∀p,x1.ownBlock=some p->w2.heap.size<=p/\p<w3.heap.size:=fun p h=>⟨(World.ownsRow.lt hx1 p h).1,(World.ownsRow.lt hx1 p h).2⟩;have hb1:∀p,v1.ownBlock=some p->w3.heap.size<=p:=fun p h=>(World.ownsRow.lt ho1 p h).1;have ho8:Ow w8 w3.heap.size 59 2 Z v1 N (flat f):=Ow.mk J7 aAp (fun p h h'=>by have:=hb1 p h;have:=hbx p h';omega);have hr8:Rd w8 Z v0 N (N*2) (flat f):=Rd.mk J7 aAl (fun p h h'=>by have:=hb0 p h;have:=hbx p h';omega);have aGh:Gb w w8:=Gb.below aGi (J7.below (base:=w2.heap.size) fun p h=>(hbx p h).1) om;clear J7 hx1 hx5 hx7 hu1 hu6 aAp aAl;go_upto_region 15 with(go_at_call 13;refine ku (jU ho8.rd hr8 om) fun w9 aU=>?_);go_upto_region 16 with(go_at_call 14;refine(qM (ho8.gb aU) om).mono ?_;rintro e wa ⟨rfl,hoa,Sz⟩);have hra:Rd wa Z v0 N (N*2) (flat f):=Rd.mk Sz (hr8.gb aU) (fun p h h'=>by have:=hb0 p h;have:=hb1 p h';omega);have aJ1:Gb w wa:=Gb.below (Gb.trans aGh aU) (Sz.below (base:=w3.heap.size) hb1) om;clear Sz;go_upto_region 22 with(go_at_call 15;refine kw (yC hoa.rd om) ?_);go_upto_region 23 with(first
  |(go_at_call 17;refine(H3 _ kg).mono ?_;rintro e wb ⟨ub,rfl,hub,lG⟩)
  |(go_at_call 18;refine(H2 _ _ kg (XC hub)).mono ?_;rintro e wd ⟨vd,rfl,hod,Uz⟩))
 go_wp2_with (go_at_call 13;refine ku (jU hod.rd ((hra.gb lG).gb Uz) om) fun we Iz=>?_);go_returns;exact⟨rfl,kg⟩
theorem aGb:(Tryz.prog.info? 59).map (fun i=>(i.zero,i.size,i.bytes))=some (some (aG 0 0),2,16):=by kernel_rfl
def XA(w:World)(a:Option Addr)(n:Nat)(g:Nat->Int):Prop:=n=0\/∃b off,a=some ⟨b,off,none⟩/\∀i,i<n*2->aj w b (off+i) (Y (g i))
theorem XA.gb{a:Option Addr}(h:XA w a n g)(hg:Gb w w'):XA w' a n g:=by
 rcases h with h|⟨b,off,e,hc⟩
 ·exact .inl h
 ·exact .inr ⟨b,off,e,fun i hi=>hg.old (hc i hi)⟩
theorem P_(x y:Int)(w:World):QR 72 #[aG x y] w (aG x y):=by
 go_enter func72,ntmps72;go_wp2;go_returns;exact⟨rfl,kr⟩
theorem MH(a:Option Addr)(n cap:Nat)(w:World)(hn:n<=1048576):QW 24 #[.slice a n cap,J 1048576] w (J (1048576-n)):=by
 have u:IntKind.i64.wrap (1048576-(n:Int))=1048576-(n:Int):=wi;have h:¬(1048576-(n:Int))<0:=om;go_enter func24,ntmps24;go_wp2;go_returns;exact⟨rfl,rfl⟩
theorem MB{a:Option Addr}(ha:XA w a n g)(hn:n<=2000000):
  CT 26 #[.slice a n cap] w fun e w'=>∃v,e=O v/\Ow w' w.heap.size 59 2 Z v n g/\Gb w w':=by
 have hmk:∀w,(Instr.makeSlice 22 (J (n:Int)) (J (n:Int))).run Tryz.prog w=.ok (aB w.heap.size n n) (w.alloc (.cells (madeCells #[Y 0,Y 0] (n*2)) 59)):=fun w=>j_ 22 59 (aG 0 0) 2 16 Tryz.underlying22 aGb de n om w;have Hu:Hid (Ow (w.alloc (.cells (madeCells #[Y 0,Y 0] (n*2)) 59)) w.heap.size 59 2 Z (aB w.heap.size n n) n (fun _=>0)):=Ow.made w 59 2 #[Y 0,Y 0] Z (z2 _) n om;have HT:Hid (∀x y w,QR 72 #[aG x y] w (aG x y)):=fun x y w=>P_ x y w;have HA:Hid _:=ha;clear ha;go_enter func26,ntmps26;go_wp2;go_loopw [4] (fun i wr=>∃j:Nat,j<=n/\i=J j/\Ow wr w.heap.size 59 2 Z (aB w.heap.size n n) n (fun q=>if q<2*j then g q else 0)/\Gb w wr) (fun i _=>n-(intOf i).toNat)
 case atStart=>exact⟨0,Nat.zero_le _,rfl,Ow.congr Hu.out (fun q hq=>by rw[if_neg (by omega)]),kg⟩
 case round=>
  obtain⟨j,hj,rfl,hof,hgb⟩:=hrel;have HF:Hid _:=hof;by_cases hlt:j<n
  ·have hlt':(j:Int)<(n:Int):=om;obtain⟨b,cap',e,_,hB,_,_,hcz⟩:=hof.at om;simp only[Value.slice.injEq,Option.some.injEq,Addr.mk.injEq,and_true,true_and]at e;obtain⟨rfl,rfl⟩:=e;obtain⟨c0,z0⟩:=hcz (j*2) om;obtain⟨c1,z1⟩:=hcz (j*2+1) om;rw[if_neg (by omega)]at c0 c1;rcases HA.out with h0|⟨b,off,rfl,hc⟩
   ·omega
   have x0:aj wr b (off+j*2) (Y (g (j*2))):=hgb.old (hc _ om);have x1:aj wr b (off+j*2+1) (Y (g (j*2+1))):=hgb.old (hc (j*2+1) om);obtain⟨x,hx⟩:∃x,g (j*2)=x:=⟨_,rfl⟩;obtain⟨y,hy⟩:∃y,g (j*2+1)=y:=⟨_,rfl⟩;rw[hx]at x0;rw[hy]at x1;have Hx:Hid _:=hx;have Hy:Hid _:=hy;clear hof hcz hx hy hc;go_wp2_with (go_at_call 72;refine ku (HT _ _ _) fun w1 ak=>?_;have cc0:aj w1 w.heap.size (j*2) (Y 0):=ak.c;have XL:bG w1 w.heap.size (j*2):=ak.z;have cc1:aj w1 w.heap.size (j*2+1) (Y 0):=ak.c;have XK:bG w1 w.heap.size (j*2+1):=ak.z);go_roundw
   case rel=>
    refine⟨j+1,om,by go_num,?_,kg⟩;refine Ow.congr (Ow.store (Ow.store (Ow.gb HF.out ak.gb) (j*2) x) (j*2+1) y) (fun q hq=>?_);by_cases e1:q=j*2+1
    ·rw[if_pos e1,if_pos om,e1];exact Hy.out.symm
    ·by_cases e0:q=j*2
     ·rw[if_neg e1,if_pos e0,if_pos om,e0];exact Hx.out.symm
     ·by_cases e2:q<2*j
      ·rw[if_neg e1,if_neg e0,if_pos e2,if_pos (by omega)]
      ·rw[if_neg e1,if_neg e0,if_neg e2,if_neg (by omega)]
   case measure=>simp[intOf]<;>omega
  ·exact aER
theorem Dx(hr:Rd w Z v n n (fun j=>1+(j:Int)))(hn:n<=2000000):
  QW 28 #[v,J 1] w (J (1+(n:Int))):=by
 rcases Nat.eq_zero_or_pos n with rfl|hpos
 ·obtain⟨a,ca,rfl,_⟩:=hr;go_enter func28,ntmps28;exact aET
 ·obtain⟨b,cap,rfl,_,_,hc⟩:=hr.at hpos;have HC:Hid _:=hc;clear hr hc;go_enter func28,ntmps28;go_wp2;go_loopw [1,5] (fun k i wr=>∃j:Nat,j<=n/\i=J j/\k=J (1+(j:Int))/\w=wr) (fun _ i _=>n-(intOf i).toNat)
  case atStart=>exact⟨0,Nat.zero_le _,rfl,rfl,rfl⟩
  case round=>
   obtain⟨j,hj,rfl,rfl,rfl⟩:=hrel;by_cases hlt:j<n
   ·have hlt':(j:Int)<(n:Int):=om;have c0:aj w b j (Y (1+(j:Int))):=HC _ om;exact aEN
   ·obtain rfl:j=n:=om;have n_:¬(j:Int)<(j:Int):=om;go_wp2;go_returns;exact⟨bC (by first|rfl|go_num),rfl⟩
theorem aGR(H:o.I)(HI:o.In)(k:Int){zs:Nat->Int × Int}(hn:n<=2000000)(hw:Fm w)(hr:Rd w Z v n (n*2) (flat zs))(hcs:∀j,lX (zs j)):
  wJ 27 #[J k,v] w (bN k n) (o.bk k.toNat zs):=by
 by_cases h:1<=k/\k<=6
 ·have HL:KW 47 #[J k] (.bool true):=fun w=>NR _ true (by simp;omega) w;by_cases hk:n=2^(k.toNat-1)
  ·have ht:bN k n=2^k.toNat:=by unfold bN;rw[if_pos ⟨h.1,h.2,hk⟩]
   rw[ht];have HC:Hid (CT 48 #[J k] w fun e w'=>∃cv,e=O cv/\CR o w' cv (k.toNat+1)/\Gb w w'):=by
    exact aEQ
   have HT:Hid (∀w' cv,Gb w w'->CR o w' cv (k.toNat+1)->wJ 73 #[cv,v] w' (2^k.toNat) (o.bk k.toNat zs)):=fun w' cv hg hc=>S_ H HI k.toNat om om (hw.gb hg) (by rw[<-hk];exact hr.gb hg) hcs hc;obtain⟨a,cap,rfl,_⟩:=hr;generalize 2^k.toNat=N at*
   generalize o.bk k.toNat zs=f at*
   generalize k.toNat+1=n1 at*
   have hcase:k=1/\n=1\/k=2/\n=2\/k=3/\n=4\/k=4/\n=8\/k=5/\n=16\/k=6/\n=32:=by
    exact aEO
   clear hk ht H HI hw hcs h;rcases hcase with⟨rfl,rfl⟩|⟨rfl,rfl⟩|⟨rfl,rfl⟩|⟨rfl,rfl⟩|⟨rfl,rfl⟩|⟨rfl,rfl⟩
   all_goals
    go_enter func27,ntmps27;go_wp2_with (first
     |(go_at_call 47;refine kw (HL _) ?_)
     |(go_at_call 48;refine HC.out.mono ?_;rintro e w1 ⟨cv,rfl,hcr,ak⟩)
     |(go_at_call 73;refine(HT _ _ ak hcr).mono ?_;rintro e w2 ⟨v2,rfl,ho2,aA⟩))
    go_returns;exact⟨_,rfl,Ow.mono ho2 ak.size,ak.trans aA⟩
  ·have ht:bN k n=0:=by unfold bN;rw[if_neg (fun h'=>hk h'.2.2)]
   rw[ht];obtain⟨a,cap,rfl,_⟩:=hr;have hcase:k=1/\((n:Int)==1)=X\/k=2/\((n:Int)==2)=X\/k=3/\((n:Int)==4)=X\/k=4/\((n:Int)==8)=X\/k=5/\((n:Int)==16)=X\/k=6/\((n:Int)==32)=X:=by
    exact aEP
   clear hk ht H HI hw hcs h;rcases hcase with⟨rfl,hq⟩|⟨rfl,hq⟩|⟨rfl,hq⟩|⟨rfl,hq⟩|⟨rfl,hq⟩|⟨rfl,hq⟩
   all_goals
    go_enter func27,ntmps27;exact TN
 ·have HL:KW 47 #[J k] (.bool X):=fun w=>NR _ X (by simp;omega) w;have ht:bN k n=0:=by unfold bN;rw[if_neg (fun h'=>h ⟨h'.1,h'.2.1⟩)]
  rw[ht];obtain⟨a,cap,rfl,_⟩:=hr;clear ht H HI hw hcs h;go_enter func27,ntmps27;exact TN
theorem aCy(HS:o.S)(HP:o.I)(HI:o.In)(k:Int)(a:Option Addr)(n cap:Nat)(zs:Nat->Int × Int)(hcs:∀j,lX (zs j))(hw:Fm w)(ha:XA w a n (flat zs))(hn:n<=1048576):
  QB 6 #[J k,.slice a n cap] w (.bool true):=by
 have hN:=aIt k n;have H1:Hid (∀w v,Rd w Z v n (n*2) (flat zs)->wJ 25 #[J k,v] w (bN k n) (o.bk k.toNat zs)):=fun w v hr=>Tn HS HI k om hr hcs;have H2:Hid (∀w' v,Gb w w'->Rd w' Z v n (n*2) (flat zs)->wJ 27 #[J k,v] w' (bN k n) (o.bk k.toNat zs)):=fun w' v hg hr=>aGR HP HI k om (hw.gb hg) hr hcs;have H3:Hid (∀w',Gb w w'->CT 26 #[.slice a n cap] w' fun e w''=>∃v,e=O v/\Ow w'' w'.heap.size 59 2 Z v n (flat zs)/\Gb w' w''):=fun w' hg=>MB (ha.gb hg) om;have H0:KW 24 #[.slice a n cap,J 1048576] (J (1048576-n)):=fun w=>MH a n cap w hn;generalize bN k n=N at*
 generalize o.bk k.toNat zs=f at*
 have hnn:¬(1048576-(n:Int))<0:=om;have hz:¬((2*n+1:Nat):Int)<0:=om;have hz1:¬(1+(N:Int))<0:=om;clear HS HP HI hw ha hcs;have XC:∀{w':World} {b:Nat} {v:Value} {g:Nat->Int},Ow w' b 33 1 Z v N g->Rd w' Z v N N g:=fun ho=>by have:=ho.rd;rw[Nat.mul_one]at this;exact this
 go_enter func6,ntmps6;go_upto_region 5 with(go_at_call 24;refine kw (H0 _) ?_);go_upto_region 6 with(first
  |(go_at_call 26;refine(H3 _ kg).mono ?_;rintro e w1 ⟨u1,rfl,hu1,ak⟩)
  |(go_at_call 25;refine(H1 _ _ hu1.rd).mono ?_;rintro e w2 ⟨v0,rfl,ho0,aA⟩))
 go_upto_region 7 with(go_at_call 26;refine(H3 _ kg).mono ?_;rintro e w3 ⟨x1,rfl,hx1,aC⟩);go_upto_region 8 with(go_at_call 27;refine(H2 _ _ kg hx1.rd).mono ?_;rintro e w4 ⟨v1,rfl,ho1,aH⟩);go_upto_region 10 with(go_at_call 19;refine ku (lI (XC ho1) (((XC ho0).gb aC).gb aH) om) fun w5 aO=>?_);have hx5:=(hx1.gb aH).gb aO;go_upto_region 12 with(first
  |(go_at_call 26;refine(H3 _ kg).mono ?_;rintro e w6 ⟨u6,rfl,hu6,bJ⟩)
  |(go_at_call 13;refine ku (jU (hx5.gb bJ).rd hu6.rd om) fun w7 dZ=>?_))
 have hx7:=(hx5.gb bJ).gb dZ;have aAp:Ow w7 w3.heap.size 33 1 Z v1 N f:=((ho1.gb aO).gb bJ).gb dZ;have aAl:Rd w7 Z v0 N N f:=(((((XC ho0).gb aC).gb aH).gb aO).gb bJ).gb dZ;have aGi:Gb w w7:=kg;go_upto_region 14 with(go_at_call 14;refine(qM hx7 om).mono ?_;rintro e w8 ⟨rfl,_,J7⟩);have hs1:=ak.size;have hs2:=aA.size;have hs3:=aC.size;have hb0:∀p,v0.ownBlock=some p->w1.heap.size<=p/\p<w2.heap.size:=fun p h=>⟨(World.ownsRow.lt ho0 p h).1,(World.ownsRow.lt ho0 p h).2⟩;have hbx:∀p,x1.ownBlock=some p->w2.heap.size<=p/\p<w3.heap.size:=fun p h=>⟨(World.ownsRow.lt hx1 p h).1,(World.ownsRow.lt hx1 p h).2⟩;have hb1:∀p,v1.ownBlock=some p->w3.heap.size<=p:=fun p h=>(World.ownsRow.lt ho1 p h).1;have ho8:Ow w8 w3.heap.size 33 1 Z v1 N f:=Ow.mk J7 aAp (fun p h h'=>by have:=hb1 p h;have:=hbx p h';omega);have hr8:Rd w8 Z v0 N N f:=Rd.mk J7 aAl (fun p h h'=>by have:=hb0 p h;have:=hbx p h';omega);have aGh:Gb w w8:=Gb.below aGi (J7.below (base:=w2.heap.size) fun p h=>(hbx p h).1) om;clear J7 hx1 hx5 hx7 hu1 hu6 aAp aAl;go_upto_region 17 with(go_at_call 19;refine ku (lI (XC ho8) hr8 om) fun w9 aU=>?_);go_upto_region 18 with(go_at_call 20;refine(uM 1 om om (ho8.gb aU) om).mono ?_;rintro e wa ⟨rfl,hoa,Sz⟩);have hra:Rd wa Z v0 N N f:=Rd.mk Sz (hr8.gb aU) (fun p h h'=>by have:=hb0 p h;have:=hb1 p h';omega);have aJ1:Gb w wa:=Gb.below (Gb.trans aGh aU) (Sz.below (base:=w3.heap.size) hb1) om;clear Sz;go_upto_region 24 with(go_at_call 28;refine kw (Dx (XC hoa) om) ?_);go_upto_region 25 with(first
  |(go_at_call 26;refine(H3 _ kg).mono ?_;rintro e wb ⟨ub,rfl,hub,lG⟩)
  |(go_at_call 27;refine(H2 _ _ kg hub.rd).mono ?_;rintro e wd ⟨vd,rfl,hod,Uz⟩))
 go_wp2_with (go_at_call 19;refine ku (lI (XC hod) ((hra.gb lG).gb Uz) om) fun we Iz=>?_);go_returns;exact⟨rfl,kg⟩
