import Derived.Test.YtmiekgjgpmfekaaGreatDoorTi
import Derived.Test.YtmiekgjgpmfekaaGreatDoorLaid
import Derived.Test.YtmiekgjgpmfekaaGreatDoorCards
import Derived.Test.YtmiekgjgpmfekaaGreatDoorTie
import Derived.ShutString
import Derived.ChangeOld
import Derived.Below
import Derived.Lib.SmallJoins
import Derived.SevenTiedAt
set_option linter.all false
set_option maxRecDepth 1000000
set_option maxHeartbeats 40000000
open Go.Proofs.YtmiekgjgpmfekaaGreatDoor renaming vI → J
open Go.IntKind renaming i64 → Y
open Go.Value renaming slice → Z
open Go.Proofs.Tryz
namespace Go.Proofs.YtmiekgjgpmfekaaGreatDoor
open Go.RowKit
theorem kG{P:Prop}(h:P:=by
 by_cases e2:q<j
 ·rw[if_neg e1,if_pos e2,if_pos (by omega)]
 ·rw[if_neg e1,if_neg e2,if_neg (by omega)]):P:=h
attribute [local go_sem] aj
theorem DT{a:Option Addr}{n cap:Nat}{g:Nat->Int}{w:World}(ha:oL w Y a n g)(hn:n<=2000000):
  CT 32 #[Z a n cap] w fun e w'=>∃v,e=.returned v/\Ow w' w.heap.size 3 1 Y v n g/\Gb w w':=by
 have hmk:∀w,(Instr.makeSlice 45 (J (n:Int)) (J (n:Int))).run Tryz.prog w=.ok (aB w.heap.size n n) (w.alloc (.cells (madeCells #[J 0] (n*1)) 3)):=fun w=>mO 45 3 (J 0) 1 8 Tryz.underlying45 Zk de n om w;have OB:Hid (Ow (w.alloc (.cells (madeCells #[J 0] n) 3)) w.heap.size 3 1 Y (aB w.heap.size n n) n (fun _=>0)):=by have:=Ow.made w 3 1 #[J 0] Y (z1 _) n (by omega);rw[Nat.mul_one]at this;exact this
 have HA:Hid _:=ha;clear ha;go_enter func32,ntmps32;go_wp2;go_loopw [4] (fun i wr=>∃j:Nat,j<=n/\i=J j/\Ow wr w.heap.size 3 1 Y (aB w.heap.size n n) n (fun q=>if q<j then g q else 0)/\Gb w wr) (fun i _=>n-(intOf i).toNat)
 case atStart=>exact⟨0,Nat.zero_le _,rfl,Ow.congr OB.out (fun q hq=>by rw[if_neg (by omega)]),kg⟩
 case round=>
  obtain⟨j,hj,rfl,hof,hgb⟩:=hrel;have HF:Hid _:=hof;by_cases hlt:j<n
  ·have hlt':(j:Int)<(n:Int):=om;obtain⟨b,cap',e,_,_,_,_,hcz⟩:=hof.at om;simp only[Value.slice.injEq,Option.some.injEq,Addr.mk.injEq,and_true,true_and]at e;obtain⟨rfl,rfl⟩:=e;obtain⟨c0,z0⟩:=hcz j om;rw[if_neg (by omega)]at c0;rcases HA.out with h0|⟨b,off,rfl,hc⟩
   ·omega
   have x0:aj wr b (off+j) (J (g j)):=hgb.old (hc j hlt);obtain⟨x,hx⟩:∃x,g j=x:=⟨_,rfl⟩;rw[hx]at x0;have Hx:Hid _:=hx;clear hof hcz hx hc;go_wp2;go_roundw
   case rel=>
    refine⟨j+1,om,by go_num,?_,kg⟩;refine Ow.congr (Ow.store HF.out j x) (fun q hq=>?_);by_cases e1:q=j
    ·rw[if_pos e1,if_pos om,e1,Hx.out]
    ·exact kG
   case measure=>simp[intOf]<;>omega
  ·obtain rfl:j=n:=om;have uf:¬(j:Int)<(j:Int):=om;clear hof;go_wp2;go_returns;exact⟨_,rfl,Ow.congr HF.out (fun q hq=>by rw[if_pos (by omega)]),hgb⟩
theorem mW{va vb:Value}{n:Nat}{g:Nat->Int}{w:World}(ha:Rd w Y va n n g)(hb:Rd w Y vb n n g)(hn:n<=2000000):
  QB 33 #[va,vb] w (.bool true):=by
 rcases Nat.eq_zero_or_pos n with rfl|hpos
 ·obtain⟨a,ca,rfl,_⟩:=ha;obtain⟨b,cb,rfl,_⟩:=hb;go_enter func33,ntmps33;go_wp2;go_loopw [5] (fun i wr=>i=J 0/\w=wr) (fun _ _=>0)
  case atStart=>exact⟨rfl,rfl⟩
  case round=>
   obtain⟨rfl,rfl⟩:=hrel;go_wp2;go_returns;exact⟨rfl,Gb.refl w⟩
 ·obtain⟨a,ca,rfl,_,_,hca⟩:=ha.at hpos;obtain⟨b,cb,rfl,_,_,hcb⟩:=hb.at hpos;have HA:Hid _:=hca;have HB:Hid _:=hcb;clear hca hcb ha hb;go_enter func33,ntmps33;go_wp2;go_loopw [5] (fun i wr=>∃j:Nat,j<=n/\i=J j/\Gb w wr) (fun i _=>n-(intOf i).toNat)
  case atStart=>exact⟨0,Nat.zero_le _,rfl,Gb.refl w⟩
  case round=>
   obtain⟨j,hj,rfl,hgb⟩:=hrel;by_cases hlt:j<n
   ·have hlt':(j:Int)<(n:Int):=om;have a0:aj wr a j (J (g j)):=hgb.old (HA _ om);have b0:aj wr b j (J (g j)):=hgb.old (HB _ om);generalize g j=x at*
    go_wp2;go_region;all_goals
     go_wp2;go_roundw
     case rel=>exact⟨j+1,om,by go_num,kg⟩
     case measure=>simp[intOf]<;>omega
   ·obtain rfl:j=n:=om;have uf:¬(j:Int)<(j:Int):=om;go_wp2;go_returns;exact⟨rfl,hgb⟩
theorem sQ{v:Value}{base n:Nat}{t:TypeId}{g:Nat->Int}{w:World}(s:Int)(s0:1<=s)(s1:s<=5000000)(ho:Ow w base t 1 Y v n g)(hn:n<=2000000):
  CT 34 #[v,J s] w fun e w'=>e=.returned (J (s+n))/\Ow w' base t 1 Y v n (fun j=>s+j)/\Mk w w' v:=by
 rcases Nat.eq_zero_or_pos n with rfl|hpos
 ·obtain⟨a,ca,rfl,_⟩:=ho.len;have HO:Hid _:=ho;clear ho;go_enter func34,ntmps34;go_wp2;go_loopw [1,5] (fun k i wr=>k=J s/\i=J 0/\w=wr) (fun _ _ _=>0)
  case atStart=>exact⟨rfl,rfl,rfl⟩
  case round=>
   obtain⟨rfl,rfl,rfl⟩:=hrel;go_wp2;go_returns;exact⟨bJ (by first|(simp[go_sem];done)|rfl),Ow.congr HO.out (fun j hj=>om),Mk.refl _ _⟩
 ·obtain⟨b,cap,rfl,hb0,hb1,hc1,hc2,_⟩:=ho.at hpos;have HO:Hid _:=ho;clear ho;go_enter func34,ntmps34;go_wp2;go_loopw [1,5] (fun k i wr=>∃j:Nat,∃x:Int,j<=n/\i=J j/\k=J x/\Hid (x=s+j)/\Ow wr base t 1 Y (aB b n cap) n (fun q=>if q<j then s+q else g q)/\Mk w wr (aB b n cap)) (fun _ i _=>n-(intOf i).toNat)
  case atStart=>exact⟨0,s,Nat.zero_le _,rfl,rfl,by show _=_;omega,Ow.congr HO.out (fun q hq=>by rw[if_neg (by omega)]),Mk.refl _ _⟩
  case round=>
   obtain⟨j,x,hj,rfl,rfl,HX,hof,hmk⟩:=hrel;have HF:Hid _:=hof;have hx:=HX.out;have x0:0<=x:=om;have x1:x<=8000000:=om;by_cases hlt:j<n
   ·have hlt':(j:Int)<(n:Int):=om;obtain⟨b',cap',e,_,_,_,_,hcz⟩:=hof.at hpos;simp only[Value.slice.injEq,Option.some.injEq,Addr.mk.injEq,and_true,true_and]at e;obtain⟨rfl,rfl⟩:=e;obtain⟨c0,z0⟩:=hcz j om;rw[if_neg (by omega)]at c0;clear hof hcz hx;go_wp2;go_roundw
    case rel=>
     refine⟨j+1,x+1,om,by go_num,by go_num,by show _=_;have:=HX.out;omega,?_,?_⟩
     ·refine Ow.congr (Ow.store HF.out j x) (fun q hq=>?_);by_cases e1:q=j
      ·rw[if_pos e1,if_pos om,e1];exact HX.out
      ·exact kG
     ·exact hmk.set _ _
    case measure=>simp[intOf]<;>omega
   ·obtain rfl:j=n:=om;have uf:¬(j:Int)<(j:Int):=om;clear hof hx;go_wp2;go_returns;exact⟨bJ (by have:=HX.out;simp[go_sem];omega),Ow.congr HF.out (fun q hq=>by rw[if_pos (by omega)]),hmk⟩
theorem JA{v:Value}{n:Nat}{w:World}(hr:Rd w Y v n n (fun j=>1+(j:Int)))(hn:n<=2000000):
  QW 35 #[v,J 1] w (J (1+(n:Int))):=by
 rcases Nat.eq_zero_or_pos n with rfl|hpos
 ·obtain⟨a,ca,rfl,_⟩:=hr;go_enter func35,ntmps35;go_wp2;go_loopw [1,5] (fun k i wr=>k=J 1/\i=J 0/\w=wr) (fun _ _ _=>0)
  case atStart=>exact⟨rfl,rfl,rfl⟩
  case round=>
   obtain⟨rfl,rfl,rfl⟩:=hrel;go_wp2;go_returns;exact⟨rfl,rfl⟩
 ·obtain⟨b,cap,rfl,_,_,hc⟩:=hr.at hpos;have HC:Hid _:=hc;clear hr hc;go_enter func35,ntmps35;go_wp2;go_loopw [1,5] (fun k i wr=>∃j:Nat,j<=n/\i=J j/\k=J (1+(j:Int))/\w=wr) (fun _ i _=>n-(intOf i).toNat)
  case atStart=>exact⟨0,Nat.zero_le _,rfl,rfl,rfl⟩
  case round=>
   obtain⟨j,hj,rfl,rfl,rfl⟩:=hrel;by_cases hlt:j<n
   ·have hlt':(j:Int)<(n:Int):=om;have c0:aj w b j (J (1+(j:Int))):=HC _ om;go_wp2;go_roundw
    case rel=>exact⟨j+1,om,by go_num,by go_num,trivial⟩
    case measure=>simp[intOf]<;>omega
   ·obtain rfl:j=n:=om;have uf:¬(j:Int)<(j:Int):=om;go_wp2;go_returns;exact⟨bJ (by first|rfl|go_num),rfl⟩
theorem EO(k:Int)(a1 a2:Option Addr)(n1 cap1 n2 cap2:Nat)(f g F:Nat->Int)(B:Bool)(N:Nat)(hN:N<=64){w:World}(ha1:oL w Y a1 n1 f)(ha2:oL w Y a2 n2 g)(hn1:n1<=1048576)(hn2:n2<=1048576)
  (H1:Hid (∀w v v',Rd w Y v n1 n1 f->Rd w Y v' n2 n2 g->Ba 30 k v v' w B N F))
  (H2:Hid (∀w' v v',Gb w w'->Rd w' Y v n1 n1 f->Rd w' Y v' n2 n2 g->Ba 31 k v v' w' B N F)):
  QB 8 #[J k,Z a1 n1 cap1,Z a2 n2 cap2] w (.bool true):=by
 have H3:Hid (∀w',Gb w w'->CT 32 #[Z a1 n1 cap1] w' fun e w''=>∃v,e=.returned v/\Ow w'' w'.heap.size 3 1 Y v n1 f/\Gb w' w''):=fun w' hg=>DT (ha1.gb hg) om;have H4:Hid (∀w',Gb w w'->CT 32 #[Z a2 n2 cap2] w' fun e w''=>∃v,e=.returned v/\Ow w'' w'.heap.size 3 1 Y v n2 g/\Gb w' w''):=fun w' hg=>DT (ha2.gb hg) om;have hl1:¬(1048576:Int)<(n1:Int):=om;have hl2:¬(1048576:Int)<(n2:Int):=om;clear ha1 ha2;go_enter func8,ntmps8;go_upto_region 6 with(first
  |(go_at_call 32;first
   |(with_reducible refine(H3.out _ kg).mono ?_;rintro e w1 ⟨u1,rfl,hu1,ak⟩)
   |(with_reducible refine(H4.out _ kg).mono ?_;rintro e w2 ⟨u2,rfl,hu2,aA⟩))
  |(go_at_call 30;refine(H1 _ _ _ (jI (hu1.gb aA)) (jI hu2)).mono ?_;rintro e w3 ⟨v0,rfl,ho0,aF⟩))
 go_upto_region 7 with(go_at_call 32;refine(H3 _ kg).mono ?_;rintro e w4 ⟨x1,rfl,hx1,aI⟩);go_upto_region 8 with(go_at_call 32;refine(H4 _ kg).mono ?_;rintro e w5 ⟨x2,rfl,hx2,aT⟩);go_upto_region 9 with(go_at_call 31;refine(H2 _ _ _ kg (jI (hx1.gb aT)) (jI hx2)).mono ?_;rintro e w6 ⟨v1,rfl,ho1,b_⟩);have hy0:=(((jI ho0).gb aI).gb aT).gb b_;go_upto_region 11 with(go_at_call 33;refine ku (mW (jI ho1) hy0 om) fun w7 fQ=>?_);have aE7:=((hx1.gb aT).gb b_).gb fQ;go_upto_region 13 with(first
  |(go_at_call 32;refine(H3 _ kg).mono ?_;rintro e w8 ⟨u8,rfl,hu8,pI⟩)
  |(go_at_call 33;refine ku (mW (jI (aE7.gb pI)) (jI hu8) om) fun w9 aV=>?_))
 have hx29:=(((hx2.gb b_).gb fQ).gb pI).gb aV;go_upto_region 15 with(first
  |(go_at_call 32;refine(H4 _ kg).mono ?_;rintro e wa ⟨ua,rfl,hua,xH⟩)
  |(go_at_call 33;refine ku (mW (jI (hx29.gb xH)) (jI hua) om) fun wb oG=>?_))
 have aGz:=(((aE7.gb pI).gb aV).gb xH).gb oG;have aGy:=(hx29.gb xH).gb oG;have aGL:=((((ho1.gb fQ).gb pI).gb aV).gb xH).gb oG;have aGE:=((((hy0.gb fQ).gb pI).gb aV).gb xH).gb oG;have aIW:Gb w wb:=kg;have s1:=ak.size;have s2:=aA.size;have s3:=aF.size;have s4:=aI.size;have s5:=aT.size;have q0:∀p,v0.ownBlock=some p->w2.heap.size<=p/\p<w3.heap.size:=fun p h=>⟨(World.ownsRow.lt ho0 p h).1,(World.ownsRow.lt ho0 p h).2⟩;have q1:∀p,x1.ownBlock=some p->w3.heap.size<=p/\p<w4.heap.size:=fun p h=>⟨(World.ownsRow.lt hx1 p h).1,(World.ownsRow.lt hx1 p h).2⟩;have q2:∀p,x2.ownBlock=some p->w4.heap.size<=p/\p<w5.heap.size:=fun p h=>⟨(World.ownsRow.lt hx2 p h).1,(World.ownsRow.lt hx2 p h).2⟩;have q3:∀p,v1.ownBlock=some p->w5.heap.size<=p:=fun p h=>(World.ownsRow.lt ho1 p h).1;have Q0:Hid _:=q0;have Q1:Hid _:=q1;have Q2:Hid _:=q2;have Q3:Hid _:=q3;clear q0 q1 q2 q3 aE7 hx29 hu8 hua ho1 hy0 hu1 hu2;go_upto_region 17 with(go_at_call 34;refine(sQ 1 om om aGz om).mono ?_;rintro e wc ⟨rfl,_,hmc⟩);have aGx:=Ow.mk hmc aGy (fun p h h'=>by have:=Q2 p h;have:=Q1 p h';omega);have aGK:=Ow.mk hmc aGL (fun p h h'=>by have:=Q3 p h;have:=Q1 p h';omega);have aGD:=Rd.mk hmc aGE (fun p h h'=>by have:=Q0 p h;have:=Q1 p h';omega);have aIV:Gb w wc:=Gb.below aIW (hmc.below (base:=w3.heap.size) fun p h=>(Q1 p h).1) om;clear hmc aGy aGL aGE aGz;go_upto_region 18 with(go_at_call 34;refine(sQ _ om om aGx om).mono ?_;rintro e wd ⟨rfl,_,hmd⟩);have aFa:=Ow.mk hmd aGK (fun p h h'=>by have:=Q3 p h;have:=Q2 p h';omega);have aE9:=Rd.mk hmd aGD (fun p h h'=>by have:=Q0 p h;have:=Q2 p h';omega);have aIU:Gb w wd:=Gb.below aIV (hmd.below (base:=w4.heap.size) fun p h=>(Q2 p h).1) om;clear hmd aGK aGD aGx;have hz:¬(1+(n1:Int)+(n2:Int))<0:=om;have hz1:¬(1+(N:Int))<0:=om;go_upto_region 20 with(go_at_call 33;refine ku (mW (jI aFa) aE9 om) fun we TI=>?_);go_upto_region 22 with(go_at_call 34;refine(sQ 1 om om (aFa.gb TI) om).mono ?_;rintro e wf ⟨rfl,hof,hmf⟩);have aII:=Rd.mk hmf (aE9.gb TI) (fun p h h'=>by have:=Q0 p h;have:=Q3 p h';omega);have aKz:Gb w wf:=Gb.below (Gb.trans aIU TI) (hmf.below (base:=w5.heap.size) fun p h=>Q3 p h) om;clear hmf aFa aE9;go_upto_region 28 with(go_at_call 35;refine kw (JA (jI hof) om) ?_);go_upto_region 29 with(first
  |(go_at_call 32;first
   |(with_reducible refine(H3.out _ kg).mono ?_;rintro e wg ⟨ug,rfl,hug,aGO⟩)
   |(with_reducible refine(H4.out _ kg).mono ?_;rintro e wh ⟨uh,rfl,huh,aD1⟩))
  |(go_at_call 31;refine(H2 _ _ _ kg (jI (hug.gb aD1)) (jI huh)).mono ?_;rintro e wi ⟨vi,rfl,hoi,aGN⟩))
 go_wp2_with (go_at_call 33;refine ku (mW (jI hoi) (((aII.gb aGO).gb aD1).gb aGN) om) fun wj aJH=>?_);go_returns;exact⟨rfl,kg⟩
theorem Qz{o:Ops}(HS:o.S)(HP:o.I)(HN:RQ o)(HI:o.In){ti:Int->Int}(HTs:TiS ti)(HTi:TiI ti)(k:Int)(a1 a2:Option Addr)(n1 cap1 n2 cap2:Nat)(f g:Nat->Int){w:World}(hw:Fm w)(ha1:oL w Y a1 n1 f)(ha2:oL w Y a2 n2 g)(hn1:n1<=1048576)(hn2:n2<=1048576):
  QB 8 #[J k,Z a1 n1 cap1,Z a2 n2 cap2] w (.bool true):=by
 by_cases h:J5 k n1 n2 f g
 ·exact EO k a1 a2 n1 cap1 n2 cap2 f g (pF o ti k.toNat f g) true (2^k.toNat) (uJ (by have:=h.2.1;omega)) ha1 ha2 hn1 hn2 (fun w v v' r1 r2=>JX HS HI HTs k h r1.ro r2.ro) (fun w' v v' hg r1 r2=>aAC HP HN HI HTi k h (hw.gb hg) r1.ro r2.ro)
 ·exact EO k a1 a2 n1 cap1 n2 cap2 f g (fun _=>0) false 0 om ha1 ha2 hn1 hn2 (fun w v v' r1 r2=>(Dz h om om).1 r1.ro r2.ro) (fun w' v v' hg r1 r2=>(Dz h om om).2 HN (hw.gb hg) r1.ro r2.ro)
theorem MW(k:Int)(a1 a2:Option Addr)(n1 cap1 n2 cap2:Nat)(f g:Nat->Int){w:World}(hw:Fm w)(ha1:oL w Y a1 n1 f)(ha2:oL w Y a2 n2 g)(hn1:n1<=1048576)(hn2:n2<=1048576):
  QB 8 #[J k,Z a1 n1 cap1,Z a2 n2 cap2] w (.bool true):=by
 obtain⟨ch0⟩:=TU;have hch:Inhabited Ch:=⟨ch0⟩;exact Qz EG Je QX lZ SG SH k a1 a2 n1 cap1 n2 cap2 f g hw ha1 ha2 hn1 hn2
end Go.Proofs.YtmiekgjgpmfekaaGreatDoor
namespace Go.Proofs.YtmiekgjgpmfekaaGreatDoor.fnExactProduct
open Go.ChangeShapes Go.WideShapes Go.ChangeAt Go.RowKit Go.Joins
theorem laidOut:laidOutB Tryz.prog=true:=by kernel_rfl
theorem Y7(k:Int)(a1 a2:Option Addr)(len1 cap1 len2 cap2:Nat)(w:World)(h:(1048576:Int)<(len1:Int)):
  QB 8 #[J k,Z a1 len1 cap1,Z a2 len2 cap2] w (.bool true):=by
 go_enter func8,ntmps8;go_wp2;go_ret;exact⟨rfl,Gb.refl _⟩
theorem aGu(k:Int)(a1 a2:Option Addr)(len1 cap1 len2 cap2:Nat)(w:World)(h1:¬(1048576:Int)<(len1:Int))(h:(1048576:Int)<(len2:Int)):
  QB 8 #[J k,Z a1 len1 cap1,Z a2 len2 cap2] w (.bool true):=by
 go_enter func8,ntmps8;go_wp2;go_ret;exact⟨rfl,Gb.refl _⟩
theorem aAq{w:World}{a1:Option Addr}{len1:Nat}(h:len1=0\/∃(x:Addr) (zs:List Int),a1=some x/\len1<=zs.length/\(∀i,i<zs.length->w.cell? (x.add i)=some (J (zs.getD i 0)))/\∀n ∈ zs,(Lit.int Y n).wf =true):∃f,oL w Y a1 len1 f:=by
 rcases(show len1=0\/0<len1 by omega)with e|hp
 ·exact⟨fun _=>0,.inl e⟩
 ·rcases h with e|⟨x,zs,rfl,hz,hc,hwf⟩
  ·omega
  ·obtain⟨b,off,rfl,hcell⟩:=ints_at hc om;exact⟨fun i=>zs.getD i 0,.inr ⟨b,off,rfl,fun i hi=>hcell i om⟩⟩
theorem walk(k:Int)(a1 a2:Option Addr)(len1 cap1 len2 cap2:Nat)(w:World)(hw:Fm w)(h1:len1=0\/∃(x:Addr) (zs:List Int),a1=some x/\len1<=zs.length/\(∀i,i<zs.length->w.cell? (x.add i)=some (J (zs.getD i 0)))/\∀n ∈ zs,(Lit.int Y n).wf =true)(h2:len2=0\/∃(x:Addr) (zs:List Int),a2=some x/\len2<=zs.length/\(∀i,i<zs.length->w.cell? (x.add i)=some (J (zs.getD i 0)))/\∀n ∈ zs,(Lit.int Y n).wf =true):
  QB 8 #[J k,Z a1 len1 cap1,Z a2 len2 cap2] w (.bool true):=by
 obtain⟨f,hf⟩:=aAq h1;obtain⟨g,hg⟩:=aAq h2;rcases(show len1<=1048576\/1048576<len1 by omega)with hl|hl
 ·rcases(show len2<=1048576\/1048576<len2 by omega)with hm|hm
  ·exact MW k a1 a2 len1 cap1 len2 cap2 f g hw hf hg hl hm
  ·exact aGu k a1 a2 len1 cap1 len2 cap2 w om om
 ·exact Y7 k a1 a2 len1 cap1 len2 cap2 w om
theorem lifted(os:Os)(started:os.Started)(H:Type)(enc:TypeId × Value->H):
  ReturnsInHanded {} Tryz.checked os 8 .any (fun w args=>(Rows.fnExactProductSpec.pre enc Tryz.prog Tryz.f8 [] false w args/\laidMetH Tryz.prog EP w)/\sizedMet enc Tryz.prog Tryz.f8 (OpenSpec.ofChange Rows.fnExactProductSpec) false w args)
   (Rows.fnExactProductSpec.post enc Tryz.prog Tryz.f8 false true false false):=by
 refine returnsInHanded_of_change_and (C:=Tryz.checked) (X:=fun w _=>laidMetH Tryz.prog EP w) (fun _ _ _ hh h=>h.of_heap hh) aIs started (by kernel_rfl) func8
  (ChangeSpec.witness_shaped (enc:=enc) (C:=Tryz.checked) (os:=os) (X:=fun w _=>laidMetH Tryz.prog EP w) false (World.doorLaid Tryz.prog 16 os) #[J 0,Z none 0 0,Z none 0 0] 8 rfl (World.shaped_of_RefB (by kernel_rfl) (by kernel_rfl)) (by kernel_rfl) (by kernel_rfl) (by kernel_rfl) (door_met os _)) ?_
 intro W base args ds gs before hval0 hW _ _ hL _;have hval:∀(j:Nat) t v,Tryz.f8.params[j]?=some t->args[j]?=some v->Value.okWide Tryz.prog W .any base t v:=hval0;have hW':=hW;obtain⟨p,q,hA0,hV0,rfl,hfz,hnd⟩:=hW;have hA:DataW.TrodAll enc Tryz.prog W 0 (fun _=>true) true Tryz.f8.params.toList args.toList ds p:=hA0;have hV:DataW.TrodVars enc Tryz.prog W (fun _=>true) ["loop.example/s01330/impl.formats"] gs q:=hV0;rw[Tryz.params8]at hA hval;obtain⟨v0,vs0,d0,ds0,p0,q0,hargs,rfl,rfl,h0,r0⟩:=trodAll_cons hA;obtain⟨v1,vs1,d1,ds1,p1,q1,rfl,rfl,rfl,h1,r1⟩:=trodAll_cons r0;obtain⟨v2,vs2,d2,ds2,p2,q2,rfl,rfl,rfl,h2,r2⟩:=trodAll_cons r1;obtain⟨rfl,rfl,rfl⟩:=trodAll_nil r2;obtain rfl:args=#[v0,v1,v2]:=by cases args;simp_all
 obtain rfl:=jy hL hV;obtain⟨a0,rfl,rfl,rfl,w0⟩:=open_int Tryz.underlying3 (hval 0 3 v0 rfl rfl) h0;have b0:=bounds_i64 w0;obtain⟨a1,len1,cap1,rfl⟩:=okWide_slice Tryz.underlying45 (hval 1 45 v1 rfl rfl);have k1:=h1;have lt1:∀x ∈ p1,x.block<W.heap.size:=by obtain⟨m,hm⟩:=k1;exact DataW.trod_lt m _ _ _ hm
 have w1:len1=0\/∃(x:Addr) (zs:List Int),a1=some x/\len1<=zs.length/\(∀i,i<zs.length->W.cell? (x.add i)=some (J (zs.getD i 0)))/\∀n ∈ zs,(Lit.int Y n).wf =true:=by
  obtain⟨fuel,hf⟩:=h1;rcases open_ints Tryz.underlying45 Tryz.underlying3 (by kernel_rfl) hf with⟨hcs,_⟩|⟨x,l,c,zs,hcs,_,hl,hm,hz,_,hcell,hwz⟩
  ·simp[Value.cells]at hcs;obtain⟨rfl,rfl,rfl⟩:=hcs;exact .inl rfl
  ·simp[Value.cells]at hcs;obtain⟨rfl,rfl,rfl⟩:=hcs;have hz':zs.length=cap1:=by simpa using hz
   exact .inr ⟨x,zs,rfl,om,hcell,hwz⟩
 obtain⟨a2,len2,cap2,rfl⟩:=okWide_slice Tryz.underlying45 (hval 2 45 v2 rfl rfl);have k2:=h2;have lt2:∀x ∈ p2,x.block<W.heap.size:=by obtain⟨m,hm⟩:=k2;exact DataW.trod_lt m _ _ _ hm
 have w2:len2=0\/∃(x:Addr) (zs:List Int),a2=some x/\len2<=zs.length/\(∀i,i<zs.length->W.cell? (x.add i)=some (J (zs.getD i 0)))/\∀n ∈ zs,(Lit.int Y n).wf =true:=by
  obtain⟨fuel,hf⟩:=h2;rcases open_ints Tryz.underlying45 Tryz.underlying3 (by kernel_rfl) hf with⟨hcs,_⟩|⟨x,l,c,zs,hcs,_,hl,hm,hz,_,hcell,hwz⟩
  ·simp[Value.cells]at hcs;obtain⟨rfl,rfl,rfl⟩:=hcs;exact .inl rfl
  ·simp[Value.cells]at hcs;obtain⟨rfl,rfl,rfl⟩:=hcs;have hz':zs.length=cap2:=by simpa using hz
   exact .inr ⟨x,zs,rfl,om,hcell,hwz⟩
 clear hA0 hV0 hval0;refine(walk a0 a1 a2 len1 cap1 len2 cap2 W (Rj hL) w1 w2).mono fun e W' ⟨he,hgb⟩=>?_;have bel:Below W.heap.size W W':=hgb;subst he;exact⟨_,rfl,_,_,_,[],_,_,hW',(trodAll_cons_mk (shut_bool Tryz.underlying4 _) trodAll_mk0),(trodAll_cons_mk (shut_int Tryz.underlying3 w0) (trodAll_cons_mk (Below.trod laidOut (by kernel_rfl) (of_decide_eq_true (by kernel_rfl)) k1 bel lt1) (trodAll_cons_mk (Below.trod laidOut (by kernel_rfl) (of_decide_eq_true (by kernel_rfl)) k2 bel lt2) trodAll_mk0))),jX enc hgb (cells_of_laid hL) _,Below.frame hgb _,fun h=>by cases h⟩
theorem over:Rows.fnExactProductRow.holds Tryz.pinned (OpenSpec.ofChange Rows.fnExactProductSpec):=
 OpenClaim.holds_of_wide 8 Tryz.f8 rfl rfl rfl rfl rfl rfl rfl ⟨rfl,rfl,rfl,rfl,rfl⟩ rfl rfl rfl rfl rfl (by kernel_rfl) func8 (by kernel_rfl)
  (of_decide_eq_true (by kernel_rfl)) (by unfold Func.isWrapper;first|(rw[if_pos (by decide+kernel)];kernel_rfl)|(rw[if_neg (by decide+kernel)];exact⟨rfl,rfl⟩))
  (fun os started H enc _=>lifted os started H enc)
end Go.Proofs.YtmiekgjgpmfekaaGreatDoor.fnExactProduct
namespace Go.Proofs.YtmiekgjgpmfekaaGreatDoor
open Go
theorem FnExactProduct_holds:Rows.FnExactProductCardSaid:=
 Claim7.holds_tied_plain_at .later [] [.wider] true (true,"4a6e21431519bc8fa0358fc74cf5071266168f51db2d33ec99ab440d42f880d6") false
  fnExactProduct.over (fun _ h=>by cases h) (by kernel_rfl) (fun _ h=>by cases h) fnExactProduct_row_tie rfl ⟨rfl,rfl⟩ (by kernel_rfl) rfl
  (fun f fn hf hfn=>by
   obtain rfl:f=8:=Option.some.inj ((show Tryz.prog.funcNamed "loop.example/s01330/laws.FnExactProduct" =some 8 by kernel_rfl).symm.trans hf)|>.symm
   obtain rfl:fn=Tryz.f8:=(Option.some.inj (func8.symm.trans hfn)).symm;exact⟨by kernel_rfl,fun j t ht=>by
    rw[Tryz.params8]at ht;have hm:t ∈ [3,45]:=by simpa using Array.mem_of_getElem? ht
    have hall:([3,45].all fun u=> !Tryz.prog.wantsStandIn u)=true:=by kernel_rfl
    exact(show Tryz.prog.wantsStandIn t=false by simpa using List.all_eq_true.1 hall t hm)⟩)
  (by kernel_rfl)
#print axioms FnExactProduct_holds
