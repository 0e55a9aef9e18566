import Derived.Test.YtnbbfeknbfohhaaGreatDoorH5
import Derived.Test.YtnbbfeknbfohhaaGreatDoorH3
import Derived.Deep.DeepCutAuto
import Derived.Test.YtnbbfeknbfohhaaGreatDoorH4
import Derived.Test.YtnbbfeknbfohhaaGreatDoorHC
set_option linter.unusedVariables false
set_option linter.unusedSimpArgs false
set_option maxRecDepth 1000000
set_option maxHeartbeats 40000000
open Go.Value renaming int → J, agg → V, slice → U, bool → I
open Go.IntKind renaming i64 → Y, u64 → O
open Go.Ending renaming returned → E
open Go.Proofs.Tryz
namespace Go.Proofs.YtnbbfeknbfohhaaGreatDoor
open Go.RowKit
theorem Y6{P:Prop}(h:P:=by
 go_enter func94,ntmps94
 go_wp2_with (first
  |(go_at_call 117;refine kw (HF.out _) ?_)
  |(go_at_call 31;first|(with_reducible refine(fB.out _).mono ?_;rintro e w1 ⟨rfl,aj⟩;obtain⟨dK,fZ,jY,fV⟩:=aj.y2 w.heap.size 0 1 (J O 0) (J Y 0);have hz0:=au dK))
  |(go_at_call 118;first|(with_reducible refine(jU.out _).mono ?_;rintro e va ⟨rfl,aC⟩;obtain⟨kC,gu,ku,f_⟩:=aC.y2 w.heap.size 0 1 (J O 0) (J Y 0);obtain⟨gJ,gI,gG,gB⟩:=aC.e4 w1.heap.size 0 1 2 3 (J Y ca) (J Y sa) (J Y xa) (J O ga)))
  |(go_at_call 119;refine(HL.out _).mono ?_;rintro e w9 ⟨rfl,aP⟩;obtain⟨fP,fU,fO,fQ⟩:=aP.y2 w.heap.size 0 1 (J O 0) (J Y 0)))
 refine bodyPost_ret (v:=V #[J O z,J Y fl]) (by simp[results,Tryz.results94,go_sem,fP,fO]) rfl ⟨rfl,?_⟩
 exact Gb.g):P:=h
theorem Y7{P:Prop}(h:P:=by
 go_enter func94,ntmps94
 go_wp2_with (first
  |(go_at_call 117;refine kw (HF.out _) ?_)
  |(go_at_call 31;first|(with_reducible refine(fB.out _).mono ?_;rintro e w1 ⟨rfl,aj⟩;obtain⟨dK,fZ,jY,fV⟩:=aj.y2 w.heap.size 0 1 (J O 0) (J Y 0);have hz0:=au dK))
  |(go_at_call 118;first|(with_reducible refine(jU.out _).mono ?_;rintro e va ⟨rfl,aC⟩;obtain⟨kC,gu,ku,f_⟩:=aC.y2 w.heap.size 0 1 (J O 0) (J Y 0);obtain⟨gJ,gI,gG,gB⟩:=aC.e4 w1.heap.size 0 1 2 3 (J Y 1) (J Y 0) (J Y xa) (J O ((A:Int)))))
  |(go_at_call 115;refine kw (HP.out _) ?_)
  |(go_at_call 150;refine(HB.out _).mono ?_;rintro e n1 ⟨b1,k1,q1,hb1,rfl,lT⟩;obtain⟨zK,qP,DL,qO⟩:=lT.y2 w.heap.size 0 1 (J O 0) (J Y 0);obtain⟨mp0,mp1,mp2,mp3⟩:=lT.e4 w1.heap.size 0 1 2 3 (J Y 1) (J Y 0) (J Y xa) (J O ((A:Int))))
  |(go_at_call 180;refine(HS.out _ _ hb1).mono ?_;rintro e n2 ⟨b2,k2,q2,hb2,rfl,Aa⟩;obtain⟨WE,DJ,XL,DI⟩:=Aa.y2 w.heap.size 0 1 (J O 0) (J Y 0);obtain⟨np0,np1,np2,np3⟩:=Aa.e4 w1.heap.size 0 1 2 3 (J Y 1) (J Y 0) (J Y xa) (J O ((A:Int))))
  |(go_at_call 181;refine(WJ.out _ _ hb2).mono ?_;rintro e n3 ⟨b3,k3,q3,hb3,rfl,z_⟩;obtain⟨AV,Un,AU,Um⟩:=z_.y2 w.heap.size 0 1 (J O 0) (J Y 0);obtain⟨op0,op1,op2,op3⟩:=z_.e4 w1.heap.size 0 1 2 3 (J Y 1) (J Y 0) (J Y xa) (J O ((A:Int))))
  |(go_at_call 182;refine(HM.out _ _ hb3).mono ?_;rintro e n4 ⟨b4,k4,q4,hb4,rfl,vC⟩;obtain⟨sr0,aEW,sr1,aEV⟩:=vC.y2 w.heap.size 0 1 (J O 0) (J Y 0);obtain⟨sp0,sp1,sp2,sp3⟩:=vC.e4 w1.heap.size 0 1 2 3 (J Y 1) (J Y 0) (J Y xa) (J O ((A:Int))))
  |(go_at_call 129;refine(HCm.out _ _ _ hb4 (aB.gb (aB.gb hb2 z_) vC)).mono ?_;rintro e n5 ⟨rfl,CJ⟩;obtain⟨tr0,aBP,tr1,aBO⟩:=CJ.y2 w.heap.size 0 1 (J O 0) (J Y 0);obtain⟨tp0,tp1,tp2,tp3⟩:=CJ.e4 w1.heap.size 0 1 2 3 (J Y 1) (J Y 0) (J Y xa) (J O ((A:Int))))
  |(go_at_call 65;with_reducible refine(HR.out _ _ (aB.gb (aB.gb hb3 vC) CJ)).mono ?_;rintro e w9 ⟨z,fl,hq',rfl,aP⟩;obtain⟨fP,fU,fO,fQ⟩:=aP.y2 w.heap.size 0 1 (J O 0) (J Y 0)))
 refine bodyPost_ret (v:=V #[J O z,J Y fl]) (by simp[results,Tryz.results94,go_sem,fP,fO]) rfl ⟨z,fl,hq',rfl,?_⟩
 exact Gb.g):P:=h
theorem vX(f mode a:Int)(HF:KW 117 #[J Y f,J Y mode,J O a,J O a] (I false))(z fl:Int)(HL:KR 63 #[J Y f] (V #[J O z,J Y fl]))(w:World):
  QB 94 #[J Y f,J Y mode,J O a] w (V #[J O z,J Y fl]):=by
 go_enter func94,ntmps94
 go_wp2_with (first
  |(go_at_call 117;refine kw (HF.out _) ?_)
  |(go_at_call 63;refine(HL.out _).mono ?_;rintro e w9 ⟨rfl,aP⟩;obtain⟨fP,fU,fO,fQ⟩:=aP.y2 w.heap.size 0 1 (J O 0) (J Y 0)))
 refine bodyPost_ret (v:=V #[J O z,J Y fl]) (by simp[results,Tryz.results94,go_sem,fP,fO]) rfl ⟨rfl,?_⟩
 exact Gb.g
theorem OU(f mode a ca sa xa ga:Int)(HF:KW 117 #[J Y f,J Y mode,J O a,J O a] (I true))(fB:KR 31 #[J Y f,J O a] (V #[J Y ca,J Y sa,J Y xa,J O ga]))(jU:KR 118 #[V #[J Y ca,J Y sa,J Y xa,J O ga]] (I true))(t:Bool)(e5:(ca==4)=t)(z fl:Int)(HL:KR 119 #[J Y f,I t] (V #[J O z,J Y fl]))(w:World):
  QB 94 #[J Y f,J Y mode,J O a] w (V #[J O z,J Y fl]):=by
 cases t
 ·exact Y6
 ·exact Y6
theorem Jp(f mode a ca sa xa ga:Int)(HF:KW 117 #[J Y f,J Y mode,J O a,J O a] (I true))(fB:KR 31 #[J Y f,J O a] (V #[J Y ca,J Y sa,J Y xa,J O ga]))(jU:KR 118 #[V #[J Y ca,J Y sa,J Y xa,J O ga]] (I false))(e1:ca=0)(z fl:Int)(HL:KR 64 #[J Y f,J Y sa] (V #[J O z,J Y fl]))(w:World):
  QB 94 #[J Y f,J Y mode,J O a] w (V #[J O z,J Y fl]):=by
 subst e1
 go_enter func94,ntmps94
 go_wp2_with (first
  |(go_at_call 117;refine kw (HF.out _) ?_)
  |(go_at_call 31;first|(with_reducible refine(fB.out _).mono ?_;rintro e w1 ⟨rfl,aj⟩;obtain⟨dK,fZ,jY,fV⟩:=aj.y2 w.heap.size 0 1 (J O 0) (J Y 0);have hz0:=au dK))
  |(go_at_call 118;first|(with_reducible refine(jU.out _).mono ?_;rintro e va ⟨rfl,aC⟩;obtain⟨kC,gu,ku,f_⟩:=aC.y2 w.heap.size 0 1 (J O 0) (J Y 0);obtain⟨gJ,gI,gG,gB⟩:=aC.e4 w1.heap.size 0 1 2 3 (J Y 0) (J Y sa) (J Y xa) (J O ga)))
  |(go_at_call 64;refine(HL.out _).mono ?_;rintro e w9 ⟨rfl,aP⟩;obtain⟨fP,fU,fO,fQ⟩:=aP.y2 w.heap.size 0 1 (J O 0) (J Y 0)))
 refine bodyPost_ret (v:=V #[J O z,J Y fl]) (by simp[results,Tryz.results94,go_sem,fP,fO]) rfl ⟨rfl,?_⟩
 exact Gb.g
theorem OT(f mode a ca sa xa ga:Int)(HF:KW 117 #[J Y f,J Y mode,J O a,J O a] (I true))(fB:KR 31 #[J Y f,J O a] (V #[J Y ca,J Y sa,J Y xa,J O ga]))(jU:KR 118 #[V #[J Y ca,J Y sa,J Y xa,J O ga]] (I false))(e1:(ca==0)=false)(e2:sa=1)(z fl:Int)(HL:KR 63 #[J Y f] (V #[J O z,J Y fl]))(w:World):
  QB 94 #[J Y f,J Y mode,J O a] w (V #[J O z,J Y fl]):=by
 subst e2
 go_enter func94,ntmps94
 go_wp2_with (first
  |(go_at_call 117;refine kw (HF.out _) ?_)
  |(go_at_call 31;first|(with_reducible refine(fB.out _).mono ?_;rintro e w1 ⟨rfl,aj⟩;obtain⟨dK,fZ,jY,fV⟩:=aj.y2 w.heap.size 0 1 (J O 0) (J Y 0);have hz0:=au dK))
  |(go_at_call 118;first|(with_reducible refine(jU.out _).mono ?_;rintro e va ⟨rfl,aC⟩;obtain⟨kC,gu,ku,f_⟩:=aC.y2 w.heap.size 0 1 (J O 0) (J Y 0);obtain⟨gJ,gI,gG,gB⟩:=aC.e4 w1.heap.size 0 1 2 3 (J Y ca) (J Y 1) (J Y xa) (J O ga)))
  |(go_at_call 63;refine(HL.out _).mono ?_;rintro e w9 ⟨rfl,aP⟩;obtain⟨fP,fU,fO,fQ⟩:=aP.y2 w.heap.size 0 1 (J O 0) (J Y 0)))
 refine bodyPost_ret (v:=V #[J O z,J Y fl]) (by simp[results,Tryz.results94,go_sem,fP,fO]) rfl ⟨rfl,?_⟩
 exact Gb.g
theorem OV(f mode a ca sa xa ga:Int)(HF:KW 117 #[J Y f,J Y mode,J O a,J O a] (I true))(fB:KR 31 #[J Y f,J O a] (V #[J Y ca,J Y sa,J Y xa,J O ga]))(jU:KR 118 #[V #[J Y ca,J Y sa,J Y xa,J O ga]] (I false))(e1:ca=2)(e2:sa=0)(z fl:Int)(HL:KR 167 #[J Y f,J Y 0] (V #[J O z,J Y fl]))(w:World):
  QB 94 #[J Y f,J Y mode,J O a] w (V #[J O z,J Y fl]):=by
 subst e1 e2
 go_enter func94,ntmps94
 go_wp2_with (first
  |(go_at_call 117;refine kw (HF.out _) ?_)
  |(go_at_call 31;first|(with_reducible refine(fB.out _).mono ?_;rintro e w1 ⟨rfl,aj⟩;obtain⟨dK,fZ,jY,fV⟩:=aj.y2 w.heap.size 0 1 (J O 0) (J Y 0);have hz0:=au dK))
  |(go_at_call 118;first|(with_reducible refine(jU.out _).mono ?_;rintro e va ⟨rfl,aC⟩;obtain⟨kC,gu,ku,f_⟩:=aC.y2 w.heap.size 0 1 (J O 0) (J Y 0);obtain⟨gJ,gI,gG,gB⟩:=aC.e4 w1.heap.size 0 1 2 3 (J Y 2) (J Y 0) (J Y xa) (J O ga)))
  |(go_at_call 167;refine(HL.out _).mono ?_;rintro e w9 ⟨rfl,aP⟩;obtain⟨fP,fU,fO,fQ⟩:=aP.y2 w.heap.size 0 1 (J O 0) (J Y 0)))
 refine bodyPost_ret (v:=V #[J O z,J Y fl]) (by simp[results,Tryz.results94,go_sem,fP,fO]) rfl ⟨rfl,?_⟩
 exact Gb.g
theorem OQ(f mode a ca sa xa ga:Int)(HF:KW 117 #[J Y f,J Y mode,J O a,J O a] (I true))(fB:KR 31 #[J Y f,J O a] (V #[J Y ca,J Y sa,J Y xa,J O ga]))(jU:KR 118 #[V #[J Y ca,J Y sa,J Y xa,J O ga]] (I false))(e1:ca=1)(e2:sa=0)(A:Nat)(e3:ga=(A:Int))(hA:A<18446744073709551616)(x0:-50000≤xa)(x1:xa≤50000)(p:Int)(p0:0≤p)(p1:p≤60)(HP:KW 115 #[J Y f] (J Y p))(P:Nat)(P0 d0 d q r0:Int)(hP0:p+8=P0)(hd0:xa-P0=d0)(hr1:d0.tmod 2=r0)(hr2:(r0 != 0)=true)(hP:P0+1=(P:Int))(hPb:P≤70)(hd:xa-(P:Int)=d)(hq:d.tdiv 2=q)(hqw:wrap64 q=q)(rest:Bool)(z0:Int)(hz:(z0 != 0)=rest)(Rt:Nat)(WJ:Hid (∀v w,aB 8 w v (A*2^P)→CT 181 #[v] w fun e w'=>∃b k c,aB 8 w' (U (some ⟨b,0,none⟩) k c) Rt∧e=E (U (some ⟨b,0,none⟩) k c)∧Gb w w'))(HCm:Hid (∀v v' w,aB 16 w v (Rt*Rt)→aB 8 w v' (A*2^P)→QB 129 #[v,v'] w (J Y z0)))(Q:Int→Int→Prop)(HR:Hid (∀v w,aB 8 w v Rt→CT 65 #[J Y f,J Y mode,V #[J Y 0,v,J Y q,I rest]] w fun e w'=>∃z fl,Q z fl∧e=E (V #[J O z,J Y fl])∧Gb w w'))(w:World):
  CT 94 #[J Y f,J Y mode,J O a] w fun e w'=>∃z fl,Q z fl∧e=E (V #[J O z,J Y fl])∧Gb w w':=by
 subst e1 e2 e3
 have HB:Hid (∀w,CT 150 #[J O (A:Int)] w fun e w'=>∃b k c,aB 2 w' (U (some ⟨b,0,none⟩) k c) A∧e=E (U (some ⟨b,0,none⟩) k c)∧Gb w w'):=fun w=>b_ (dU A hA w)
 have HS:Hid (∀v w,aB 2 w v A→CT 180 #[v,J Y (P:Int)] w fun e w'=>∃b k c,aB 8 w' (U (some ⟨b,0,none⟩) k c) (A*2^P)∧e=E (U (some ⟨b,0,none⟩) k c)∧Gb w w'):=fun v w ⟨n,a1,a2⟩=>b_ ((eP a2 om P om).mono (fun e w' ⟨v,k,c1,c2,c3,c4⟩=>⟨v,k,c1,c2,om,c4⟩))
 have HM:Hid (∀v w,aB 8 w v Rt→CT 182 #[v,v] w fun e w'=>∃b k c,aB 16 w' (U (some ⟨b,0,none⟩) k c) (Rt*Rt)∧e=E (U (some ⟨b,0,none⟩) k c)∧Gb w w'):=fun v w ⟨n,a1,a2⟩=>b_ ((rP a2 om a2 om).mono (fun e w' ⟨v,k,c1,c2,c3,c4⟩=>⟨v,k,c1,c2,om,c4⟩))
 generalize A*2^P=X at*
 generalize Rt*Rt=XX at*
 have aEa:(P:Int)≤70:=om
 have hpn:-100≤P0:=om
 have hpm:P0≤100:=om
 exact Y7
theorem Jq(f mode a ca sa xa ga:Int)(HF:KW 117 #[J Y f,J Y mode,J O a,J O a] (I true))(fB:KR 31 #[J Y f,J O a] (V #[J Y ca,J Y sa,J Y xa,J O ga]))(jU:KR 118 #[V #[J Y ca,J Y sa,J Y xa,J O ga]] (I false))(e1:ca=1)(e2:sa=0)(A:Nat)(e3:ga=(A:Int))(hA:A<18446744073709551616)(x0:-50000≤xa)(x1:xa≤50000)(p:Int)(p0:0≤p)(p1:p≤60)(HP:KW 115 #[J Y f] (J Y p))(P:Nat)(d q r0:Int)(hP0:p+8=(P:Int))(hPb:P≤70)(hd:xa-(P:Int)=d)(hr1:d.tmod 2=r0)(hr2:(r0 != 0)=false)(hq:d.tdiv 2=q)(hqw:wrap64 q=q)(rest:Bool)(z0:Int)(hz:(z0 != 0)=rest)(Rt:Nat)(WJ:Hid (∀v w,aB 8 w v (A*2^P)→CT 181 #[v] w fun e w'=>∃b k c,aB 8 w' (U (some ⟨b,0,none⟩) k c) Rt∧e=E (U (some ⟨b,0,none⟩) k c)∧Gb w w'))(HCm:Hid (∀v v' w,aB 16 w v (Rt*Rt)→aB 8 w v' (A*2^P)→QB 129 #[v,v'] w (J Y z0)))(Q:Int→Int→Prop)(HR:Hid (∀v w,aB 8 w v Rt→CT 65 #[J Y f,J Y mode,V #[J Y 0,v,J Y q,I rest]] w fun e w'=>∃z fl,Q z fl∧e=E (V #[J O z,J Y fl])∧Gb w w'))(w:World):
  CT 94 #[J Y f,J Y mode,J O a] w fun e w'=>∃z fl,Q z fl∧e=E (V #[J O z,J Y fl])∧Gb w w':=by
 subst e1 e2 e3
 have HB:Hid (∀w,CT 150 #[J O (A:Int)] w fun e w'=>∃b k c,aB 2 w' (U (some ⟨b,0,none⟩) k c) A∧e=E (U (some ⟨b,0,none⟩) k c)∧Gb w w'):=fun w=>b_ (dU A hA w)
 have HS:Hid (∀v w,aB 2 w v A→CT 180 #[v,J Y (P:Int)] w fun e w'=>∃b k c,aB 8 w' (U (some ⟨b,0,none⟩) k c) (A*2^P)∧e=E (U (some ⟨b,0,none⟩) k c)∧Gb w w'):=fun v w ⟨n,a1,a2⟩=>b_ ((eP a2 om P om).mono (fun e w' ⟨v,k,c1,c2,c3,c4⟩=>⟨v,k,c1,c2,om,c4⟩))
 have HM:Hid (∀v w,aB 8 w v Rt→CT 182 #[v,v] w fun e w'=>∃b k c,aB 16 w' (U (some ⟨b,0,none⟩) k c) (Rt*Rt)∧e=E (U (some ⟨b,0,none⟩) k c)∧Gb w w'):=fun v w ⟨n,a1,a2⟩=>b_ ((rP a2 om a2 om).mono (fun e w' ⟨v,k,c1,c2,c3,c4⟩=>⟨v,k,c1,c2,om,c4⟩))
 generalize A*2^P=X at*
 generalize Rt*Rt=XX at*
 have aEa:(P:Int)≤70:=om
 exact Y7
theorem KC(n:Int):bits .and Y n 1=n%2:=by
 have h1:(BitVec.ofInt 64 1).toNat =2^1-1:=de
 have h2:(BitVec.ofInt 64 n&&&BitVec.ofInt 64 1).toNat =(n%((2^64:Nat):Int)).toNat %2^1:=by
  rw[BitVec.toNat_and,BitVec.toNat_ofInt,h1,Nat.and_two_pow_sub_one_eq_mod]
 show IntKind.i64.wrap ((BitVec.ofInt 64 n&&&BitVec.ofInt 64 1).toNat :Nat)=n%2
 rw[h2,IntKind.wrap_i64]
 omega
def dn:Nat→Nat
 |0=>0
 |m+1=>if(dn m+1)*(dn m+1)≤m+1 then dn m+1 else dn m
theorem zq(m:Nat):lg m (dn m):=by
 induction m with
 |zero=>exact⟨Nat.zero_le _,de⟩
 |succ m ih=>
  obtain⟨h1,h2⟩:=ih
  rw[dn]
  split
  ·rename_i h
   refine⟨h,?_⟩
   have:(dn m+1)*(dn m+1)+(dn m+1)+(dn m+1)+1=(dn m+1+1)*(dn m+1+1):=by
    simp only[Nat.add_mul,Nat.mul_add];omega
   omega
  ·rename_i h
   exact⟨om,om⟩
def iG(p e:Int):Nat:=if(e-(p+8))%2=0 then p.toNat+8 else p.toNat+9
def sqM(P A:Nat):Nat:=2*dn (A*2^P)+nC (decide (dn (A*2^P)*dn (A*2^P)≠A*2^P))
def jl(p mode:Int)(x y:bI):bI:=
 if 3≤x.c then⟨x.c,0,0,0⟩
 else if x.c=0 then⟨0,x.s,0,0⟩
 else if x.s=1 then⟨4,0,0,0⟩
 else if x.c=2 then⟨2,0,0,0⟩
 else⟨1,0,(x.e-iG p x.e)/2-1,sqM (iG p x.e) x.M⟩
theorem Xe(p mode:Int)(x y:bI)(hx:VO x)(hy:VO y):0≤(jl p mode x y).c ∧(jl p mode x y).c ≤5:=by
 have:=hx.c0
 have:=hx.c4
 unfold jl
 split
 ·dsimp only;omega
 ·split
  ·exact⟨by dsimp only;omega,by dsimp only;omega⟩
  ·split
   ·exact⟨by dsimp only;omega,by dsimp only;omega⟩
   ·split
    ·exact⟨by dsimp only;omega,by dsimp only;omega⟩
    ·exact⟨by dsimp only;omega,by dsimp only;omega⟩
theorem TQ{A k C:Nat}(h:lg A C)(hA:2^(2*k)≤A):2^k≤C:=by
 have h1:2^k*2^k<(C+1)*(C+1):=by
  rw[←Nat.pow_add,show k+k=2*k by omega]
  exact Nat.lt_of_le_of_lt hA h.2
 have:=lQ h1
 omega
theorem zn{p:Int}{Pn A:Nat}(hP:(Pn:Int)=p)(hP1:1≤Pn)(KE:Pn≤53)(hA:2^(Pn-1)≤A)(hA2:A<2^Pn)(e hi hq:Int)(od:Nat)(hhi:e+(p-1)=hi)(hod:hi%2=(od:Int))(hhq:hi/2=hq):
  ∃(C:Nat) (st:Bool),C=dC aO (A*2^(61-Pn+od)) (Pn+3)∧st=decide (dR aO (A*2^(61-Pn+od)) (Pn+2)≠0)∧0<C∧C<18446744073709551616∧p+2≤(nb C:Int)∧0<dn (A*2^iG p e)∧p+2≤(nb (dn (A*2^iG p e)):Int)∧
  (∀s mn mx one inf mode z fl,aH p mn mx one inf mode s C (hq-(p+2)) st z fl↔aH p mn mx one inf mode s (sqM (iG p e) A) ((e-iG p e)/2-1) false z fl)∧
  (∀s mn mx one inf mode z fl,aH p mn mx one inf mode s (dn (A*2^iG p e)) ((e-iG p e)/2) (decide (dn (A*2^iG p e)*dn (A*2^iG p e)≠A*2^iG p e)) z fl↔aH p mn mx one inf mode s (sqM (iG p e) A) ((e-iG p e)/2-1) false z fl):=by
 have aDR:od≤1:=om
 obtain⟨t,ht1,hPl,het⟩:∃t:Nat,1≤t∧iG p e=Pn+5+od+2*t∧(e-iG p e)/2+(t:Int)=hq-(p+2):=by
  unfold iG
  by_cases c:(e-(p+8))%2=0
  ·rw[if_pos c];exact⟨1,om,om,om⟩
  ·rw[if_neg c];exact⟨2,om,om,om⟩
 obtain⟨q1,q2,q3⟩:=zo A Pn od hP1 KE aDR hA2
 have hr:=zq (A*2^iG p e)
 have e1:A*2^iG p e=A*2^(Pn+5+od)*2^(2*t):=by rw[hPl,Nat.pow_add,Nat.mul_assoc]
 have hr2:=hr
 rw[e1]at hr2
 rw[←e1]at hr2
 obtain⟨C,hC⟩:∃C,C=dC aO (A*2^(61-Pn+od)) (Pn+3):=⟨_,rfl⟩
 rw[←hC]at q1 q2 q3
 have sc:dn (A*2^iG p e)/2^t=C∧(decide (dn (A*2^iG p e)%2^t≠0)||decide (dn (A*2^iG p e)*dn (A*2^iG p e)≠A*2^(Pn+5+od)*2^(2*t)))=decide (C*C≠A*2^(Pn+5+od)):=by
  refine lg.scale t q1 ?_
  rw[←e1];exact hr
 rw[←e1]at sc
 obtain⟨s1,s2⟩:=sc
 have hlow:2^(Pn+2)≤C:=by
  refine TQ q1 ?_
  have a1:2^(Pn-1)*2^(Pn+5+od)≤A*2^(Pn+5+od):=Nat.mul_le_mul_right _ hA
  rw[←Nat.pow_add]at a1
  exact Nat.le_trans (Nat.pow_le_pow_right de om) a1
 have hnC:=sG hlow
 have hC0:0<C:=Nat.lt_of_lt_of_le (Nat.pow_pos de) hlow
 have hCr:C≤dn (A*2^iG p e):=by rw[←s1];exact Nat.div_le_self _ _
 have hnr:=sG (Nat.le_trans hlow hCr)
 refine⟨C,_,hC,rfl,hC0,q3,om,om,om,fun s mn mx one inf mode z fl=>?_,fun s mn mx one inf mode z fl=>?_⟩
 ·have h:=aH.cut (p:=p) (mn:=mn) (mx:=mx) (one:=one) (inf:=inf) (mode:=mode) (sign:=s) (m:=dn (A*2^iG p e)) (e:=(e-iG p e)/2) (z:=z) (fl:=fl) t (decide (dn (A*2^iG p e)*dn (A*2^iG p e)≠A*2^iG p e)) (by rw[s1];exact hC0) om (by rw[s1];omega) (decide (dR aO (A*2^(61-Pn+od)) (Pn+2)≠0)) (by rw[s2,decide_eq_decide];exact q2)
  rw[s1,het]at h
  exact h
 ·exact aH.rest _ om om om
theorem yV{f p mx one inf sg nan mn fb sp:Int}(hF:aI f p mx one inf sg nan)(hM:og p mn mx fb sp one inf sg nan)(md:Int)(k:Nat){a:Int}{x y:bI}(hx:bZ p mx one inf sg nan a x)(h3:x.c<3)(w:World):
  CT 183 #[V #[J Y p,J Y mn,J Y mx,J Y md,.func (.func k) #[] #[]],V #[J Y x.s,J Y x.e,J Y x.c,J O (((x.M/18446744073709551616:Nat):Int)),J O (((x.M%18446744073709551616:Nat):Int)),I false,J Y 0],V #[J Y y.s,J Y y.e,J Y y.c,J O (((y.M/18446744073709551616:Nat):Int)),J O (((y.M%18446744073709551616:Nat):Int)),I false,J Y 0]] w fun e w'=>∃os oe oc oh ol ot of,iY p (jl p md x y) os oe oc oh ol ot of∧e=E (V #[J Y os,J Y oe,J Y oc,J O oh,J O ol,I ot,J Y of])∧Gr w w':=by
 obtain⟨v1,v2,v3,v4,v5,v6⟩:=dA hF hx
 have hpb:24≤p∧p≤53:=by have:=hF.bounds;omega
 have hfb:fb=p-1:=by rcases hM with h|h<;>omega
 have c0:=v1.c0
 have nN:=v1.nN
 unfold jl
 rw[if_neg (show ¬3≤x.c by omega)]
 by_cases cz:x.c=0
 ·rw[if_pos cz]
  have hM0:x.M=0:=v3 om
  rw[cz,hM0]
  refine(xI p mn mx md k _ _ 0 _ _ _ _ _ _ _ _ _ w).mono ?_
  rintro r w' ⟨rfl,hg⟩
  exact⟨_,_,_,_,_,_,_,iY.flat p _ _ _ 0 _ rfl om om om (fun _=>⟨rfl,nN⟩),rfl,hg⟩
 ·rw[if_neg cz]
  by_cases cs:x.s=1
  ·rw[if_pos cs,cs]
   rcases(show x.c=1∨x.c=2 by omega)with c|c
   ·rw[c]
    refine(xK p mn mx md k 0 _ 0 _ _ _ _ _ _ _ _ _ w).mono ?_
    rintro r w' ⟨rfl,hg⟩
    exact⟨_,_,_,_,_,_,_,iY.nan p 4 om om,rfl,hg⟩
   ·rw[c]
    refine(xJ p mn mx md k 0 _ 0 _ _ _ _ _ _ _ _ _ w).mono ?_
    rintro r w' ⟨rfl,hg⟩
    exact⟨_,_,_,_,_,_,_,iY.nan p 4 om om,rfl,hg⟩
  ·rw[if_neg cs]
   have s0:x.s=0:=om
   rw[s0]
   by_cases ci:x.c=2
   ·rw[if_pos ci,ci]
    have hM0:x.M=0:=v3 om
    rw[hM0]
    refine(yU p mn mx md k 0 _ 0 _ _ _ _ _ _ _ _ _ w).mono ?_
    rintro r w' ⟨rfl,hg⟩
    exact⟨_,_,_,_,_,_,_,iY.flat p _ _ _ 2 _ rfl om om om (fun _=>⟨rfl,.inl rfl⟩),rfl,hg⟩
   ·have c1:x.c=1:=om
    rw[if_neg ci,c1]
    obtain⟨Pn,hP,hP1,KE,hA,hA2⟩:=rH hF hx c1
    obtain⟨od,hod⟩:∃od:Nat,(x.e+(p-1))%2=(od:Int):=⟨((x.e+(p-1))%2).toNat,om⟩
    obtain⟨C,st,hC,hst,r1,r2,r3,r4,r5,r6,r7⟩:=zn hP hP1 KE hA hA2 x.e _ _ od rfl hod rfl
    have hN:x.M*2^(61-Pn+od)<18446744073709551616:=by
     have h1:x.M*2^(61-Pn+od)<2^Pn*2^(61-Pn+od):=Nat.mul_lt_mul_of_pos_right hA2 (Nat.pow_pos de)
     rw[←Nat.pow_add]at h1
     have h2:2^(Pn+(61-Pn+od))≤2^62:=Nat.pow_le_pow_right de om
     have h3:2^62<18446744073709551616:=de
     omega
    have hwr:IntKind.u64.wrap (((x.M%18446744073709551616:Nat):Int)*2^((61-p+od:Int)).toNat)=((x.M*2^(61-Pn+od):Nat):Int):=by
     rw[Nat.mod_eq_of_lt om,show((61-p+od:Int)).toNat =61-Pn+od by omega,IntKind.wrap_u64]
     rw[Int.natCast_mul,Int.natCast_pow]
     have:=hN
     rw[show((x.M:Int)*((2:Nat):Int)^(61-Pn+od))=((x.M*2^(61-Pn+od):Nat):Int) by rw[Int.natCast_mul,Int.natCast_pow]]
     rw[show((x.M:Int)*2^(61-Pn+od))=((x.M*2^(61-Pn+od):Nat):Int) by rw[Int.natCast_mul,Int.natCast_pow];rfl]
     omega
    refine(yT p mn mx md k x.e _ _ _ _ _ _ _ _ _ fb (x.e+(p-1)) od (61-p) (61-p+od) ((x.e+(p-1))/2) (x.M*2^(61-Pn+od)) hN om om om om (by rw[hfb,IntKind.wrap_i64];omega) (by rw[KC];exact hod) (by rw[hfb,IntKind.wrap_i64];omega) (by rw[IntKind.wrap_i64];omega) om om hwr rfl om om om om (fun w=>kX hM w) 0 ((x.e+(p-1))/2-(p+2)) 1 0 _ _ (fun w v hd=>N8 p mn mx md k 0 ((x.e+(p-1))/2) om om om om hN hd (Pn+3) om) w).mono ?_
    rintro r w' ⟨rfl,hg⟩
    refine⟨_,_,_,_,_,_,_,.inl ⟨C,?_,?_,rfl,rfl,(show(0:Int)≤1 by omega),(show(1:Int)≤4 by omega),fun _=>⟨rfl,.inl rfl⟩,fun _=>⟨r1,om,fun _=>r3,om,om,fun mn mx one inf mode z fl=>?_⟩⟩,rfl,hg⟩
    ·rw[Nat.div_eq_of_lt r2];rfl
    ·rw[Nat.mod_eq_of_lt r2,hC]
    ·rw[show Pn+3-1=Pn+2 from rfl,←hst]
     exact r6 _ _ _ _ _ _ _ _
theorem D7(f mode a:Int)(a0:0≤a)(a1:a<18446744073709551616)(w:World)(hw:Fm w):
  CT 95 #[J Y f,J Y mode,J O a] w fun e w'=>∃Z fl,kH jl f mode a a Z fl∧e=E (V #[J O Z,J Y fl])∧Gr w w':=by
 refine Gv f mode a (kH jl f mode a a) (fun w' hg=>?_)
 have hw':=hw.gr hg
 by_cases hf:f=0∨f=1
 ·obtain⟨p,mx,one,inf,sg,nan,hF⟩:=kF f hf
  obtain⟨mn,fb,sp,hM,hmn,hfb⟩:=hF.m
  by_cases hm:0≤mode∧mode≤4
  ·obtain⟨k,hk⟩:=o9 mode hm.1 hm.2
   obtain⟨x,hx,HA⟩:=ny hF hM a a0 a1
   obtain⟨v1,v2,v3,v4,v5,v6⟩:=dA hF hx
   refine(Ho p mn mx mode f k 183 a a _ _ _ _ _ _ _ _ _ _ _ _ (fun w'' hg'=>gK hF hM mode k (fun w=>jQ mode k hk w) (hw'.gr hg')) HA HA (iY p (jl p mode x x)) (fun w=>?_) (ql p mn mx one inf sg nan mode (jl p mode x x)) (fun os oe oc oh ol ot of w hq=>Ce hM mode k hk _ os oe oc oh ol ot of hq w)).mono ?_
   ·by_cases h3:3≤x.c
    ·refine(jV p mn mx mode k _ _ _ _ _ _ _ _ _ _ _ _ 183 x.c om h3 w).mono ?_
     rintro e w' ⟨rfl,hg⟩
     rw[show jl p mode x x=⟨x.c,0,0,0⟩ from by unfold jl;rw[if_pos h3]]
     exact⟨_,_,_,_,_,_,_,iY.nan p _ h3 (by have:=v1.c4;omega),rfl,hg⟩
    ·exact t_ p mn mx mode k _ _ _ _ _ _ _ _ _ _ _ _ x.c om om _ (fun w=>yV hF hM mode k hx om w) w
   ·rintro e w'' ⟨Z,fl,hp,rfl,hg'⟩
    rw[hmn]at hp
    exact⟨_,_,.inl ⟨p,mx,one,inf,sg,nan,x,x,hF,hm,hx,hx,hp⟩,rfl,hg'⟩
  ·refine(lG p mn mx mode nan f mode a a (fun w'' hg'=>jm hF hM mode (fun w=>oC mode om w) (hw'.gr hg')) (fun w=>dI hM w) 183).mono ?_
   rintro e w'' ⟨rfl,hg'⟩
   exact⟨_,_,.inr (.inl ⟨p,mx,one,inf,sg,nan,hF,om,rfl,rfl⟩),rfl,hg'⟩
 ·refine(lG _ _ _ _ _ f mode a a (fun w'' hg'=>je f mode hf (hw'.gr hg')) (fun w=>dI m64 w) 183).mono ?_
  rintro e w'' ⟨rfl,hg'⟩
  exact⟨_,_,.inr (.inr ⟨hf,rfl,rfl⟩),rfl,hg'⟩
theorem E5{f p mx one inf sg nan:Int}(h:aI f p mx one inf sg nan)(mode a:Int)(hm:0≤mode∧mode≤4)(a0:0≤a)(a1:a<18446744073709551616){x:bI}(hx:bZ p mx one inf sg nan a x)(w:World):
  CT 94 #[J Y f,J Y mode,J O a] w fun e w'=>∃Z fl,ql p (1-mx) mx one inf sg nan mode (jl p mode x x) Z fl∧e=E (V #[J O Z,J Y fl])∧Gb w w':=by
 obtain⟨v1,v2,v3,v4,v5,v6⟩:=dA h hx
 have xc0:=v1.c0
 have xc4:=v1.c4
 have nN:=v1.nN
 have hb:=h.bounds
 by_cases hfit:a<2*sg
 ·have HF:KW 117 #[J Y f,J Y mode,J O a,J O a] (I true):=fun w=>nH h mode a a hm.1 hm.2 a0 hfit a0 hfit w
  have fB:=nS h a a0 hfit hx
  have HQ:∀(t:Bool),t=decide (3≤x.c)→KR 118 #[V #[J Y x.c,J Y x.s,J Y x.e,J O (((x.M:Nat):Int))]] (I t):=fun t ht w=>lS _ _ _ _ t ht w
  have wS:∀t:Bool,KR 119 #[J Y f,I t] (V #[J O nan,J Y (if t then 1 else 0)]):=fun t w=>rO h t _ rfl w
  unfold jl
  by_cases c1:3≤x.c
  ·rw[if_pos c1]
   refine(OU f mode a _ _ _ _ HF fB (HQ true (by simp[c1])) (decide (x.c=4)) (bq _ _) nan _ (wS _) w).mono ?_
   rintro e w' ⟨rfl,hg⟩
   exact⟨_,_,.inl (jG _ _ rfl om om),rfl,hg⟩
  ·rw[if_neg c1]
   have hQa:=HQ false (by simp;omega)
   by_cases cz:x.c=0
   ·rw[if_pos cz]
    refine(Jp f mode a _ _ _ _ HF fB hQa cz (sw x.s sg 0) 0 (fun w=>jS h _ nN w) w).mono ?_
    rintro e w' ⟨rfl,hg⟩
    exact⟨_,_,.inl (.inl ⟨rfl,rfl,rfl⟩),rfl,hg⟩
   ·rw[if_neg cz]
    by_cases cs:x.s=1
    ·rw[if_pos cs]
     refine(OT f mode a _ _ _ _ HF fB hQa (by simp[cz]) cs nan 1 (fun w=>cZ h w) w).mono ?_
     rintro e w' ⟨rfl,hg⟩
     exact⟨_,_,.inl (lH rfl),rfl,hg⟩
    ·rw[if_neg cs]
     have s0:x.s=0:=by rcases nN with s|s;exact s;exact absurd s cs
     by_cases ci:x.c=2
     ·rw[if_pos ci]
      refine(OV f mode a _ _ _ _ HF fB hQa ci s0 (sw 0 sg inf) 0 (fun w=>eu h _ (.inl rfl) w) w).mono ?_
      rintro e w' ⟨rfl,hg⟩
      exact⟨_,_,.inl (.inr (.inr (.inl ⟨rfl,rfl,rfl⟩))),rfl,hg⟩
     ·rw[if_neg ci]
      have cx:x.c=1:=om
      obtain⟨Pn,hP,hP1,KE,hA,hA2⟩:=rH h hx cx
      obtain⟨od,hod⟩:∃od:Nat,(x.e+(p-1))%2=(od:Int):=⟨((x.e+(p-1))%2).toNat,om⟩
      obtain⟨C,st,hC,hst,r1,r2,r3,r4,r5,r6,r7⟩:=zn hP hP1 KE hA hA2 x.e _ _ od rfl hod rfl
      obtain⟨Pl,hPl⟩:∃Pl,Pl=iG p x.e:=⟨_,rfl⟩
      have aD9:Pl=iG p x.e:=hPl
      rw[←hPl]at r4 r5 r7⊢
      have hpar:Pl=Pn+8∧(x.e-(p+8))%2=0∨Pl=Pn+9∧(x.e-(p+8))%2=1:=by
       rw[hPl];unfold iG
       by_cases c:(x.e-(p+8))%2=0
       ·rw[if_pos c];exact .inl ⟨om,c⟩
       ·rw[if_neg c];exact .inr ⟨om,om⟩
      clear hPl aD9 r6
      have WJ:Hid (∀v w,aB 8 w v (x.M*2^Pl)→CT 181 #[v] w fun e w'=>∃b k c,aB 8 w' (U (some ⟨b,0,none⟩) k c) (dn (x.M*2^Pl))∧e=E (U (some ⟨b,0,none⟩) k c)∧Gb w w'):=fun v w ⟨n,n1,n2⟩=>by
       refine(JX n2 om).mono ?_
       rintro e w' ⟨r,k,R,rfl,hb,hk,hr,hg⟩
       obtain⟨b,c,rfl,_⟩:=Big.shape hb
       rw[←hr.one (zq _)]
       exact⟨b,k,c,⟨k,om,hb⟩,rfl,hg⟩
      obtain⟨z0,hz0⟩:∃z0,z0=eG (dn (x.M*2^Pl)*dn (x.M*2^Pl)) (x.M*2^Pl):=⟨_,rfl⟩
      have HCm:Hid (∀v v' w,aB 16 w v (dn (x.M*2^Pl)*dn (x.M*2^Pl))→aB 8 w v' (x.M*2^Pl)→QB 129 #[v,v'] w (J Y z0)):=fun v v' w ⟨n,n1,n2⟩ ⟨n',n1',n2'⟩=>by
       rw[hz0];exact gY n2 om n2' om
      have hzr:(z0 != 0)=decide (dn (x.M*2^Pl)*dn (x.M*2^Pl)≠x.M*2^Pl):=by
       rw[hz0];unfold eG
       by_cases c:dn (x.M*2^Pl)*dn (x.M*2^Pl)=x.M*2^Pl
       ·rw[if_neg om,if_neg (by omega)];simp[c]
       ·by_cases c2:dn (x.M*2^Pl)*dn (x.M*2^Pl)<x.M*2^Pl
        ·rw[if_pos c2];simp[c]
        ·rw[if_neg c2,if_pos (by omega)];simp[c]
      have HR:∀q:Int,q=(x.e-Pl)/2→Hid (∀v w,aB 8 w v (dn (x.M*2^Pl))→CT 65 #[J Y f,J Y mode,V #[J Y 0,v,J Y q,I (decide (dn (x.M*2^Pl)*dn (x.M*2^Pl)≠x.M*2^Pl))]] w fun e w'=>∃z fl,ql p (1-mx) mx one inf sg nan mode ⟨1,0,(x.e-Pl)/2-1,sqM Pl x.M⟩ z fl∧e=E (V #[J O z,J Y fl])∧Gb w w'):=fun q hq v w hB=>by
       rw[hq]
       exact B_ h mode hm.1 hm.2 ⟨1,0,(x.e-Pl)/2-1,sqM Pl x.M⟩ rfl (.inl rfl) _ r4 ((x.e-Pl)/2) om om _ r5 (fun mn mx one inf mode z fl=>r7 _ _ _ _ _ _ _ _) 8 om v w hB
      obtain⟨q,hq⟩:∃q:Int,q=(x.e-Pl)/2:=⟨_,rfl⟩
      have hd2:x.e-(Pl:Int)=2*q:=om
      have hqd:(x.e-(Pl:Int)).tdiv 2=q:=by rw[hd2];exact Int.mul_tdiv_cancel_left q de
      have hqw:wrap64 q=q:=by unfold wrap64;omega
      rcases hpar with⟨e1,e2⟩|⟨e1,e2⟩
      ·have ht:(x.e-(Pl:Int)).tmod 2=0:=by rw[hd2];exact Int.mul_tmod_right 2 q
       exact Jq f mode a _ _ _ _ HF fB hQa cx s0 x.M rfl om om om p om om (fun w=>lD h w) Pl _ q 0 om om rfl ht de hqd hqw _ z0 hzr _ WJ HCm _ (HR q hq) w
      ·obtain⟨r0,hr0⟩:∃r0,r0=(x.e-(p+8)).tmod 2:=⟨_,rfl⟩
       have hne:(r0 != 0)=true:=by
        have:r0≠0:=by
         intro c
         rw[hr0]at c
         have:=Int.emod_emod_of_dvd (x.e-(p+8)) (Int.dvd_refl 2)
         have:=Int.emod_eq_zero_of_dvd (Int.dvd_of_tmod_eq_zero c)
         omega
        simp[this]
       exact OQ f mode a _ _ _ _ HF fB hQa cx s0 x.M rfl om om om p om om (fun w=>lD h w) Pl (p+8) (x.e-(p+8)) _ q r0 rfl rfl hr0.symm hne om om rfl hqd hqw _ z0 hzr _ WJ HCm _ (HR q hq) w
 ·refine(vX f mode a (fun w=>dY f mode a a a0 a1 a0 a1 (qK h a1 a1 om) w) nan 1 (fun w=>cZ h w) w).mono ?_
  rintro e w' ⟨rfl,hg⟩
  have:=kD h hx om
  subst this
  exact⟨_,_,.inl (lH rfl),rfl,hg⟩
theorem Dn(f mode a:Int)(a0:0≤a)(a1:a<18446744073709551616)(w:World):
  CT 94 #[J Y f,J Y mode,J O a] w fun e w'=>∃Z fl,kH jl f mode a a Z fl∧e=E (V #[J O Z,J Y fl])∧Gb w w':=by
 by_cases hf:f=0∨f=1
 ·obtain⟨p,mx,one,inf,sg,nan,hF⟩:=kF f hf
  by_cases hm:0≤mode∧mode≤4
  ·obtain⟨x,hx⟩:=jk hF a a0 a1
   refine(E5 hF mode a hm a0 a1 hx w).mono ?_
   rintro e w' ⟨Z,fl,hp,rfl,hg⟩
   exact⟨_,_,.inl ⟨p,mx,one,inf,sg,nan,x,x,hF,hm,hx,hx,hp⟩,rfl,hg⟩
  ·refine(vX f mode a (fun w=>dY f mode a a a0 a1 a0 a1 (.inl om) w) nan 1 (fun w=>cZ hF w) w).mono ?_
   rintro e w' ⟨rfl,hg⟩
   exact⟨_,_,.inr (.inl ⟨p,mx,one,inf,sg,nan,hF,om,rfl,rfl⟩),rfl,hg⟩
 ·refine(vX f mode a (fun w=>dY f mode a a a0 a1 a0 a1 (.inr (.inl hf)) w) _ 1 (fun w=>oJ f hf w) w).mono ?_
  rintro e w' ⟨rfl,hg⟩
  exact⟨_,_,.inr (.inr ⟨hf,rfl,rfl⟩),rfl,hg⟩
theorem vW(f mode a:Int)(a0:0≤a)(a1:a<18446744073709551616):
  ∃Z fl:Int,kH jl f mode a a Z fl∧(∀w,QB 94 #[J Y f,J Y mode,J O a] w (V #[J O Z,J Y fl]))∧
   (∀w,Fm w→QR 95 #[J Y f,J Y mode,J O a] w (V #[J O Z,J Y fl])):=
 Ic jl 94 95 _ Xe f mode a a a0 a1 a0 a1 (Dn f mode a a0 a1) (D7 f mode a a0 a1)
