import Derived.Test.YtnbbfeknbfohhaaGreatDoorU1
import Derived.Test.YtnbbfeknbfohhaaGreatDoorB7
import Derived.Deep.DeepCutAuto
import Derived.Test.YtnbbfeknbfohhaaGreatDoorC0
set_option linter.unusedVariables false
set_option linter.unusedSimpArgs false
set_option maxRecDepth 1000000
set_option maxHeartbeats 40000000
open Go.Value renaming int → J, agg → X, bool → V
open Go.IntKind renaming i64 → Y, u64 → O
open Go.Proofs.Tryz
namespace Go.Proofs.YtnbbfeknbfohhaaGreatDoor
open Go.RowKit
theorem aH2{P:Prop}(h:P:=by
 go_enter func100,ntmps100
 go_wp2_with (first
  |(go_at_call 70;refine(HS.out _ Gr.g).mono ?_;rintro x w1 ⟨rfl,aj⟩;obtain⟨EF,D5,X8,DZ⟩:=aj.y2 w.heap.size 0 1 (J O 0) (J Y 0);have hz1:=au EF)
  |(go_at_call 102;refine(HF.out _ Gr.g).mono ?_;rintro x w2 ⟨rfl,ak⟩;obtain⟨lr0,aCk,lr1,aCj⟩:=ak.y2 w.heap.size 0 1 (J O 0) (J Y 0);have ls0:=ak.e1 w1.heap.size 0 (J Y p);have aIx:=aK ls0;have ls1:=ak.e1 w1.heap.size 1 (J Y mn);have aIw:=aK ls1;have ls2:=ak.e1 w1.heap.size 2 (J Y mx);have aIv:=aK ls2;have ls3:=ak.e1 w1.heap.size 3 (J Y md);have aIu:=aK ls3;have ls4:=ak.e1 w1.heap.size 4 (Value.nilFunc);have aIt:=aK ls4;have lA:=aK lr0;have hz2:=au lr0)
  |(go_at_call 176;refine(HN.out _).mono ?_;rintro x w3 ⟨rfl,aA⟩;obtain⟨iF,h_,jh,g_⟩:=aA.y2 w.heap.size 0 1 (J O 0) (J Y 0)))
 refine bodyPost_ret (v:=X #[J O nan,J Y 1]) (by simp[results,Tryz.results100,go_sem,iF,jh]) rfl ⟨rfl,?_⟩
 exact Gr.g):P:=h
theorem aG6(f t mode a z fl:Int)(V9:KW 61 #[J Y t] (V false))(HL:KR 63 #[J Y t] (X #[J O z,J Y fl]))(w:World):
  QB 99 #[J Y f,J Y t,J Y mode,J O a] w (X #[J O z,J Y fl]):=by
 go_enter func99,ntmps99
 go_wp2_with (first
  |(go_at_call 61;refine kw (V9.out _) ?_)
  |(go_at_call 63;refine(HL.out _).mono ?_;rintro e w9 ⟨rfl,aP⟩;obtain⟨fP,fU,fO,fQ⟩:=aP.y2 w.heap.size 0 1 (J O 0) (J Y 0)))
 refine bodyPost_ret (v:=X #[J O z,J Y fl]) (by simp[results,Tryz.results99,go_sem,fP,fO]) rfl ⟨rfl,?_⟩
 exact Gb.g
theorem aG5(f t mode a z fl:Int)(V9:KW 61 #[J Y t] (V true))(HWy:KW 62 #[J Y mode] (V false))(HL:KR 63 #[J Y t] (X #[J O z,J Y fl]))(w:World):
  QB 99 #[J Y f,J Y t,J Y mode,J O a] w (X #[J O z,J Y fl]):=by
 go_enter func99,ntmps99
 go_wp2_with (first
  |(go_at_call 61;refine kw (V9.out _) ?_)
  |(go_at_call 62;refine kw (HWy.out _) ?_)
  |(go_at_call 63;refine(HL.out _).mono ?_;rintro e w9 ⟨rfl,aP⟩;obtain⟨fP,fU,fO,fQ⟩:=aP.y2 w.heap.size 0 1 (J O 0) (J Y 0)))
 refine bodyPost_ret (v:=X #[J O z,J Y fl]) (by simp[results,Tryz.results99,go_sem,fP,fO]) rfl ⟨rfl,?_⟩
 exact Gb.g
theorem aF3(f t mode a z fl:Int)(V9:KW 61 #[J Y t] (V true))(HWy:KW 62 #[J Y mode] (V true))(HF:KW 110 #[J Y f,J O a] (V false))(HL:KR 63 #[J Y t] (X #[J O z,J Y fl]))(w:World):
  QB 99 #[J Y f,J Y t,J Y mode,J O a] w (X #[J O z,J Y fl]):=by
 go_enter func99,ntmps99
 go_wp2_with (first
  |(go_at_call 61;refine kw (V9.out _) ?_)
  |(go_at_call 62;refine kw (HWy.out _) ?_)
  |(go_at_call 110;refine kw (HF.out _) ?_)
  |(go_at_call 63;refine(HL.out _).mono ?_;rintro e w9 ⟨rfl,aP⟩;obtain⟨fP,fU,fO,fQ⟩:=aP.y2 w.heap.size 0 1 (J O 0) (J Y 0)))
 refine bodyPost_ret (v:=X #[J O z,J Y fl]) (by simp[results,Tryz.results99,go_sem,fP,fO]) rfl ⟨rfl,?_⟩
 exact Gb.g
theorem aHl(f t mode a c s x g z fl:Int)(b:Bool)(V9:KW 61 #[J Y t] (V true))(HWy:KW 62 #[J Y mode] (V true))(HF:KW 110 #[J Y f,J O a] (V true))(HU:KR 31 #[J Y f,J O a] (X #[J Y c,J Y s,J Y x,J O g]))(HQ:KR 118 #[X #[J Y c,J Y s,J Y x,J O g]] (V true))(e4:(c==4)=b)(HL:KR 119 #[J Y t,V b] (X #[J O z,J Y fl]))(w:World):
  QB 99 #[J Y f,J Y t,J Y mode,J O a] w (X #[J O z,J Y fl]):=by
 go_enter func99,ntmps99
 go_wp2_with (first
  |(go_at_call 61;refine kw (V9.out _) ?_)
  |(go_at_call 62;refine kw (HWy.out _) ?_)
  |(go_at_call 110;refine kw (HF.out _) ?_)
  |(go_at_call 31;refine(HU.out _).mono ?_;rintro e w1 ⟨rfl,aj⟩;obtain⟨Bc,Ba,Wj,A_⟩:=aj.y2 w.heap.size 0 1 (J O 0) (J Y 0);have hz0:=au Bc)
  |(go_at_call 118;refine(HQ.out _).mono ?_;rintro e va ⟨rfl,aC⟩;obtain⟨AQ,zC,Iy,zB⟩:=aC.y2 w.heap.size 0 1 (J O 0) (J Y 0);obtain⟨qp0,qp1,qp2,qp3⟩:=aC.e4 w1.heap.size 0 1 2 3 (J Y c) (J Y s) (J Y x) (J O g))
  |(go_at_call 119;refine(HL.out _).mono ?_;rintro e w9 ⟨rfl,aP⟩;obtain⟨fP,fU,fO,fQ⟩:=aP.y2 w.heap.size 0 1 (J O 0) (J Y 0)))
 refine bodyPost_ret (v:=X #[J O z,J Y fl]) (by simp[results,Tryz.results99,go_sem,fP,fO]) rfl ⟨rfl,?_⟩
 exact Gb.g
theorem aHm(f t mode a c s x g z fl:Int)(V9:KW 61 #[J Y t] (V true))(HWy:KW 62 #[J Y mode] (V true))(HF:KW 110 #[J Y f,J O a] (V true))(HU:KR 31 #[J Y f,J O a] (X #[J Y c,J Y s,J Y x,J O g]))(HQ:KR 118 #[X #[J Y c,J Y s,J Y x,J O g]] (V false))(e2:c=2)(HL:KR 167 #[J Y t,J Y s] (X #[J O z,J Y fl]))(w:World):
  QB 99 #[J Y f,J Y t,J Y mode,J O a] w (X #[J O z,J Y fl]):=by
 subst e2
 go_enter func99,ntmps99
 go_wp2_with (first
  |(go_at_call 61;refine kw (V9.out _) ?_)
  |(go_at_call 62;refine kw (HWy.out _) ?_)
  |(go_at_call 110;refine kw (HF.out _) ?_)
  |(go_at_call 31;refine(HU.out _).mono ?_;rintro e w1 ⟨rfl,aj⟩;obtain⟨Bc,Ba,Wj,A_⟩:=aj.y2 w.heap.size 0 1 (J O 0) (J Y 0);have hz0:=au Bc)
  |(go_at_call 118;refine(HQ.out _).mono ?_;rintro e va ⟨rfl,aC⟩;obtain⟨AQ,zC,Iy,zB⟩:=aC.y2 w.heap.size 0 1 (J O 0) (J Y 0);obtain⟨qp0,qp1,qp2,qp3⟩:=aC.e4 w1.heap.size 0 1 2 3 (J Y 2) (J Y s) (J Y x) (J O g))
  |(go_at_call 167;refine(HL.out _).mono ?_;rintro e w9 ⟨rfl,aP⟩;obtain⟨fP,fU,fO,fQ⟩:=aP.y2 w.heap.size 0 1 (J O 0) (J Y 0)))
 refine bodyPost_ret (v:=X #[J O z,J Y fl]) (by simp[results,Tryz.results99,go_sem,fP,fO]) rfl ⟨rfl,?_⟩
 exact Gb.g
theorem aG4(f t mode a c s x g z fl:Int)(V9:KW 61 #[J Y t] (V true))(HWy:KW 62 #[J Y mode] (V true))(HF:KW 110 #[J Y f,J O a] (V true))(HU:KR 31 #[J Y f,J O a] (X #[J Y c,J Y s,J Y x,J O g]))(HQ:KR 118 #[X #[J Y c,J Y s,J Y x,J O g]] (V false))(e2:c=0)(HL:KR 64 #[J Y t,J Y s] (X #[J O z,J Y fl]))(w:World):
  QB 99 #[J Y f,J Y t,J Y mode,J O a] w (X #[J O z,J Y fl]):=by
 subst e2
 go_enter func99,ntmps99
 go_wp2_with (first
  |(go_at_call 61;refine kw (V9.out _) ?_)
  |(go_at_call 62;refine kw (HWy.out _) ?_)
  |(go_at_call 110;refine kw (HF.out _) ?_)
  |(go_at_call 31;refine(HU.out _).mono ?_;rintro e w1 ⟨rfl,aj⟩;obtain⟨Bc,Ba,Wj,A_⟩:=aj.y2 w.heap.size 0 1 (J O 0) (J Y 0);have hz0:=au Bc)
  |(go_at_call 118;refine(HQ.out _).mono ?_;rintro e va ⟨rfl,aC⟩;obtain⟨AQ,zC,Iy,zB⟩:=aC.y2 w.heap.size 0 1 (J O 0) (J Y 0);obtain⟨qp0,qp1,qp2,qp3⟩:=aC.e4 w1.heap.size 0 1 2 3 (J Y 0) (J Y s) (J Y x) (J O g))
  |(go_at_call 64;refine(HL.out _).mono ?_;rintro e w9 ⟨rfl,aP⟩;obtain⟨fP,fU,fO,fQ⟩:=aP.y2 w.heap.size 0 1 (J O 0) (J Y 0)))
 refine bodyPost_ret (v:=X #[J O z,J Y fl]) (by simp[results,Tryz.results99,go_sem,fP,fO]) rfl ⟨rfl,?_⟩
 exact Gb.g
theorem aHk(f t mode a c s x g:Int)(M:Nat)(V9:KW 61 #[J Y t] (V true))(HWy:KW 62 #[J Y mode] (V true))(HF:KW 110 #[J Y f,J O a] (V true))(HU:KR 31 #[J Y f,J O a] (X #[J Y c,J Y s,J Y x,J O g]))(HQ:KR 118 #[X #[J Y c,J Y s,J Y x,J O g]] (V false))(e2:c=1)(HN:Hid (∀w,CT 121 #[X #[J Y c,J Y s,J Y x,J O g]] w fun e w'=>∃b k cc,aB 2 w' (.slice (some ⟨b,0,none⟩) k cc) M∧e=.returned (X #[J Y s,.slice (some ⟨b,0,none⟩) k cc,J Y x,V false])∧Gb w w'))(Q:Int→Int→Prop)(HR:Hid (∀v w,aB 2 w v M→CT 65 #[J Y t,J Y mode,X #[J Y s,v,J Y x,V false]] w fun e w'=>∃z fl,Q z fl∧e=.returned (X #[J O z,J Y fl])∧Gb w w'))(w:World):
  CT 99 #[J Y f,J Y t,J Y mode,J O a] w fun e w'=>∃z fl,Q z fl∧e=.returned (X #[J O z,J Y fl])∧Gb w w':=by
 subst e2
 go_enter func99,ntmps99
 go_wp2_with (first
  |(go_at_call 61;refine kw (V9.out _) ?_)
  |(go_at_call 62;refine kw (HWy.out _) ?_)
  |(go_at_call 110;refine kw (HF.out _) ?_)
  |(go_at_call 31;refine(HU.out _).mono ?_;rintro e w1 ⟨rfl,aj⟩;obtain⟨Bc,Ba,Wj,A_⟩:=aj.y2 w.heap.size 0 1 (J O 0) (J Y 0);have hz0:=au Bc)
  |(go_at_call 118;refine(HQ.out _).mono ?_;rintro e va ⟨rfl,aC⟩;obtain⟨AQ,zC,Iy,zB⟩:=aC.y2 w.heap.size 0 1 (J O 0) (J Y 0);obtain⟨qp0,qp1,qp2,qp3⟩:=aC.e4 w1.heap.size 0 1 2 3 (J Y 1) (J Y s) (J Y x) (J O g))
  |(go_at_call 121;refine(HN.out _).mono ?_;rintro e w3 ⟨b,k,cc,hb,rfl,aA⟩;obtain⟨WE,DJ,XL,DI⟩:=aA.y2 w.heap.size 0 1 (J O 0) (J Y 0))
  |(go_at_call 65;refine(HR.out _ _ hb).mono ?_;rintro e w4 ⟨z,fl,hq,rfl,aF⟩;obtain⟨fP,fU,fO,fQ⟩:=aF.y2 w.heap.size 0 1 (J O 0) (J Y 0)))
 refine bodyPost_ret (v:=X #[J O z,J Y fl]) (by simp[results,Tryz.results99,go_sem,fP,fO]) rfl ⟨z,fl,hq,rfl,?_⟩
 exact Gb.g
theorem aG0(p mn mx md nan f t mode a p' mn' mx':Int)(k:Nat){w:World}(HS:Hid (∀w',Gr w w'→QR 70 #[J Y t,J Y mode] w' (.tuple #[X #[J Y p,J Y mn,J Y mx,J Y md,Value.nilFunc],V false])))(HF:Hid (∀w',Gr w w'→QR 102 #[J Y f] w' (.tuple #[X #[J Y p',J Y mn',J Y mx'],V false])))(HN:KR 176 #[X #[J Y p,J Y mn,J Y mx]] (X #[J O nan,J Y 1])):
  QR 100 #[J Y f,J Y t,J Y mode,J O a] w (X #[J O nan,J Y 1]):=by
 exact aH2
theorem aGZ(p mn mx md nan f t mode a p' mn' mx':Int)(k:Nat){w:World}(HS:Hid (∀w',Gr w w'→QR 70 #[J Y t,J Y mode] w' (.tuple #[X #[J Y p,J Y mn,J Y mx,J Y md,Value.nilFunc],V false])))(HF:Hid (∀w',Gr w w'→QR 102 #[J Y f] w' (.tuple #[X #[J Y p',J Y mn',J Y mx'],V true])))(HN:KR 176 #[X #[J Y p,J Y mn,J Y mx]] (X #[J O nan,J Y 1])):
  QR 100 #[J Y f,J Y t,J Y mode,J O a] w (X #[J O nan,J Y 1]):=by
 exact aH2
theorem aHL(p mn mx md nan f t mode a p' mn' mx':Int)(k:Nat){w:World}(HS:Hid (∀w',Gr w w'→QR 70 #[J Y t,J Y mode] w' (.tuple #[X #[J Y p,J Y mn,J Y mx,J Y md,.func (.func k) #[] #[]],V true])))(HF:Hid (∀w',Gr w w'→QR 102 #[J Y f] w' (.tuple #[X #[J Y p',J Y mn',J Y mx'],V false])))(HN:KR 176 #[X #[J Y p,J Y mn,J Y mx]] (X #[J O nan,J Y 1])):
  QR 100 #[J Y f,J Y t,J Y mode,J O a] w (X #[J O nan,J Y 1]):=by
 go_enter func100,ntmps100
 go_wp2_with (first
  |(go_at_call 70;refine(HS.out _ Gr.g).mono ?_;rintro x w1 ⟨rfl,aj⟩;obtain⟨EF,D5,X8,DZ⟩:=aj.y2 w.heap.size 0 1 (J O 0) (J Y 0);have hz1:=au EF)
  |(go_at_call 102;refine(HF.out _ Gr.g).mono ?_;rintro x w2 ⟨rfl,ak⟩;obtain⟨lr0,aCk,lr1,aCj⟩:=ak.y2 w.heap.size 0 1 (J O 0) (J Y 0);have ls0:=ak.e1 w1.heap.size 0 (J Y p);have aIx:=aK ls0;have ls1:=ak.e1 w1.heap.size 1 (J Y mn);have aIw:=aK ls1;have ls2:=ak.e1 w1.heap.size 2 (J Y mx);have aIv:=aK ls2;have ls3:=ak.e1 w1.heap.size 3 (J Y md);have aIu:=aK ls3;have ls4:=ak.e1 w1.heap.size 4 (.func (.func k) #[] #[]);have aIt:=aK ls4;have lA:=aK lr0;have hz2:=au lr0)
  |(go_at_call 176;refine(HN.out _).mono ?_;rintro x w3 ⟨rfl,aA⟩;obtain⟨iF,h_,jh,g_⟩:=aA.y2 w.heap.size 0 1 (J O 0) (J Y 0)))
 refine bodyPost_ret (v:=X #[J O nan,J Y 1]) (by simp[results,Tryz.results100,go_sem,iF,jh]) rfl ⟨rfl,?_⟩
 exact Gr.g
theorem aHV(p mn mx md f t a p' mn' mx' sx ex cx xh xl:Int)(tx:Bool)(k:Nat){w:World}(HS:Hid (∀w',Gr w w'→QR 70 #[J Y t,J Y md] w' (.tuple #[X #[J Y p,J Y mn,J Y mx,J Y md,.func (.func k) #[] #[]],V true])))(HF:Hid (∀w',Gr w w'→QR 102 #[J Y f] w' (.tuple #[X #[J Y p',J Y mn',J Y mx'],V true])))
  (HA:KR 73 #[X #[J Y p',J Y mn',J Y mx'],J O a] (X #[J Y sx,J Y ex,J Y cx,J O xh,J O xl,V tx,J Y 0]))
  (R:Int→Int→Prop) (HP:Hid (∀w,CT 177 #[X #[J Y p,J Y mn,J Y mx,J Y md,.func (.func k) #[] #[]],X #[J Y sx,J Y ex,J Y cx,J O xh,J O xl,V tx,J Y 0]] w fun e w'=>∃z fl,R z fl∧e=.returned (X #[J O z,J Y fl])∧Gr w w')):
  CT 100 #[J Y f,J Y t,J Y md,J O a] w fun e w'=>∃z fl,R z fl∧e=.returned (X #[J O z,J Y fl])∧Gr w w':=by
 go_enter func100,ntmps100
 go_wp2_with (first
  |(go_at_call 70;refine(HS.out _ Gr.g).mono ?_;rintro x w1 ⟨rfl,aj⟩;obtain⟨EF,D5,X8,DZ⟩:=aj.y2 w.heap.size 0 1 (J O 0) (J Y 0);have hz1:=au EF)
  |(go_at_call 102;refine(HF.out _ Gr.g).mono ?_;rintro x w2 ⟨rfl,ak⟩;obtain⟨lr0,aCk,lr1,aCj⟩:=ak.y2 w.heap.size 0 1 (J O 0) (J Y 0);have ls0:=ak.e1 w1.heap.size 0 (J Y p);have aIx:=aK ls0;have ls1:=ak.e1 w1.heap.size 1 (J Y mn);have aIw:=aK ls1;have ls2:=ak.e1 w1.heap.size 2 (J Y mx);have aIv:=aK ls2;have ls3:=ak.e1 w1.heap.size 3 (J Y md);have aIu:=aK ls3;have ls4:=ak.e1 w1.heap.size 4 (.func (.func k) #[] #[]);have aIt:=aK ls4;have lA:=aK lr0;have hz2:=au lr0))
 go_region_held3 (fun w'=>w'.cell? ⟨w1.heap.size,0,none⟩=some (J Y p)∧w'.cell? ⟨w1.heap.size,1,none⟩=some (J Y mn)∧w'.cell? ⟨w1.heap.size,2,none⟩=some (J Y mx)∧w'.cell? ⟨w1.heap.size,3,none⟩=some (J Y md)∧w'.cell? ⟨w1.heap.size,4,none⟩=some (.func (.func k) #[] #[])∧w'.cell? ⟨w2.heap.size,0,none⟩=some (J Y p')∧w'.cell? ⟨w2.heap.size,1,none⟩=some (J Y mn')∧w'.cell? ⟨w2.heap.size,2,none⟩=some (J Y mx'))
  ((go_split_ands;(repeat' apply And.intro)<;>exact kl))
  (first
   |(go_at_call 73;refine(HA.out _).mono ?_;rintro e w3 ⟨rfl,aA⟩;obtain⟨lV,kZ,nX,kY⟩:=aA.y2 w.heap.size 0 1 (J O 0) (J Y 0))
   |(go_at_call 177;refine(HP.out _).mono ?_;rintro e w4 ⟨z,fl,hr,rfl,aF⟩;obtain⟨Iz,KL,RH,KJ⟩:=aF.y2 w.heap.size 0 1 (J O 0) (J Y 0)))
 all_goals (try go_split_ands)
 all_goals go_wp2
 all_goals
  refine bodyPost_ret (v:=X #[J O z,J Y fl]) (by simp[results,Tryz.results100,go_sem,Iz,RH]) rfl ⟨z,fl,hr,rfl,?_⟩
  exact Gr.g
def wE(f t mode a Z fl:Int):Prop:=
 (∃p mx one inf sg nan p' mx' one' inf' TI nan' x,aI t p mx one inf sg nan∧(0≤mode∧mode≤4)∧aI f p' mx' one' inf' TI nan'∧bZ p' mx' one' inf' TI nan' a x∧bV p (1-mx) mx one inf sg nan mode x Z fl)∨
 (∃p mx one inf sg nan,aI t p mx one inf sg nan∧(¬(0≤mode∧mode≤4)∨¬(f=0∨f=1))∧Z=nan∧fl=1)∨
 (¬(t=0∨t=1)∧Z=9221120237041090560∧fl=1)
theorem wE.one{f t mode a Z fl Z' qA:Int}(h:wE f t mode a Z fl)(h':wE f t mode a Z' qA):Z=Z'∧fl=qA:=by
 rcases h with⟨p,mx,one,inf,sg,nan,q,mq,oq,iq,sq,nq,x,hF,hm,hG,hx,hp⟩|⟨p,mx,one,inf,sg,nan,hF,hm,rfl,rfl⟩|⟨hF,rfl,rfl⟩<;>
 rcases h' with⟨p',mx',one',inf',TI,nan',q',mq',oq',iq',sq',nq',x',hF',hm',hG',hx',hp'⟩|⟨p',mx',one',inf',TI,nan',hF',hm',rfl,rfl⟩|⟨hF',rfl,rfl⟩
 ·obtain⟨rfl,rfl,rfl,rfl,rfl,rfl⟩:=hF.one hF'
  obtain⟨rfl,rfl,rfl,rfl,rfl,rfl⟩:=hG.one hG'
  obtain rfl:=hx.one hG hx'
  exact bV.one hp hp'
 ·have:=hG.yes;rcases hm' with h|h
  ·exact absurd hm h
  ·exact absurd (of_decide_eq_true this.symm) h
 ·exact absurd hF.yes.symm (by simp[hF'])
 ·have:=hG'.yes;rcases hm with h|h
  ·exact absurd hm' h
  ·exact absurd (of_decide_eq_true this.symm) h
 ·obtain⟨rfl,rfl,rfl,rfl,rfl,rfl⟩:=hF.one hF'
  exact⟨rfl,rfl⟩
 ·exact absurd hF.yes.symm (by simp[hF'])
 ·exact absurd hF'.yes.symm (by simp[hF])
 ·exact absurd hF'.yes.symm (by simp[hF])
 ·exact⟨rfl,rfl⟩
theorem aFW(f t mode a:Int)(a0:0≤a)(a1:a<18446744073709551616)(w:World)(hw:Fm w):
  CT 100 #[J Y f,J Y t,J Y mode,J O a] w fun e w'=>∃Z fl,wE f t mode a Z fl∧e=.returned (X #[J O Z,J Y fl])∧Gr w w':=by
 have FO:(∃p' mx' one' inf' TI nan' mn' RF sp',aI f p' mx' one' inf' TI nan'∧og p' mn' mx' RF sp' one' inf' TI nan')∨¬(f=0∨f=1):=by
  by_cases hf:f=0∨f=1
  ·obtain⟨p,mx,one,inf,sg,nan,hF⟩:=kF f hf
   obtain⟨mn,fb,sp,hM,_,_⟩:=hF.m
   exact .inl ⟨_,_,_,_,_,_,_,_,_,hF,hM⟩
  ·exact .inr hf
 by_cases ht:t=0∨t=1
 ·obtain⟨p,mx,one,inf,sg,nan,hF⟩:=kF t ht
  obtain⟨mn,fb,sp,hM,hmn,hfb⟩:=hF.m
  by_cases hm:0≤mode∧mode≤4
  ·obtain⟨k,hk⟩:=o9 mode hm.1 hm.2
   rcases FO with⟨p',mx',one',inf',TI,nan',mn',RF,sp',hG,hM'⟩|hf
   ·obtain⟨x,hx,HA⟩:=ny hG hM' a a0 a1
    obtain⟨v1,v2,v3,v4,v5,v6⟩:=dA hG hx
    refine(aHV p mn mx mode f t a p' mn' mx' _ _ _ _ _ _ k (fun w'' hg'=>gK hF hM mode k (fun w=>jQ mode k hk w) (hw.gr hg')) (fun w'' hg'=>vF hG hM' (hw.gr hg')) HA (bV p mn mx one inf sg nan mode x) (fun w=>zH hM mode k hk x _ _ _ _ _ _ v1.same w)).mono ?_
    rintro e w'' ⟨Z,fl,hp,rfl,hg'⟩
    rw[hmn]at hp
    exact⟨_,_,.inl ⟨p,mx,one,inf,sg,nan,_,_,_,_,_,_,x,hF,hm,hG,hx,hp⟩,rfl,hg'⟩
   ·refine(aHL p mn mx mode nan f t mode a 0 0 0 k (fun w'' hg'=>gK hF hM mode k (fun w=>jQ mode k hk w) (hw.gr hg')) (fun w'' hg'=>GX f hf w'') (fun w=>dI hM w)).mono ?_
    rintro e w'' ⟨rfl,hg'⟩
    exact⟨_,_,.inr (.inl ⟨p,mx,one,inf,sg,nan,hF,.inr hf,rfl,rfl⟩),rfl,hg'⟩
  ·rcases FO with⟨p',mx',one',inf',TI,nan',mn',RF,sp',hG,hM'⟩|hf
   ·refine(aGZ p mn mx mode nan f t mode a p' mn' mx' 0 (fun w'' hg'=>jm hF hM mode (fun w=>oC mode om w) (hw.gr hg')) (fun w'' hg'=>vF hG hM' (hw.gr hg')) (fun w=>dI hM w)).mono ?_
    rintro e w'' ⟨rfl,hg'⟩
    exact⟨_,_,.inr (.inl ⟨p,mx,one,inf,sg,nan,hF,.inl hm,rfl,rfl⟩),rfl,hg'⟩
   ·refine(aG0 p mn mx mode nan f t mode a 0 0 0 0 (fun w'' hg'=>jm hF hM mode (fun w=>oC mode om w) (hw.gr hg')) (fun w'' hg'=>GX f hf w'') (fun w=>dI hM w)).mono ?_
    rintro e w'' ⟨rfl,hg'⟩
    exact⟨_,_,.inr (.inl ⟨p,mx,one,inf,sg,nan,hF,.inl hm,rfl,rfl⟩),rfl,hg'⟩
 ·rcases FO with⟨p',mx',one',inf',TI,nan',mn',RF,sp',hG,hM'⟩|hf
  ·refine(aGZ _ _ _ _ _ f t mode a p' mn' mx' 0 (fun w'' hg'=>je t mode ht (hw.gr hg')) (fun w'' hg'=>vF hG hM' (hw.gr hg')) (fun w=>dI m64 w)).mono ?_
   rintro e w'' ⟨rfl,hg'⟩
   exact⟨_,_,.inr (.inr ⟨ht,rfl,rfl⟩),rfl,hg'⟩
  ·refine(aG0 _ _ _ _ _ f t mode a 0 0 0 0 (fun w'' hg'=>je t mode ht (hw.gr hg')) (fun w'' hg'=>GX f hf w'') (fun w=>dI m64 w)).mono ?_
   rintro e w'' ⟨rfl,hg'⟩
   exact⟨_,_,.inr (.inr ⟨ht,rfl,rfl⟩),rfl,hg'⟩
theorem aFV(f t mode a:Int)(a0:0≤a)(a1:a<18446744073709551616)(w:World):
  CT 99 #[J Y f,J Y t,J Y mode,J O a] w fun e w'=>∃Z fl,wE f t mode a Z fl∧e=.returned (X #[J O Z,J Y fl])∧Gb w w':=by
 by_cases ht:t=0∨t=1
 ·obtain⟨p,mx,one,inf,sg,nan,hF⟩:=kF t ht
  have V9:KW 61 #[J Y t] (V true):=fun w=>iD t true (by simp[ht]) w
  by_cases hm:0≤mode∧mode≤4
  ·have HWy:KW 62 #[J Y mode] (V true):=fun w=>mO mode true (by simp[hm]) w
   by_cases hf:f=0∨f=1
   ·obtain⟨p',mx',one',inf',TI,nan',hG⟩:=kF f hf
    obtain⟨x,hx⟩:=jk hG a a0 a1
    obtain⟨v1,v2,v3,v4,v5,v6⟩:=dA hG hx
    have xc0:=v1.c0;have xc4:=v1.c4
    have fin:∀Z fl,bV p (1-mx) mx one inf sg nan mode x Z fl→wE f t mode a Z fl:=fun Z fl hp=>.inl ⟨p,mx,one,inf,sg,nan,_,_,_,_,_,_,x,hF,hm,hG,hx,hp⟩
    by_cases fa:a<2*TI
    ·have Om:KW 110 #[J Y f,J O a] (V true):=fun w=>dB hG a a0 fa w
     have HU:=nS hG a a0 fa hx
     have HQ:∀(b:Bool),b=decide (3≤x.c)→KR 118 #[X #[J Y x.c,J Y x.s,J Y x.e,J O (((x.M:Nat):Int))]] (V b):=fun b hb w=>lS _ _ _ _ b hb w
     by_cases cn:3≤x.c
     ·refine(aHl f t mode a _ _ _ _ nan _ (decide (x.c=4)) V9 HWy Om HU (HQ true (by simp[cn])) (bq _ _) (fun w=>rO hF _ _ rfl w) w).mono ?_
      rintro e w' ⟨rfl,hg⟩
      refine⟨_,_,fin _ _ ?_,rfl,hg⟩
      by_cases c4:x.c=4
      ·rw[if_pos (by simp[c4])];exact .inr (.inr (.inr (.inr ⟨c4,rfl,rfl⟩)))
      ·rw[if_neg (by simp[c4])];exact .inr (.inr (.inr (.inl ⟨om,rfl,rfl⟩)))
     ·have hQ:=HQ false (by simp;omega)
      rcases(show x.c=0∨x.c=1∨x.c=2 by omega)with c|c|c
      ·refine(aG4 f t mode a _ _ _ _ (sw x.s sg 0) 0 V9 HWy Om HU hQ c (fun w=>jS hF x.s v1.nN w) w).mono ?_
       rintro e w' ⟨rfl,hg⟩
       exact⟨_,_,fin _ _ (.inl ⟨c,rfl,rfl⟩),rfl,hg⟩
      ·refine(aHk f t mode a _ _ _ _ x.M V9 HWy Om HU hQ c (fun w=>pq _ _ _ x.M om w) (bV p (1-mx) mx one inf sg nan mode x) (fun v w hB=>m_ hF mode hm.1 hm.2 x c v1.nN (v1.fin c).1 om om 2 om v w hB) w).mono ?_
       rintro e w' ⟨Z,fl,hp,rfl,hg⟩
       exact⟨_,_,fin _ _ hp,rfl,hg⟩
      ·refine(aHm f t mode a _ _ _ _ (sw x.s sg inf) 0 V9 HWy Om HU hQ c (fun w=>eu hF x.s v1.nN w) w).mono ?_
       rintro e w' ⟨rfl,hg⟩
       exact⟨_,_,fin _ _ (.inr (.inr (.inl ⟨c,rfl,rfl⟩))),rfl,hg⟩
    ·have hno:f=0∧4294967296≤a:=by rcases hG with⟨rfl,rfl,rfl,rfl,rfl,rfl,rfl⟩|⟨rfl,rfl,rfl,rfl,rfl,rfl,rfl⟩<;>omega
     refine(aF3 f t mode a nan 1 V9 HWy (fun w=>CG f a a0 (.inr hno) w) (fun w=>cZ hF w) w).mono ?_
     rintro e w' ⟨rfl,hg⟩
     have:=kD hG hx om
     exact⟨_,_,fin _ _ (lH (by rw[this])),rfl,hg⟩
   ·refine(aF3 f t mode a nan 1 V9 HWy (fun w=>CG f a a0 (.inl hf) w) (fun w=>cZ hF w) w).mono ?_
    rintro e w' ⟨rfl,hg⟩
    exact⟨_,_,.inr (.inl ⟨p,mx,one,inf,sg,nan,hF,.inr hf,rfl,rfl⟩),rfl,hg⟩
  ·refine(aG5 f t mode a nan 1 V9 (fun w=>mO mode false (by simp;omega) w) (fun w=>cZ hF w) w).mono ?_
   rintro e w' ⟨rfl,hg⟩
   exact⟨_,_,.inr (.inl ⟨p,mx,one,inf,sg,nan,hF,.inl hm,rfl,rfl⟩),rfl,hg⟩
 ·refine(aG6 f t mode a _ 1 (fun w=>iD t false (by simp;omega) w) (fun w=>oJ t ht w) w).mono ?_
  rintro e w' ⟨rfl,hg⟩
  exact⟨_,_,.inr (.inr ⟨ht,rfl,rfl⟩),rfl,hg⟩
theorem aHW(f t mode a:Int)(a0:0≤a)(a1:a<18446744073709551616):∃Z fl,wE f t mode a Z fl:=by
 by_cases ht:t=0∨t=1
 ·obtain⟨p,mx,one,inf,sg,nan,hF⟩:=kF t ht
  by_cases hm:0≤mode∧mode≤4
  ·by_cases hf:f=0∨f=1
   ·obtain⟨p',mx',one',inf',TI,nan',hG⟩:=kF f hf
    obtain⟨x,hx⟩:=jk hG a a0 a1
    have v1:=(dA hG hx).1
    obtain⟨Z,fl,hp⟩:=Dw p (1-mx) mx one inf sg nan mode x v1.c0 v1.c4
    exact⟨Z,fl,.inl ⟨p,mx,one,inf,sg,nan,_,_,_,_,_,_,x,hF,hm,hG,hx,hp⟩⟩
   ·exact⟨_,_,.inr (.inl ⟨p,mx,one,inf,sg,nan,hF,.inr hf,rfl,rfl⟩)⟩
  ·exact⟨_,_,.inr (.inl ⟨p,mx,one,inf,sg,nan,hF,.inl hm,rfl,rfl⟩)⟩
 ·exact⟨_,_,.inr (.inr ⟨ht,rfl,rfl⟩)⟩
theorem aHs(f t mode a:Int)(a0:0≤a)(a1:a<18446744073709551616):
  ∃Z fl:Int,wE f t mode a Z fl∧(∀w,QB 99 #[J Y f,J Y t,J Y mode,J O a] w (X #[J O Z,J Y fl]))∧
   (∀w,Fm w→QR 100 #[J Y f,J Y t,J Y mode,J O a] w (X #[J O Z,J Y fl])):=by
 obtain⟨Z,fl,h⟩:=aHW f t mode a a0 a1
 refine⟨Z,fl,h,fun w=>(aFV f t mode a a0 a1 w).mono ?_,fun w hw=>(aFW f t mode a a0 a1 w hw).mono ?_⟩
 ·rintro e w' ⟨Z',qA,h',rfl,hg⟩
  obtain⟨rfl,rfl⟩:=wE.one h h'
  exact⟨rfl,hg⟩
 ·rintro e w' ⟨Z',qA,h',rfl,hg⟩
  obtain⟨rfl,rfl⟩:=wE.one h h'
  exact⟨rfl,hg⟩
