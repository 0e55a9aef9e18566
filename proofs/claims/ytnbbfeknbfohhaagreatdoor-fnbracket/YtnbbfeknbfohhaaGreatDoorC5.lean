import Derived.Test.YtnbbfeknbfohhaaGreatDoorU1
import Derived.Deep.DeepCutAuto
import Derived.Test.YtnbbfeknbfohhaaGreatDoorC1
import Derived.Test.YtnbbfeknbfohhaaGreatDoorC2
import Derived.Test.YtnbbfeknbfohhaaGreatDoorB8
set_option linter.unusedVariables false
set_option linter.unusedSimpArgs false
set_option maxRecDepth 1000000
set_option maxHeartbeats 40000000
open Go.Value renaming int → J, agg → X, bool → E
open Go.IntKind renaming i64 → Y, u64 → O
open Go.Ending renaming returned → V
open Go.Proofs.Tryz
namespace Go.Proofs.YtnbbfeknbfohhaaGreatDoor
open Go.RowKit
theorem Zf{P:Prop}(h:P:=by
 go_enter func85,ntmps85
 go_wp2_with (first
  |(go_at_call 117;refine kw (HF.out _) ?_)
  |(go_at_call 31;first|(with_reducible refine(fB.out _).mono ?_;rintro e w1 ⟨rfl,aj⟩;obtain⟨dK,fZ,jY,fV⟩:=aj.y2 w.heap.size 0 1 (J O 0) (J Y 0);have hz0:=au dK)|(with_reducible refine(iq.out _).mono ?_;rintro e w2 ⟨rfl,ak⟩;obtain⟨fC,iQ,mG,iO⟩:=ak.y2 w.heap.size 0 1 (J O 0) (J Y 0);have bU:=ak.e1 w1.heap.size 0 (J Y ca);have fG:=aK bU;have bT:=ak.e1 w1.heap.size 1 (J Y sa);have fF:=aK bT;have bQ:=ak.e1 w1.heap.size 2 (J Y xa);have fE:=aK bQ;have bP:=ak.e1 w1.heap.size 3 (J O ga);have fD:=aK bP;have hz1:=au fC))
  |(go_at_call 118;first|(with_reducible refine(jU.out _).mono ?_;rintro e va ⟨rfl,aC⟩;obtain⟨kC,gu,ku,f_⟩:=aC.y2 w.heap.size 0 1 (J O 0) (J Y 0);obtain⟨gJ,gI,gG,gB⟩:=aC.e4 w1.heap.size 0 1 2 3 (J Y ca) (J Y sa) (J Y xa) (J O ga);obtain⟨iV,iU,iT,iR⟩:=aC.e4 w2.heap.size 0 1 2 3 (J Y cb) (J Y sb) (J Y xb) (J O gb))|(with_reducible refine(oq.out _).mono ?_;rintro e vb ⟨rfl,aN⟩;obtain⟨nR,jv,nP,jo⟩:=aN.y2 w.heap.size 0 1 (J O 0) (J Y 0);obtain⟨jF,jE,jD,jC⟩:=aN.e4 w1.heap.size 0 1 2 3 (J Y ca) (J Y sa) (J Y xa) (J O ga);obtain⟨jB,jA,jy,jw⟩:=aN.e4 w2.heap.size 0 1 2 3 (J Y cb) (J Y sb) (J Y xb) (J O gb)))
  |(go_at_call 119;refine(HL.out _).mono ?_;rintro e w9 ⟨rfl,aP⟩;obtain⟨fP,fU,fO,fQ⟩:=aP.y2 w.heap.size 0 1 (J O 0) (J Y 0)))
 refine bodyPost_ret (v:=X #[J O z,J Y fl]) (by simp[results,Tryz.results85,go_sem,fP,fO]) rfl ⟨rfl,?_⟩
 exact Gb.g):P:=h
theorem SQ{P:Prop}(h:P:=by
 go_enter func85,ntmps85
 go_wp2_with (first
  |(go_at_call 117;refine kw (HF.out _) ?_)
  |(go_at_call 31;first|(with_reducible refine(fB.out _).mono ?_;rintro e w1 ⟨rfl,aj⟩;obtain⟨dK,fZ,jY,fV⟩:=aj.y2 w.heap.size 0 1 (J O 0) (J Y 0);have hz0:=au dK)|(with_reducible refine(iq.out _).mono ?_;rintro e w2 ⟨rfl,ak⟩;obtain⟨fC,iQ,mG,iO⟩:=ak.y2 w.heap.size 0 1 (J O 0) (J Y 0);have bU:=ak.e1 w1.heap.size 0 (J Y ca);have fG:=aK bU;have bT:=ak.e1 w1.heap.size 1 (J Y sa);have fF:=aK bT;have bQ:=ak.e1 w1.heap.size 2 (J Y xa);have fE:=aK bQ;have bP:=ak.e1 w1.heap.size 3 (J O ga);have fD:=aK bP;have hz1:=au fC))
  |(go_at_call 118;first|(with_reducible refine(jU.out _).mono ?_;rintro e va ⟨rfl,aC⟩;obtain⟨kC,gu,ku,f_⟩:=aC.y2 w.heap.size 0 1 (J O 0) (J Y 0);obtain⟨gJ,gI,gG,gB⟩:=aC.e4 w1.heap.size 0 1 2 3 (J Y ca) (J Y sa) (J Y xa) (J O ga);obtain⟨iV,iU,iT,iR⟩:=aC.e4 w2.heap.size 0 1 2 3 (J Y cb) (J Y sb) (J Y xb) (J O gb)))
  |(go_at_call 119;refine(HL.out _).mono ?_;rintro e w9 ⟨rfl,aP⟩;obtain⟨fP,fU,fO,fQ⟩:=aP.y2 w.heap.size 0 1 (J O 0) (J Y 0)))
 refine bodyPost_ret (v:=X #[J O z,J Y fl]) (by simp[results,Tryz.results85,go_sem,fP,fO]) rfl ⟨rfl,?_⟩
 exact Gb.g):P:=h
theorem y9(f mode a b:Int)(HF:KW 117 #[J Y f,J Y mode,J O a,J O b] (E false))(z fl:Int)(HL:KR 63 #[J Y f] (X #[J O z,J Y fl]))(w:World):
  QB 85 #[J Y f,J Y mode,J O a,J O b] w (X #[J O z,J Y fl]):=by
 go_enter func85,ntmps85
 go_wp2_with (first
  |(go_at_call 117;refine kw (HF.out _) ?_)
  |(go_at_call 63;refine(HL.out _).mono ?_;rintro e w9 ⟨rfl,aP⟩;obtain⟨fP,fU,fO,fQ⟩:=aP.y2 w.heap.size 0 1 (J O 0) (J Y 0)))
 refine bodyPost_ret (v:=X #[J O z,J Y fl]) (by simp[results,Tryz.results85,go_sem,fP,fO]) rfl ⟨rfl,?_⟩
 exact Gb.g
theorem OZ(f mode a b ca sa xa ga cb sb xb gb:Int)(HF:KW 117 #[J Y f,J Y mode,J O a,J O b] (E true))(fB:KR 31 #[J Y f,J O a] (X #[J Y ca,J Y sa,J Y xa,J O ga]))(iq:KR 31 #[J Y f,J O b] (X #[J Y cb,J Y sb,J Y xb,J O gb]))(jU:KR 118 #[X #[J Y ca,J Y sa,J Y xa,J O ga]] (E true))(e4:(ca==4)=true)(z fl:Int)(HL:KR 119 #[J Y f,E true] (X #[J O z,J Y fl]))(w:World):
  QB 85 #[J Y f,J Y mode,J O a,J O b] w (X #[J O z,J Y fl]):=by
 exact SQ
theorem OY(f mode a b ca sa xa ga cb sb xb gb:Int)(HF:KW 117 #[J Y f,J Y mode,J O a,J O b] (E true))(fB:KR 31 #[J Y f,J O a] (X #[J Y ca,J Y sa,J Y xa,J O ga]))(iq:KR 31 #[J Y f,J O b] (X #[J Y cb,J Y sb,J Y xb,J O gb]))(jU:KR 118 #[X #[J Y ca,J Y sa,J Y xa,J O ga]] (E true))(e4:(ca==4)=false)(t:Bool)(e5:(cb==4)=t)(z fl:Int)(HL:KR 119 #[J Y f,E t] (X #[J O z,J Y fl]))(w:World):
  QB 85 #[J Y f,J Y mode,J O a,J O b] w (X #[J O z,J Y fl]):=by
 cases t
 ·exact SQ
 ·exact SQ
theorem OX(f mode a b ca sa xa ga cb sb xb gb:Int)(HF:KW 117 #[J Y f,J Y mode,J O a,J O b] (E true))(fB:KR 31 #[J Y f,J O a] (X #[J Y ca,J Y sa,J Y xa,J O ga]))(iq:KR 31 #[J Y f,J O b] (X #[J Y cb,J Y sb,J Y xb,J O gb]))(jU:KR 118 #[X #[J Y ca,J Y sa,J Y xa,J O ga]] (E false))(oq:KR 118 #[X #[J Y cb,J Y sb,J Y xb,J O gb]] (E true))(e4:(ca==4)=false)(t:Bool)(e5:(cb==4)=t)(z fl:Int)(HL:KR 119 #[J Y f,E t] (X #[J O z,J Y fl]))(w:World):
  QB 85 #[J Y f,J Y mode,J O a,J O b] w (X #[J O z,J Y fl]):=by
 cases t
 ·exact Zf
 ·exact Zf
theorem Xo(f mode a b ca sa xa ga cb sb xb gb:Int)(HF:KW 117 #[J Y f,J Y mode,J O a,J O b] (E true))(fB:KR 31 #[J Y f,J O a] (X #[J Y ca,J Y sa,J Y xa,J O ga]))(iq:KR 31 #[J Y f,J O b] (X #[J Y cb,J Y sb,J Y xb,J O gb]))(jU:KR 118 #[X #[J Y ca,J Y sa,J Y xa,J O ga]] (E false))(oq:KR 118 #[X #[J Y cb,J Y sb,J Y xb,J O gb]] (E false))(HP:KR 172 #[X #[J Y ca,J Y sa,J Y xa,J O ga],X #[J Y cb,J Y sb,J Y xb,J O gb]] (E true))(z fl:Int)(HL:KR 63 #[J Y f] (X #[J O z,J Y fl]))(w:World):
  QB 85 #[J Y f,J Y mode,J O a,J O b] w (X #[J O z,J Y fl]):=by
 go_enter func85,ntmps85
 go_wp2_with (first
  |(go_at_call 117;refine kw (HF.out _) ?_)
  |(go_at_call 31;first|(with_reducible refine(fB.out _).mono ?_;rintro e w1 ⟨rfl,aj⟩;obtain⟨dK,fZ,jY,fV⟩:=aj.y2 w.heap.size 0 1 (J O 0) (J Y 0);have hz0:=au dK)|(with_reducible refine(iq.out _).mono ?_;rintro e w2 ⟨rfl,ak⟩;obtain⟨fC,iQ,mG,iO⟩:=ak.y2 w.heap.size 0 1 (J O 0) (J Y 0);have bU:=ak.e1 w1.heap.size 0 (J Y ca);have fG:=aK bU;have bT:=ak.e1 w1.heap.size 1 (J Y sa);have fF:=aK bT;have bQ:=ak.e1 w1.heap.size 2 (J Y xa);have fE:=aK bQ;have bP:=ak.e1 w1.heap.size 3 (J O ga);have fD:=aK bP;have hz1:=au fC))
  |(go_at_call 118;first|(with_reducible refine(jU.out _).mono ?_;rintro e va ⟨rfl,aC⟩;obtain⟨kC,gu,ku,f_⟩:=aC.y2 w.heap.size 0 1 (J O 0) (J Y 0);obtain⟨gJ,gI,gG,gB⟩:=aC.e4 w1.heap.size 0 1 2 3 (J Y ca) (J Y sa) (J Y xa) (J O ga);obtain⟨iV,iU,iT,iR⟩:=aC.e4 w2.heap.size 0 1 2 3 (J Y cb) (J Y sb) (J Y xb) (J O gb))|(with_reducible refine(oq.out _).mono ?_;rintro e vb ⟨rfl,aN⟩;obtain⟨nR,jv,nP,jo⟩:=aN.y2 w.heap.size 0 1 (J O 0) (J Y 0);obtain⟨jF,jE,jD,jC⟩:=aN.e4 w1.heap.size 0 1 2 3 (J Y ca) (J Y sa) (J Y xa) (J O ga);obtain⟨jB,jA,jy,jw⟩:=aN.e4 w2.heap.size 0 1 2 3 (J Y cb) (J Y sb) (J Y xb) (J O gb)))
  |(go_at_call 172;refine(HP.out _).mono ?_;rintro e vp ⟨rfl,kE⟩;obtain⟨XO,Ny,XM,Nw⟩:=kE.y2 w.heap.size 0 1 (J O 0) (J Y 0);obtain⟨NK,NJ,NI,NH⟩:=kE.e4 w1.heap.size 0 1 2 3 (J Y ca) (J Y sa) (J Y xa) (J O ga);obtain⟨NG,ND,NC,Nz⟩:=kE.e4 w2.heap.size 0 1 2 3 (J Y cb) (J Y sb) (J Y xb) (J O gb))
  |(go_at_call 63;refine(HL.out _).mono ?_;rintro e w9 ⟨rfl,aP⟩;obtain⟨fP,fU,fO,fQ⟩:=aP.y2 w.heap.size 0 1 (J O 0) (J Y 0)))
 refine bodyPost_ret (v:=X #[J O z,J Y fl]) (by simp[results,Tryz.results85,go_sem,fP,fO]) rfl ⟨rfl,?_⟩
 exact Gb.g
theorem O4(f mode a b ca sa xa ga cb sb xb gb:Int)(sp xp:Int)(Gp:Nat)(HF:KW 117 #[J Y f,J Y mode,J O a,J O b] (E true))(fB:KR 31 #[J Y f,J O a] (X #[J Y ca,J Y sa,J Y xa,J O ga]))(iq:KR 31 #[J Y f,J O b] (X #[J Y cb,J Y sb,J Y xb,J O gb]))(jU:KR 118 #[X #[J Y ca,J Y sa,J Y xa,J O ga]] (E false))(oq:KR 118 #[X #[J Y cb,J Y sb,J Y xb,J O gb]] (E false))(HP:KR 172 #[X #[J Y ca,J Y sa,J Y xa,J O ga],X #[J Y cb,J Y sb,J Y xb,J O gb]] (E false))(HM:Hid (∀w,CT 173 #[X #[J Y ca,J Y sa,J Y xa,J O ga],X #[J Y cb,J Y sb,J Y xb,J O gb]] w fun e w'=>∃bp kp qp,aB 4 w' (.slice (some ⟨bp,0,none⟩) kp qp) Gp∧e=V (X #[J Y sp,.slice (some ⟨bp,0,none⟩) kp qp,J Y xp,E false])∧Gb w w'))(e1:ca=2)(z fl:Int)(HL:KR 167 #[J Y f,J Y sp] (X #[J O z,J Y fl]))(w:World):
  QB 85 #[J Y f,J Y mode,J O a,J O b] w (X #[J O z,J Y fl]):=by
 subst e1
 go_enter func85,ntmps85
 go_wp2_with (first
  |(go_at_call 117;refine kw (HF.out _) ?_)
  |(go_at_call 31;first|(with_reducible refine(fB.out _).mono ?_;rintro e w1 ⟨rfl,aj⟩;obtain⟨dK,fZ,jY,fV⟩:=aj.y2 w.heap.size 0 1 (J O 0) (J Y 0);have hz0:=au dK)|(with_reducible refine(iq.out _).mono ?_;rintro e w2 ⟨rfl,ak⟩;obtain⟨fC,iQ,mG,iO⟩:=ak.y2 w.heap.size 0 1 (J O 0) (J Y 0);have bU:=ak.e1 w1.heap.size 0 (J Y 2);have fG:=aK bU;have bT:=ak.e1 w1.heap.size 1 (J Y sa);have fF:=aK bT;have bQ:=ak.e1 w1.heap.size 2 (J Y xa);have fE:=aK bQ;have bP:=ak.e1 w1.heap.size 3 (J O ga);have fD:=aK bP;have hz1:=au fC))
  |(go_at_call 118;first|(with_reducible refine(jU.out _).mono ?_;rintro e va ⟨rfl,aC⟩;obtain⟨kC,gu,ku,f_⟩:=aC.y2 w.heap.size 0 1 (J O 0) (J Y 0);obtain⟨gJ,gI,gG,gB⟩:=aC.e4 w1.heap.size 0 1 2 3 (J Y 2) (J Y sa) (J Y xa) (J O ga);obtain⟨iV,iU,iT,iR⟩:=aC.e4 w2.heap.size 0 1 2 3 (J Y cb) (J Y sb) (J Y xb) (J O gb))|(with_reducible refine(oq.out _).mono ?_;rintro e vb ⟨rfl,aN⟩;obtain⟨nR,jv,nP,jo⟩:=aN.y2 w.heap.size 0 1 (J O 0) (J Y 0);obtain⟨jF,jE,jD,jC⟩:=aN.e4 w1.heap.size 0 1 2 3 (J Y 2) (J Y sa) (J Y xa) (J O ga);obtain⟨jB,jA,jy,jw⟩:=aN.e4 w2.heap.size 0 1 2 3 (J Y cb) (J Y sb) (J Y xb) (J O gb)))
  |(go_at_call 172;refine(HP.out _).mono ?_;rintro e vp ⟨rfl,kE⟩;obtain⟨XO,Ny,XM,Nw⟩:=kE.y2 w.heap.size 0 1 (J O 0) (J Y 0);obtain⟨NK,NJ,NI,NH⟩:=kE.e4 w1.heap.size 0 1 2 3 (J Y 2) (J Y sa) (J Y xa) (J O ga);obtain⟨NG,ND,NC,Nz⟩:=kE.e4 w2.heap.size 0 1 2 3 (J Y cb) (J Y sb) (J Y xb) (J O gb))
  |(go_at_call 173;refine(HM.out _).mono ?_;rintro e wm ⟨bp,kp,qp,hbp,rfl,jI⟩;skip;obtain⟨zK,qP⟩:=jI.y1 w.heap.size 0 (J O 0);have aAP:=aK zK;have aAN:=bH qP;obtain⟨DL,qO⟩:=jI.y1 w.heap.size 1 (J Y 0);have aAO:=aK DL;have aAM:=bH qO;obtain⟨JV,aAV,aAU,aAT⟩:=jI.e4 w1.heap.size 0 1 2 3 (J Y 2) (J Y sa) (J Y xa) (J O ga);obtain⟨JU,aAS,aAR,aAQ⟩:=jI.e4 w2.heap.size 0 1 2 3 (J Y cb) (J Y sb) (J Y xb) (J O gb);have mA0:=aK JV;have mB0:=aK JU;have hzm:=au zK)
  |(go_at_call 167;refine(HL.out _).mono ?_;rintro e w9 ⟨rfl,aP⟩;obtain⟨fP,fU,fO,fQ⟩:=aP.y2 w.heap.size 0 1 (J O 0) (J Y 0)))
 refine bodyPost_ret (v:=X #[J O z,J Y fl]) (by simp[results,Tryz.results85,go_sem,fP,fO]) rfl ⟨rfl,?_⟩
 exact Gb.g
theorem O1(f mode a b ca sa xa ga cb sb xb gb:Int)(sp xp:Int)(Gp:Nat)(HF:KW 117 #[J Y f,J Y mode,J O a,J O b] (E true))(fB:KR 31 #[J Y f,J O a] (X #[J Y ca,J Y sa,J Y xa,J O ga]))(iq:KR 31 #[J Y f,J O b] (X #[J Y cb,J Y sb,J Y xb,J O gb]))(jU:KR 118 #[X #[J Y ca,J Y sa,J Y xa,J O ga]] (E false))(oq:KR 118 #[X #[J Y cb,J Y sb,J Y xb,J O gb]] (E false))(HP:KR 172 #[X #[J Y ca,J Y sa,J Y xa,J O ga],X #[J Y cb,J Y sb,J Y xb,J O gb]] (E false))(HM:Hid (∀w,CT 173 #[X #[J Y ca,J Y sa,J Y xa,J O ga],X #[J Y cb,J Y sb,J Y xb,J O gb]] w fun e w'=>∃bp kp qp,aB 4 w' (.slice (some ⟨bp,0,none⟩) kp qp) Gp∧e=V (X #[J Y sp,.slice (some ⟨bp,0,none⟩) kp qp,J Y xp,E false])∧Gb w w'))(e1:(ca==2)=false)(e2:cb=2)(z fl:Int)(HL:KR 167 #[J Y f,J Y sp] (X #[J O z,J Y fl]))(w:World):
  QB 85 #[J Y f,J Y mode,J O a,J O b] w (X #[J O z,J Y fl]):=by
 subst e2
 go_enter func85,ntmps85
 go_wp2_with (first
  |(go_at_call 117;refine kw (HF.out _) ?_)
  |(go_at_call 31;first|(with_reducible refine(fB.out _).mono ?_;rintro e w1 ⟨rfl,aj⟩;obtain⟨dK,fZ,jY,fV⟩:=aj.y2 w.heap.size 0 1 (J O 0) (J Y 0);have hz0:=au dK)|(with_reducible refine(iq.out _).mono ?_;rintro e w2 ⟨rfl,ak⟩;obtain⟨fC,iQ,mG,iO⟩:=ak.y2 w.heap.size 0 1 (J O 0) (J Y 0);have bU:=ak.e1 w1.heap.size 0 (J Y ca);have fG:=aK bU;have bT:=ak.e1 w1.heap.size 1 (J Y sa);have fF:=aK bT;have bQ:=ak.e1 w1.heap.size 2 (J Y xa);have fE:=aK bQ;have bP:=ak.e1 w1.heap.size 3 (J O ga);have fD:=aK bP;have hz1:=au fC))
  |(go_at_call 118;first|(with_reducible refine(jU.out _).mono ?_;rintro e va ⟨rfl,aC⟩;obtain⟨kC,gu,ku,f_⟩:=aC.y2 w.heap.size 0 1 (J O 0) (J Y 0);obtain⟨gJ,gI,gG,gB⟩:=aC.e4 w1.heap.size 0 1 2 3 (J Y ca) (J Y sa) (J Y xa) (J O ga);obtain⟨iV,iU,iT,iR⟩:=aC.e4 w2.heap.size 0 1 2 3 (J Y 2) (J Y sb) (J Y xb) (J O gb))|(with_reducible refine(oq.out _).mono ?_;rintro e vb ⟨rfl,aN⟩;obtain⟨nR,jv,nP,jo⟩:=aN.y2 w.heap.size 0 1 (J O 0) (J Y 0);obtain⟨jF,jE,jD,jC⟩:=aN.e4 w1.heap.size 0 1 2 3 (J Y ca) (J Y sa) (J Y xa) (J O ga);obtain⟨jB,jA,jy,jw⟩:=aN.e4 w2.heap.size 0 1 2 3 (J Y 2) (J Y sb) (J Y xb) (J O gb)))
  |(go_at_call 172;refine(HP.out _).mono ?_;rintro e vp ⟨rfl,kE⟩;obtain⟨XO,Ny,XM,Nw⟩:=kE.y2 w.heap.size 0 1 (J O 0) (J Y 0);obtain⟨NK,NJ,NI,NH⟩:=kE.e4 w1.heap.size 0 1 2 3 (J Y ca) (J Y sa) (J Y xa) (J O ga);obtain⟨NG,ND,NC,Nz⟩:=kE.e4 w2.heap.size 0 1 2 3 (J Y 2) (J Y sb) (J Y xb) (J O gb))
  |(go_at_call 173;refine(HM.out _).mono ?_;rintro e wm ⟨bp,kp,qp,hbp,rfl,jI⟩;skip;obtain⟨zK,qP⟩:=jI.y1 w.heap.size 0 (J O 0);have aAP:=aK zK;have aAN:=bH qP;obtain⟨DL,qO⟩:=jI.y1 w.heap.size 1 (J Y 0);have aAO:=aK DL;have aAM:=bH qO;obtain⟨JV,aAV,aAU,aAT⟩:=jI.e4 w1.heap.size 0 1 2 3 (J Y ca) (J Y sa) (J Y xa) (J O ga);obtain⟨JU,aAS,aAR,aAQ⟩:=jI.e4 w2.heap.size 0 1 2 3 (J Y 2) (J Y sb) (J Y xb) (J O gb);have mA0:=aK JV;have mB0:=aK JU;have hzm:=au zK)
  |(go_at_call 167;refine(HL.out _).mono ?_;rintro e w9 ⟨rfl,aP⟩;obtain⟨fP,fU,fO,fQ⟩:=aP.y2 w.heap.size 0 1 (J O 0) (J Y 0)))
 refine bodyPost_ret (v:=X #[J O z,J Y fl]) (by simp[results,Tryz.results85,go_sem,fP,fO]) rfl ⟨rfl,?_⟩
 exact Gb.g
theorem OW(f mode a b ca sa xa ga cb sb xb gb:Int)(sp xp:Int)(Gp:Nat)(HF:KW 117 #[J Y f,J Y mode,J O a,J O b] (E true))(fB:KR 31 #[J Y f,J O a] (X #[J Y ca,J Y sa,J Y xa,J O ga]))(iq:KR 31 #[J Y f,J O b] (X #[J Y cb,J Y sb,J Y xb,J O gb]))(jU:KR 118 #[X #[J Y ca,J Y sa,J Y xa,J O ga]] (E false))(oq:KR 118 #[X #[J Y cb,J Y sb,J Y xb,J O gb]] (E false))(HP:KR 172 #[X #[J Y ca,J Y sa,J Y xa,J O ga],X #[J Y cb,J Y sb,J Y xb,J O gb]] (E false))(HM:Hid (∀w,CT 173 #[X #[J Y ca,J Y sa,J Y xa,J O ga],X #[J Y cb,J Y sb,J Y xb,J O gb]] w fun e w'=>∃bp kp qp,aB 4 w' (.slice (some ⟨bp,0,none⟩) kp qp) Gp∧e=V (X #[J Y sp,.slice (some ⟨bp,0,none⟩) kp qp,J Y xp,E false])∧Gb w w'))(e1:(ca==2)=false)(e2:(cb==2)=false)(hG:Gp=0)(z fl:Int)(HL:KR 64 #[J Y f,J Y sp] (X #[J O z,J Y fl]))(w:World):
  QB 85 #[J Y f,J Y mode,J O a,J O b] w (X #[J O z,J Y fl]):=by
 have HG:Hid (Gp=0):=hG
 clear hG
 go_enter func85,ntmps85
 go_wp2_with (first
  |(go_at_call 117;refine kw (HF.out _) ?_)
  |(go_at_call 31;first|(with_reducible refine(fB.out _).mono ?_;rintro e w1 ⟨rfl,aj⟩;obtain⟨dK,fZ,jY,fV⟩:=aj.y2 w.heap.size 0 1 (J O 0) (J Y 0);have hz0:=au dK)|(with_reducible refine(iq.out _).mono ?_;rintro e w2 ⟨rfl,ak⟩;obtain⟨fC,iQ,mG,iO⟩:=ak.y2 w.heap.size 0 1 (J O 0) (J Y 0);have bU:=ak.e1 w1.heap.size 0 (J Y ca);have fG:=aK bU;have bT:=ak.e1 w1.heap.size 1 (J Y sa);have fF:=aK bT;have bQ:=ak.e1 w1.heap.size 2 (J Y xa);have fE:=aK bQ;have bP:=ak.e1 w1.heap.size 3 (J O ga);have fD:=aK bP;have hz1:=au fC))
  |(go_at_call 118;first|(with_reducible refine(jU.out _).mono ?_;rintro e va ⟨rfl,aC⟩;obtain⟨kC,gu,ku,f_⟩:=aC.y2 w.heap.size 0 1 (J O 0) (J Y 0);obtain⟨gJ,gI,gG,gB⟩:=aC.e4 w1.heap.size 0 1 2 3 (J Y ca) (J Y sa) (J Y xa) (J O ga);obtain⟨iV,iU,iT,iR⟩:=aC.e4 w2.heap.size 0 1 2 3 (J Y cb) (J Y sb) (J Y xb) (J O gb))|(with_reducible refine(oq.out _).mono ?_;rintro e vb ⟨rfl,aN⟩;obtain⟨nR,jv,nP,jo⟩:=aN.y2 w.heap.size 0 1 (J O 0) (J Y 0);obtain⟨jF,jE,jD,jC⟩:=aN.e4 w1.heap.size 0 1 2 3 (J Y ca) (J Y sa) (J Y xa) (J O ga);obtain⟨jB,jA,jy,jw⟩:=aN.e4 w2.heap.size 0 1 2 3 (J Y cb) (J Y sb) (J Y xb) (J O gb)))
  |(go_at_call 172;refine(HP.out _).mono ?_;rintro e vp ⟨rfl,kE⟩;obtain⟨XO,Ny,XM,Nw⟩:=kE.y2 w.heap.size 0 1 (J O 0) (J Y 0);obtain⟨NK,NJ,NI,NH⟩:=kE.e4 w1.heap.size 0 1 2 3 (J Y ca) (J Y sa) (J Y xa) (J O ga);obtain⟨NG,ND,NC,Nz⟩:=kE.e4 w2.heap.size 0 1 2 3 (J Y cb) (J Y sb) (J Y xb) (J O gb))
  |(go_at_call 173;refine(HM.out _).mono ?_;rintro e wm ⟨bp,kp,qp,hbp,rfl,jI⟩;obtain⟨np,hnp,hbb⟩:=hbp;obtain rfl:kp=0:=(yH hbb HG.out);obtain⟨zK,qP⟩:=jI.y1 w.heap.size 0 (J O 0);have aAP:=aK zK;have aAN:=bH qP;obtain⟨DL,qO⟩:=jI.y1 w.heap.size 1 (J Y 0);have aAO:=aK DL;have aAM:=bH qO;obtain⟨JV,aAV,aAU,aAT⟩:=jI.e4 w1.heap.size 0 1 2 3 (J Y ca) (J Y sa) (J Y xa) (J O ga);obtain⟨JU,aAS,aAR,aAQ⟩:=jI.e4 w2.heap.size 0 1 2 3 (J Y cb) (J Y sb) (J Y xb) (J O gb);have mA0:=aK JV;have mB0:=aK JU;have hzm:=au zK)
  |(go_at_call 64;refine(HL.out _).mono ?_;rintro e w9 ⟨rfl,aP⟩;obtain⟨fP,fU,fO,fQ⟩:=aP.y2 w.heap.size 0 1 (J O 0) (J Y 0)))
 refine bodyPost_ret (v:=X #[J O z,J Y fl]) (by simp[results,Tryz.results85,go_sem,fP,fO]) rfl ⟨rfl,?_⟩
 exact Gb.g
theorem zZ9(f mode a b ca sa xa ga cb sb xb gb:Int)(sp xp:Int)(Gp:Nat)(HF:KW 117 #[J Y f,J Y mode,J O a,J O b] (E true))(fB:KR 31 #[J Y f,J O a] (X #[J Y ca,J Y sa,J Y xa,J O ga]))(iq:KR 31 #[J Y f,J O b] (X #[J Y cb,J Y sb,J Y xb,J O gb]))(jU:KR 118 #[X #[J Y ca,J Y sa,J Y xa,J O ga]] (E false))(oq:KR 118 #[X #[J Y cb,J Y sb,J Y xb,J O gb]] (E false))(HP:KR 172 #[X #[J Y ca,J Y sa,J Y xa,J O ga],X #[J Y cb,J Y sb,J Y xb,J O gb]] (E false))(HM:Hid (∀w,CT 173 #[X #[J Y ca,J Y sa,J Y xa,J O ga],X #[J Y cb,J Y sb,J Y xb,J O gb]] w fun e w'=>∃bp kp qp,aB 4 w' (.slice (some ⟨bp,0,none⟩) kp qp) Gp∧e=V (X #[J Y sp,.slice (some ⟨bp,0,none⟩) kp qp,J Y xp,E false])∧Gb w w'))(e1:(ca==2)=false)(e2:(cb==2)=false)(hG:0<Gp)(Q:Int→Int→Prop)(HR:Hid (∀v w,aB 4 w v Gp→CT 65 #[J Y f,J Y mode,X #[J Y sp,v,J Y xp,E false]] w fun e w'=>∃z fl,Q z fl∧e=V (X #[J O z,J Y fl])∧Gb w w'))(w:World):
  CT 85 #[J Y f,J Y mode,J O a,J O b] w fun e w'=>∃z fl,Q z fl∧e=V (X #[J O z,J Y fl])∧Gb w w':=by
 have HG:Hid (0<Gp):=hG
 clear hG
 go_enter func85,ntmps85
 go_wp2_with (first
  |(go_at_call 117;refine kw (HF.out _) ?_)
  |(go_at_call 31;first|(with_reducible refine(fB.out _).mono ?_;rintro e w1 ⟨rfl,aj⟩;obtain⟨dK,fZ,jY,fV⟩:=aj.y2 w.heap.size 0 1 (J O 0) (J Y 0);have hz0:=au dK)|(with_reducible refine(iq.out _).mono ?_;rintro e w2 ⟨rfl,ak⟩;obtain⟨fC,iQ,mG,iO⟩:=ak.y2 w.heap.size 0 1 (J O 0) (J Y 0);have bU:=ak.e1 w1.heap.size 0 (J Y ca);have fG:=aK bU;have bT:=ak.e1 w1.heap.size 1 (J Y sa);have fF:=aK bT;have bQ:=ak.e1 w1.heap.size 2 (J Y xa);have fE:=aK bQ;have bP:=ak.e1 w1.heap.size 3 (J O ga);have fD:=aK bP;have hz1:=au fC))
  |(go_at_call 118;first|(with_reducible refine(jU.out _).mono ?_;rintro e va ⟨rfl,aC⟩;obtain⟨kC,gu,ku,f_⟩:=aC.y2 w.heap.size 0 1 (J O 0) (J Y 0);obtain⟨gJ,gI,gG,gB⟩:=aC.e4 w1.heap.size 0 1 2 3 (J Y ca) (J Y sa) (J Y xa) (J O ga);obtain⟨iV,iU,iT,iR⟩:=aC.e4 w2.heap.size 0 1 2 3 (J Y cb) (J Y sb) (J Y xb) (J O gb))|(with_reducible refine(oq.out _).mono ?_;rintro e vb ⟨rfl,aN⟩;obtain⟨nR,jv,nP,jo⟩:=aN.y2 w.heap.size 0 1 (J O 0) (J Y 0);obtain⟨jF,jE,jD,jC⟩:=aN.e4 w1.heap.size 0 1 2 3 (J Y ca) (J Y sa) (J Y xa) (J O ga);obtain⟨jB,jA,jy,jw⟩:=aN.e4 w2.heap.size 0 1 2 3 (J Y cb) (J Y sb) (J Y xb) (J O gb)))
  |(go_at_call 172;refine(HP.out _).mono ?_;rintro e vp ⟨rfl,kE⟩;obtain⟨XO,Ny,XM,Nw⟩:=kE.y2 w.heap.size 0 1 (J O 0) (J Y 0);obtain⟨NK,NJ,NI,NH⟩:=kE.e4 w1.heap.size 0 1 2 3 (J Y ca) (J Y sa) (J Y xa) (J O ga);obtain⟨NG,ND,NC,Nz⟩:=kE.e4 w2.heap.size 0 1 2 3 (J Y cb) (J Y sb) (J Y xb) (J O gb))
  |(go_at_call 173;refine(HM.out _).mono ?_;rintro e wm ⟨bp,kp,qp,hbp,rfl,jI⟩;have hk0:(((kp:Nat):Int)==0)=false:=(by have:=Eo hbp;rw[this];exact decide_eq_false (by have:=HG.out;omega));obtain⟨zK,qP⟩:=jI.y1 w.heap.size 0 (J O 0);have aAP:=aK zK;have aAN:=bH qP;obtain⟨DL,qO⟩:=jI.y1 w.heap.size 1 (J Y 0);have aAO:=aK DL;have aAM:=bH qO;obtain⟨JV,aAV,aAU,aAT⟩:=jI.e4 w1.heap.size 0 1 2 3 (J Y ca) (J Y sa) (J Y xa) (J O ga);obtain⟨JU,aAS,aAR,aAQ⟩:=jI.e4 w2.heap.size 0 1 2 3 (J Y cb) (J Y sb) (J Y xb) (J O gb);have mA0:=aK JV;have mB0:=aK JU;have hzm:=au zK)
  |(go_at_call 65;refine(HR.out _ _ (aB.gb hbp Gb.g)).mono ?_;rintro e w9 ⟨z,fl,hq,rfl,aP⟩;obtain⟨fP,fU,fO,fQ⟩:=aP.y2 w.heap.size 0 1 (J O 0) (J Y 0)))
 refine bodyPost_ret (v:=X #[J O z,J Y fl]) (by simp[results,Tryz.results85,go_sem,fP,fO]) rfl ⟨z,fl,hq,rfl,?_⟩
 exact Gb.g
def r_(mode:Int)(x y:bI):bI:=cu x y
theorem Gw(f mode a b:Int)(a0:0≤a)(a1:a<18446744073709551616)(b0:0≤b)(b1:b<18446744073709551616)(w:World)(hw:Fm w):
  CT 86 #[J Y f,J Y mode,J O a,J O b] w fun e w'=>∃Z fl,qm r_ f mode a b Z fl∧e=V (X #[J O Z,J Y fl])∧Gr w w':=by
 refine Ky f mode a b (qm r_ f mode a b) (fun w' hg=>?_)
 have hw':=hw.gr hg
 by_cases hf:f=0∨f=1
 ·obtain⟨p,mx,one,inf,sg,nan,hF⟩:=kF f hf
  obtain⟨mn,fb,sp,hM,hmn,hfb⟩:=hF.m
  by_cases hm:0≤mode∧mode≤4
  ·obtain⟨k,hk⟩:=o9 mode hm.1 hm.2
   obtain⟨x,hx,HA⟩:=ny hF hM a a0 a1
   obtain⟨y,hy,HB⟩:=ny hF hM b b0 b1
   obtain⟨v1,v2,v3,v4,v5,v6⟩:=dA hF hx
   obtain⟨u1,u2,u3,u4,u5,u6⟩:=dA hF hy
   refine(Ej p mn mx mode f k 174 a b _ _ _ _ _ _ _ _ _ _ _ _ (fun w'' hg'=>gK hF hM mode k (fun w=>jQ mode k hk w) (hw'.gr hg')) HA HB (rC (r_ mode x y)) (fun w=>(sF p mn mx mode k x y v1 u1 om om w).mono (fun e w' ⟨he,hg⟩=>⟨_,_,_,_,_,_,(zG v1 u1 v6 u6 v4 v5 u4 u5).same,he,hg⟩)) (bV p mn mx one inf sg nan mode (r_ mode x y)) (fun os oe oc oh ol ot w hq=>zH hM mode k hk _ os oe oc oh ol ot hq w)).mono ?_
   rintro e w'' ⟨Z,fl,hp,rfl,hg'⟩
   rw[hmn]at hp
   exact⟨_,_,.inl ⟨p,mx,one,inf,sg,nan,x,y,hF,hm,hx,hy,hp⟩,rfl,hg'⟩
  ·refine(lG p mn mx mode nan f mode a b (fun w'' hg'=>jm hF hM mode (fun w=>oC mode om w) (hw'.gr hg')) (fun w=>dI hM w) 174).mono ?_
   rintro e w'' ⟨rfl,hg'⟩
   exact⟨_,_,.inr (.inl ⟨p,mx,one,inf,sg,nan,hF,om,rfl,rfl⟩),rfl,hg'⟩
 ·refine(lG _ _ _ _ _ f mode a b (fun w'' hg'=>je f mode hf (hw'.gr hg')) (fun w=>dI m64 w) 174).mono ?_
  rintro e w'' ⟨rfl,hg'⟩
  exact⟨_,_,.inr (.inr ⟨hf,rfl,rfl⟩),rfl,hg'⟩
theorem Je{f p mx one inf sg nan:Int}(h:aI f p mx one inf sg nan)(mode a b:Int)(hm:0≤mode∧mode≤4)(a0:0≤a)(a1:a<18446744073709551616)(b0:0≤b)(b1:b<18446744073709551616){x y:bI}(hx:bZ p mx one inf sg nan a x)(hy:bZ p mx one inf sg nan b y)(w:World):
  CT 85 #[J Y f,J Y mode,J O a,J O b] w fun e w'=>∃Z fl,bV p (1-mx) mx one inf sg nan mode (r_ mode x y) Z fl∧e=V (X #[J O Z,J Y fl])∧Gb w w':=by
 obtain⟨v1,v2,v3,v4,v5,v6⟩:=dA h hx
 obtain⟨u1,u2,u3,u4,u5,u6⟩:=dA h hy
 have xc0:=v1.c0
 have xc4:=v1.c4
 have yc0:=u1.c0
 have yc4:=u1.c4
 have hms:mulS x.s y.s=0∨mulS x.s y.s=1:=by unfold mulS;split<;>simp
 unfold r_
 by_cases hfit:a<2*sg∧b<2*sg
 ·obtain⟨fa,RF⟩:=hfit
  have HF:KW 117 #[J Y f,J Y mode,J O a,J O b] (E true):=fun w=>nH h mode a b hm.1 hm.2 a0 fa b0 RF w
  have fB:=nS h a a0 fa hx
  have iq:=nS h b b0 RF hy
  have HQ:∀(z:bI) (t:Bool),t=decide (3≤z.c)→KR 118 #[X #[J Y z.c,J Y z.s,J Y z.e,J O (((z.M:Nat):Int))]] (E t):=fun z t ht w=>lS _ _ _ _ t ht w
  have wS:∀t:Bool,KR 119 #[J Y f,E t] (X #[J O nan,J Y (if t then 1 else 0)]):=fun t w=>rO h t _ rfl w
  by_cases c1:3≤x.c
  ·rw[rG x y (by omega)]
   by_cases c2:x.c=4
   ·refine(OZ f mode a b _ _ _ _ _ _ _ _ HF fB iq (HQ x true (by simp[c1])) (by simp[c2]) nan _ (wS true) w).mono ?_
    rintro e w' ⟨rfl,hg⟩
    exact⟨_,_,jG _ true (by simp;omega) om om,rfl,hg⟩
   ·refine(OY f mode a b _ _ _ _ _ _ _ _ HF fB iq (HQ x true (by simp[c1])) (by simp[c2]) (decide (y.c=4)) (bq _ _) nan _ (wS _) w).mono ?_
    rintro e w' ⟨rfl,hg⟩
    exact⟨_,_,jG _ _ (by rw[decide_eq_decide];omega) om om,rfl,hg⟩
  ·by_cases c2:3≤y.c
   ·rw[rG x y (by omega)]
    refine(OX f mode a b _ _ _ _ _ _ _ _ HF fB iq (HQ x false (by simp;omega)) (HQ y true (by simp[c2])) (by simp;omega) (decide (y.c=4)) (bq _ _) nan _ (wS _) w).mono ?_
    rintro e w' ⟨rfl,hg⟩
    exact⟨_,_,jG _ _ (by rw[decide_eq_decide];omega) om om,rfl,hg⟩
   ·have hQa:=HQ x false (by simp;omega)
    have hQb:=HQ y false (by simp;omega)
    have YK:∀t:Bool,t=decide (x.c=2∧y.c=0∨x.c=0∧y.c=2)→KR 172 #[X #[J Y x.c,J Y x.s,J Y x.e,J O (((x.M:Nat):Int))],X #[J Y y.c,J Y y.s,J Y y.e,J O (((y.M:Nat):Int))]] (E t):=fun t ht w=>xY _ _ _ _ _ _ _ _ t ht w
    have HM:Hid (∀w,CT 173 #[X #[J Y x.c,J Y x.s,J Y x.e,J O (((x.M:Nat):Int))],X #[J Y y.c,J Y y.s,J Y y.e,J O (((y.M:Nat):Int))]] w fun e w'=>∃b k cc,aB 4 w' (.slice (some ⟨b,0,none⟩) k cc) (x.M*y.M)∧e=V (X #[J Y (mulS x.s y.s),.slice (some ⟨b,0,none⟩) k cc,J Y (x.e+y.e),E false])∧Gb w w'):=fun w=>BG _ _ _ _ _ _ x.M y.M om om v1.nN u1.nN om om om om w
    unfold cu
    rw[if_neg (show ¬3≤max x.c y.c by omega)]
    by_cases c3:x.c=2∧y.c=0∨x.c=0∧y.c=2
    ·rw[if_pos (show min x.c y.c=0∧max x.c y.c=2 by omega)]
     refine(Xo f mode a b _ _ _ _ _ _ _ _ HF fB iq hQa hQb (YK true (by simp[c3])) nan 1 (fun w=>cZ h w) w).mono ?_
     rintro e w' ⟨rfl,hg⟩
     exact⟨_,_,lH rfl,rfl,hg⟩
    ·have hP:=YK false (decide_eq_false c3).symm
     rw[if_neg (show ¬(min x.c y.c=0∧max x.c y.c=2) by omega)]
     by_cases c4:x.c=2
     ·rw[if_neg (show ¬min x.c y.c=0 by omega),if_pos (show max x.c y.c=2 by omega)]
      refine(O4 f mode a b _ _ _ _ _ _ _ _ _ _ _ HF fB iq hQa hQb hP HM c4 (sw (mulS x.s y.s) sg inf) 0 (fun w=>eu h _ hms w) w).mono ?_
      rintro e w' ⟨rfl,hg⟩
      exact⟨_,_,.inr (.inr (.inl ⟨rfl,rfl,rfl⟩)),rfl,hg⟩
     ·by_cases c5:y.c=2
      ·rw[if_neg (show ¬min x.c y.c=0 by omega),if_pos (show max x.c y.c=2 by omega)]
       refine(O1 f mode a b _ _ _ _ _ _ _ _ _ _ _ HF fB iq hQa hQb hP HM (by simp[c4]) c5 (sw (mulS x.s y.s) sg inf) 0 (fun w=>eu h _ hms w) w).mono ?_
       rintro e w' ⟨rfl,hg⟩
       exact⟨_,_,.inr (.inr (.inl ⟨rfl,rfl,rfl⟩)),rfl,hg⟩
      ·by_cases c6:min x.c y.c=0
       ·rw[if_pos c6]
        have hz:x.M*y.M=0:=by
         rcases(show x.c=0∨y.c=0 by omega)with c|c
         ·rw[v3 om,Nat.zero_mul]
         ·rw[u3 om,Nat.mul_zero]
        refine(OW f mode a b _ _ _ _ _ _ _ _ _ _ _ HF fB iq hQa hQb hP HM (by simp[c4]) (by simp[c5]) hz (sw (mulS x.s y.s) sg 0) 0 (fun w=>jS h _ hms w) w).mono ?_
        rintro e w' ⟨rfl,hg⟩
        exact⟨_,_,.inl ⟨rfl,rfl,rfl⟩,rfl,hg⟩
       ·rw[if_neg c6,if_neg (show ¬max x.c y.c=2 by omega)]
        have ex:=(v1.fin om).1
        have ey:=(u1.fin om).1
        have hpos:0<x.M*y.M:=Nat.mul_pos ex ey
        exact zZ9 f mode a b _ _ _ _ _ _ _ _ _ _ _ HF fB iq hQa hQb hP HM (by simp[c4]) (by simp[c5]) hpos _ (fun v w hB=>m_ h mode hm.1 hm.2 ⟨1,mulS x.s y.s,x.e+y.e,x.M*y.M⟩ rfl hms hpos (by dsimp only;omega) (by dsimp only;omega) 4 om v w hB) w
 ·refine(y9 f mode a b (fun w=>dY f mode a b a0 a1 b0 b1 (qK h a1 b1 om) w) nan 1 (fun w=>cZ h w) w).mono ?_
  rintro e w' ⟨rfl,hg⟩
  refine⟨_,_,?_,rfl,hg⟩
  have:max x.c y.c=4:=by
   rcases(show 2*sg≤a∨2*sg≤b by omega)with c|c
   ·have:=kD h hx c;subst this;dsimp only at*;omega
   ·have:=kD h hy c;subst this;dsimp only at*;omega
  rw[rG x y (by omega)]
  exact lH this
theorem E8(f mode a b:Int)(a0:0≤a)(a1:a<18446744073709551616)(b0:0≤b)(b1:b<18446744073709551616)(w:World):
  CT 85 #[J Y f,J Y mode,J O a,J O b] w fun e w'=>∃Z fl,qm r_ f mode a b Z fl∧e=V (X #[J O Z,J Y fl])∧Gb w w':=by
 by_cases hf:f=0∨f=1
 ·obtain⟨p,mx,one,inf,sg,nan,hF⟩:=kF f hf
  by_cases hm:0≤mode∧mode≤4
  ·obtain⟨x,hx⟩:=jk hF a a0 a1
   obtain⟨y,hy⟩:=jk hF b b0 b1
   refine(Je hF mode a b hm a0 a1 b0 b1 hx hy w).mono ?_
   rintro e w' ⟨Z,fl,hp,rfl,hg⟩
   exact⟨_,_,.inl ⟨p,mx,one,inf,sg,nan,x,y,hF,hm,hx,hy,hp⟩,rfl,hg⟩
  ·refine(y9 f mode a b (fun w=>dY f mode a b a0 a1 b0 b1 (.inl om) w) nan 1 (fun w=>cZ hF w) w).mono ?_
   rintro e w' ⟨rfl,hg⟩
   exact⟨_,_,.inr (.inl ⟨p,mx,one,inf,sg,nan,hF,om,rfl,rfl⟩),rfl,hg⟩
 ·refine(y9 f mode a b (fun w=>dY f mode a b a0 a1 b0 b1 (.inr (.inl hf)) w) _ 1 (fun w=>oJ f hf w) w).mono ?_
  rintro e w' ⟨rfl,hg⟩
  exact⟨_,_,.inr (.inr ⟨hf,rfl,rfl⟩),rfl,hg⟩
theorem XI(mode:Int)(x y:bI)(hx:VO x)(hy:VO y)(h1:nb x.M≤53)(h2:nb y.M≤53)(h3:-2000≤x.e)(h4:x.e≤2000)(h5:-2000≤y.e)(h6:y.e≤2000):0≤(r_ mode x y).c ∧(r_ mode x y).c ≤4:=⟨(zG hx hy h1 h2 h3 h4 h5 h6).c0,(zG hx hy h1 h2 h3 h4 h5 h6).c4⟩
theorem uV(f mode a b:Int)(a0:0≤a)(a1:a<18446744073709551616)(b0:0≤b)(b1:b<18446744073709551616):
  ∃Z fl:Int,qm r_ f mode a b Z fl∧(∀w,QB 85 #[J Y f,J Y mode,J O a,J O b] w (X #[J O Z,J Y fl]))∧
   (∀w,Fm w→QR 86 #[J Y f,J Y mode,J O a,J O b] w (X #[J O Z,J Y fl])):=
 En r_ 85 86 XI f mode a b a0 a1 b0 b1 (E8 f mode a b a0 a1 b0 b1) (Gw f mode a b a0 a1 b0 b1)
