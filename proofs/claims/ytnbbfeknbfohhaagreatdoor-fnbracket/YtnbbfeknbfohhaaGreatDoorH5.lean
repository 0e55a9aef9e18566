import Derived.Test.YtnbbfeknbfohhaaGreatDoorU1
import Derived.Test.YtnbbfeknbfohhaaGreatDoorH3
import Derived.Deep.DeepCutAuto
import Derived.Test.YtnbbfeknbfohhaaGreatDoorH4
import Derived.Test.YtnbbfeknbfohhaaGreatDoorHC
set_option linter.unusedVariables false
set_option linter.unusedSimpArgs false
set_option maxRecDepth 1000000
set_option maxHeartbeats 40000000
open Go.Value renaming int → J, agg → V, slice → U, bool → I
open Go.IntKind renaming i64 → Y, u64 → O
open Go.Ending renaming returned → E
open Go.Proofs.Tryz
namespace Go.Proofs.YtnbbfeknbfohhaaGreatDoor
open Go.RowKit
theorem VQ{K:Nat}{w:World}{b k c N:Nat}(h:aB K w (U (some ⟨b,0,none⟩) k c) N)(h0:N=0):k=0:=by
 obtain⟨n,hn,hnm,hr⟩:=h
 have e:n=k:=by obtain⟨_,b',c',hv,_⟩:=hr;cases hv;rfl
 rw[←e];exact(hnm.iff).2 h0
theorem VP{K:Nat}{w:World}{b k c N:Nat}(h:aB K w (U (some ⟨b,0,none⟩) k c) N)(h0:N≠0):0<k:=by
 obtain⟨n,hn,hnm,hr⟩:=h
 have e:n=k:=by obtain⟨_,b',c',hv,_⟩:=hr;cases hv;rfl
 rw[←e]
 rcases Nat.eq_zero_or_pos n with c|c
 ·exact absurd ((hnm.iff).1 c) h0
 ·exact c
theorem KO{K L:Nat}{v v':Value}{N N':Nat}{w:World}(hK:K≤1000)(hL:L≤1000)(h:aB K w v N)(h':aB L w v' N')(h0:0<N'):
  CT 219 #[v,v'] w fun e w'=>∃b k c b' k' c',aB K w' (U (some ⟨b,0,none⟩) k c) (N/N')∧aB (L+1) w' (U (some ⟨b',0,none⟩) k' c') (N%N')∧e=E (.tuple #[U (some ⟨b,0,none⟩) k c,U (some ⟨b',0,none⟩) k' c'])∧Gb w w':=by
 obtain⟨n,hn,hb⟩:=h
 obtain⟨n',hn',hb'⟩:=h'
 refine(QG hb om hb' om h0).mono ?_
 rintro e w' ⟨q,r,k,k',rfl,hq,hr,hk,hk',hg⟩
 obtain⟨b,c,rfl,_⟩:=Big.shape hq
 obtain⟨b',c',rfl,_⟩:=Big.shape hr
 exact⟨b,k,c,b',k',c',⟨k,om,hq⟩,⟨k',om,hr⟩,rfl,hg⟩
theorem zO{f p mx one inf sg nan:Int}(h:aI f p mx one inf sg nan)(c s x c' s' x':Int)(A B:Nat)(hA:A<18446744073709551616)(hB:B<18446744073709551616)(hB0:0<B)(a0:0≤s)(a1:s≤1)(b0:0≤s')(b1:s'≤1)(sp:Int)(hm1:(s+s').tmod 2=sp)(hm2:(s+s')%2=sp)(x0:-50000≤x)(x1:x≤50000)(y0:-50000≤x')(y1:x'≤50000)(P:Nat)(hP:(P:Int)=p+4)(w:World):
  CT 178 #[J Y f,V #[J Y c,J Y s,J Y x,J O ((A:Nat))],V #[J Y (c'),J Y (s'),J Y (x'),J O ((B:Nat))]] w fun e w'=>∃b k cc,aB 8 w' (U (some ⟨b,0,none⟩) k cc) (A*2^P/B)∧e=E (V #[J Y sp,U (some ⟨b,0,none⟩) k cc,J Y (x-x'-P),I (decide (A*2^P%B≠0))])∧Gb w w':=by
 have hpb:p≤53∧24≤p:=by rcases h with h|h<;>omega
 have aFq:P≤57:=om
 have HB:Hid (∀(H:Nat) w,H<18446744073709551616→CT 150 #[J O (H:Nat)] w fun e w'=>∃b k c,aB 2 w' (U (some ⟨b,0,none⟩) k c) H∧e=E (U (some ⟨b,0,none⟩) k c)∧Gb w w'):=fun H w hH=>b_ (dU H hH w)
 have HS:Hid (∀v w,aB 2 w v A→CT 180 #[v,J Y (P:Int)] w fun e w'=>∃b k c,aB 8 w' (U (some ⟨b,0,none⟩) k c) (A*2^P)∧e=E (U (some ⟨b,0,none⟩) k c)∧Gb w w'):=fun v w ⟨n,a1,a2⟩=>b_ ((eP a2 om P om).mono (fun e w' ⟨v,k,c1,c2,c3,c4⟩=>⟨v,k,c1,c2,om,c4⟩))
 have HD:Hid (∀v v' w,aB 8 w v (A*2^P)→aB 2 w v' B→CT 219 #[v,v'] w fun e w'=>∃b k c b' k' c',aB 8 w' (U (some ⟨b,0,none⟩) k c) (A*2^P/B)∧aB 3 w' (U (some ⟨b',0,none⟩) k' c') (A*2^P%B)∧e=E (.tuple #[U (some ⟨b,0,none⟩) k c,U (some ⟨b',0,none⟩) k' c'])∧Gb w w'):=fun v v' w h1 h2=>KO om om h1 h2 hB0
 have HP:KW 115 #[J Y f] (J Y p):=fun w=>lD h w
 have g1:p+4=(P:Int):=hP.symm
 obtain⟨z,hz⟩:∃z,x-x'-(P:Int)=z:=⟨_,rfl⟩
 rw[hz]
 clear hP h
 by_cases hr:A*2^P%B=0
 ·rw[show decide (A*2^P%B≠0)=false by simp[hr]]
  have HR:Hid _:=hr
  clear hr
  generalize A*2^P%B=R at*
  generalize A*2^P/B=Qn at*
  generalize A*2^P=X at*
  go_enter func178,ntmps178
  go_wp2_with (go_at_call 115;refine kw (HP.out _) ?_)
  go_region_held3 (fun w'=>w'.cell? ⟨w.heap.size,1,none⟩=some (J Y s)∧w'.cell? ⟨w.heap.size,2,none⟩=some (J Y x)∧w'.cell? ⟨w.heap.size,3,none⟩=some (J O (A:Nat))∧w'.cell? ⟨w.heap.size+1,1,none⟩=some (J Y s')∧w'.cell? ⟨w.heap.size+1,2,none⟩=some (J Y x')∧w'.cell? ⟨w.heap.size+1,3,none⟩=some (J O (B:Nat)))
   ((go_split_ands;(repeat' apply And.intro)<;>exact kh))
   (first
    |(go_at_call 150;refine(HB.out _ _ (by assumption)).mono ?_;rintro e w1 ⟨b,k,cc,hbig,rfl,aj⟩;obtain⟨bG,bK,cO,bJ,iW,d_,ar3,dZ⟩:=aj.y4 (w.heap.size+1+1) 0 1 2 3 (J Y 0) (U none 0 0) (J Y 0) (I false))
    |(go_at_call 180;refine(HS.out _ _ (aB.gb (by assumption) Gb.g)).mono ?_;rintro e w2 ⟨b2,k2,VJ,hbig2,rfl,ak⟩;obtain⟨iF,h_,jh,g_,lZ,jM,lY,jL⟩:=ak.y4 (w.heap.size+1+1) 0 1 2 3 (J Y 0) (U none 0 0) (J Y 0) (I false))
    |(go_at_call 219;refine(HD.out _ _ _ (aB.gb (by assumption) Gb.g) (aB.gb (by assumption) Gb.g)).mono ?_;rintro e w3 ⟨b3,k3,cc3,b4,k4,cc4,U6,U5,rfl,aA⟩;obtain⟨lV,kZ,nX,kY,qX,nK,cr3,nJ⟩:=aA.y4 (w.heap.size+1+1) 0 1 2 3 (J Y 0) (U none 0 0) (J Y 0) (I false);obtain⟨nO,tY⟩:=aA.e2 w.heap.size 1 2 (J Y s) (J Y x);obtain⟨CQ,cy2⟩:=aA.e2 (w.heap.size+1) 1 2 (J Y (s')) (J Y (x'));obtain rfl:k4=0:=(VQ U5 HR.out)))
  all_goals (try go_split_ands)
  all_goals go_wp2
  all_goals
   refine bodyPost_ret (v:=V #[J Y sp,U (some ⟨b3,0,none⟩) k3 cc3,J Y z,I false]) (by simp[results,Tryz.results178,go_sem,lV,nX,qX,cr3]) rfl ⟨b3,k3,cc3,?_,rfl,?_⟩
   ·exact U6.Rz lV nX qX cr3
   ·exact Gb.g
 ·rw[show decide (A*2^P%B≠0)=true by simp[hr]]
  have HR:Hid (A*2^P%B≠0):=hr
  clear hr
  generalize A*2^P%B=R at*
  generalize A*2^P/B=Qn at*
  generalize A*2^P=X at*
  go_enter func178,ntmps178
  go_wp2_with (go_at_call 115;refine kw (HP.out _) ?_)
  go_region_held3 (fun w'=>w'.cell? ⟨w.heap.size,1,none⟩=some (J Y s)∧w'.cell? ⟨w.heap.size,2,none⟩=some (J Y x)∧w'.cell? ⟨w.heap.size,3,none⟩=some (J O (A:Nat))∧w'.cell? ⟨w.heap.size+1,1,none⟩=some (J Y s')∧w'.cell? ⟨w.heap.size+1,2,none⟩=some (J Y x')∧w'.cell? ⟨w.heap.size+1,3,none⟩=some (J O (B:Nat)))
   ((go_split_ands;(repeat' apply And.intro)<;>exact kh))
   (first
    |(go_at_call 150;refine(HB.out _ _ (by assumption)).mono ?_;rintro e w1 ⟨b,k,cc,hbig,rfl,aj⟩;obtain⟨bG,bK,cO,bJ,iW,d_,ar3,dZ⟩:=aj.y4 (w.heap.size+1+1) 0 1 2 3 (J Y 0) (U none 0 0) (J Y 0) (I false))
    |(go_at_call 180;refine(HS.out _ _ (aB.gb (by assumption) Gb.g)).mono ?_;rintro e w2 ⟨b2,k2,VJ,hbig2,rfl,ak⟩;obtain⟨iF,h_,jh,g_,lZ,jM,lY,jL⟩:=ak.y4 (w.heap.size+1+1) 0 1 2 3 (J Y 0) (U none 0 0) (J Y 0) (I false))
    |(go_at_call 219;refine(HD.out _ _ _ (aB.gb (by assumption) Gb.g) (aB.gb (by assumption) Gb.g)).mono ?_;rintro e w3 ⟨b3,k3,cc3,b4,k4,cc4,U6,U5,rfl,aA⟩;obtain⟨lV,kZ,nX,kY,qX,nK,cr3,nJ⟩:=aA.y4 (w.heap.size+1+1) 0 1 2 3 (J Y 0) (U none 0 0) (J Y 0) (I false);obtain⟨nO,tY⟩:=aA.e2 w.heap.size 1 2 (J Y s) (J Y x);obtain⟨CQ,cy2⟩:=aA.e2 (w.heap.size+1) 1 2 (J Y (s')) (J Y (x'));have hkn:0<k4:=VP U5 HR.out;have hkp:(0:Int)<(k4:Int):=om))
  all_goals (try go_split_ands)
  all_goals go_wp2
  all_goals
   refine bodyPost_ret (v:=V #[J Y sp,U (some ⟨b3,0,none⟩) k3 cc3,J Y z,I true]) (by simp[results,Tryz.results178,go_sem,lV,nX,qX,cr3,hkn]) rfl ⟨b3,k3,cc3,?_,rfl,?_⟩
   ·exact U6.Rz lV nX qX cr3
   ·exact Gb.g
theorem Xu(f mode a b ca sa xa ga cb sb xb gb:Int)(HF:KW 117 #[J Y f,J Y mode,J O a,J O b] (I true))(fB:KR 31 #[J Y f,J O a] (V #[J Y ca,J Y sa,J Y xa,J O ga]))(iq:KR 31 #[J Y f,J O b] (V #[J Y cb,J Y sb,J Y xb,J O gb]))(jU:KR 118 #[V #[J Y ca,J Y sa,J Y xa,J O ga]] (I false))(oq:KR 118 #[V #[J Y cb,J Y sb,J Y xb,J O gb]] (I false))(e1:ca=1)(e2:cb=1)(sp:Int)(a0:0≤sa)(a1:sa≤1)(b0:0≤sb)(b1:sb≤1)(hm1:(sa+sb).tmod 2=sp)(hm2:(sa+sb)%2=sp)(xq:Int)(rest:Bool)(m:Nat)(HM:Hid (∀w,CT 178 #[J Y f,V #[J Y 1,J Y sa,J Y xa,J O ga],V #[J Y 1,J Y sb,J Y xb,J O gb]] w fun e w'=>∃bq kq qq,aB 8 w' (U (some ⟨bq,0,none⟩) kq qq) m∧e=E (V #[J Y sp,U (some ⟨bq,0,none⟩) kq qq,J Y xq,I rest])∧Gb w w'))(Q:Int→Int→Prop)(HR:Hid (∀v w,aB 8 w v m→CT 65 #[J Y f,J Y mode,V #[J Y sp,v,J Y xq,I rest]] w fun e w'=>∃z fl,Q z fl∧e=E (V #[J O z,J Y fl])∧Gb w w'))(w:World):
  CT 91 #[J Y f,J Y mode,J O a,J O b] w fun e w'=>∃z fl,Q z fl∧e=E (V #[J O z,J Y fl])∧Gb w w':=by
 subst e1 e2
 go_enter func91,ntmps91
 go_wp2_with (first
  |(go_at_call 117;refine kw (HF.out _) ?_)
  |(go_at_call 31;first|(with_reducible refine(fB.out _).mono ?_;rintro e w1 ⟨rfl,aj⟩;obtain⟨dK,fZ,jY,fV⟩:=aj.y2 w.heap.size 0 1 (J O 0) (J Y 0);have hz0:=au dK)|(with_reducible refine(iq.out _).mono ?_;rintro e w2 ⟨rfl,ak⟩;obtain⟨fC,iQ,mG,iO⟩:=ak.y2 w.heap.size 0 1 (J O 0) (J Y 0);have bU:=ak.e1 w1.heap.size 0 (J Y 1);have fG:=aK bU;have bT:=ak.e1 w1.heap.size 1 (J Y sa);have fF:=aK bT;have bQ:=ak.e1 w1.heap.size 2 (J Y xa);have fE:=aK bQ;have bP:=ak.e1 w1.heap.size 3 (J O ga);have fD:=aK bP;have hz1:=au fC))
  |(go_at_call 118;first|(with_reducible refine(jU.out _).mono ?_;rintro e va ⟨rfl,aC⟩;obtain⟨kC,gu,ku,f_⟩:=aC.y2 w.heap.size 0 1 (J O 0) (J Y 0);obtain⟨gJ,gI,gG,gB⟩:=aC.e4 w1.heap.size 0 1 2 3 (J Y 1) (J Y sa) (J Y xa) (J O ga);obtain⟨iV,iU,iT,iR⟩:=aC.e4 w2.heap.size 0 1 2 3 (J Y 1) (J Y sb) (J Y xb) (J O gb))|(with_reducible refine(oq.out _).mono ?_;rintro e vb ⟨rfl,aN⟩;obtain⟨nR,jv,nP,jo⟩:=aN.y2 w.heap.size 0 1 (J O 0) (J Y 0);obtain⟨jF,jE,jD,jC⟩:=aN.e4 w1.heap.size 0 1 2 3 (J Y 1) (J Y sa) (J Y xa) (J O ga);obtain⟨jB,jA,jy,jw⟩:=aN.e4 w2.heap.size 0 1 2 3 (J Y 1) (J Y sb) (J Y xb) (J O gb)))
  |(go_at_call 178;refine(HM.out _).mono ?_;rintro e wm ⟨bq,kq,qq,hbq,rfl,jI⟩;obtain⟨zK,qP,DL,qO⟩:=jI.y2 w.heap.size 0 1 (J O 0) (J Y 0))
  |(go_at_call 65;refine(HR.out _ _ hbq).mono ?_;rintro e w9 ⟨z,fl,hq,rfl,aP⟩;obtain⟨fP,fU,fO,fQ⟩:=aP.y2 w.heap.size 0 1 (J O 0) (J Y 0)))
 refine bodyPost_ret (v:=V #[J O z,J Y fl]) (by simp[results,Tryz.results91,go_sem,fP,fO]) rfl ⟨z,fl,hq,rfl,?_⟩
 exact Gb.g
theorem Y8{P:Prop}(h:P:=by
 go_enter func91,ntmps91
 go_wp2_with (first
  |(go_at_call 117;refine kw (HF.out _) ?_)
  |(go_at_call 31;first|(with_reducible refine(fB.out _).mono ?_;rintro e w1 ⟨rfl,aj⟩;obtain⟨dK,fZ,jY,fV⟩:=aj.y2 w.heap.size 0 1 (J O 0) (J Y 0);have hz0:=au dK)|(with_reducible refine(iq.out _).mono ?_;rintro e w2 ⟨rfl,ak⟩;obtain⟨fC,iQ,mG,iO⟩:=ak.y2 w.heap.size 0 1 (J O 0) (J Y 0);have bU:=ak.e1 w1.heap.size 0 (J Y ca);have fG:=aK bU;have bT:=ak.e1 w1.heap.size 1 (J Y sa);have fF:=aK bT;have bQ:=ak.e1 w1.heap.size 2 (J Y xa);have fE:=aK bQ;have bP:=ak.e1 w1.heap.size 3 (J O ga);have fD:=aK bP;have hz1:=au fC))
  |(go_at_call 118;first|(with_reducible refine(jU.out _).mono ?_;rintro e va ⟨rfl,aC⟩;obtain⟨kC,gu,ku,f_⟩:=aC.y2 w.heap.size 0 1 (J O 0) (J Y 0);obtain⟨gJ,gI,gG,gB⟩:=aC.e4 w1.heap.size 0 1 2 3 (J Y ca) (J Y sa) (J Y xa) (J O ga);obtain⟨iV,iU,iT,iR⟩:=aC.e4 w2.heap.size 0 1 2 3 (J Y cb) (J Y sb) (J Y xb) (J O gb))|(with_reducible refine(oq.out _).mono ?_;rintro e vb ⟨rfl,aN⟩;obtain⟨nR,jv,nP,jo⟩:=aN.y2 w.heap.size 0 1 (J O 0) (J Y 0);obtain⟨jF,jE,jD,jC⟩:=aN.e4 w1.heap.size 0 1 2 3 (J Y ca) (J Y sa) (J Y xa) (J O ga);obtain⟨jB,jA,jy,jw⟩:=aN.e4 w2.heap.size 0 1 2 3 (J Y cb) (J Y sb) (J Y xb) (J O gb)))
  |(go_at_call 119;refine(HL.out _).mono ?_;rintro e w9 ⟨rfl,aP⟩;obtain⟨fP,fU,fO,fQ⟩:=aP.y2 w.heap.size 0 1 (J O 0) (J Y 0)))
 refine bodyPost_ret (v:=V #[J O z,J Y fl]) (by simp[results,Tryz.results91,go_sem,fP,fO]) rfl ⟨rfl,?_⟩
 exact Gb.g):P:=h
theorem SL{P:Prop}(h:P:=by
 go_enter func91,ntmps91
 go_wp2_with (first
  |(go_at_call 117;refine kw (HF.out _) ?_)
  |(go_at_call 31;first|(with_reducible refine(fB.out _).mono ?_;rintro e w1 ⟨rfl,aj⟩;obtain⟨dK,fZ,jY,fV⟩:=aj.y2 w.heap.size 0 1 (J O 0) (J Y 0);have hz0:=au dK)|(with_reducible refine(iq.out _).mono ?_;rintro e w2 ⟨rfl,ak⟩;obtain⟨fC,iQ,mG,iO⟩:=ak.y2 w.heap.size 0 1 (J O 0) (J Y 0);have bU:=ak.e1 w1.heap.size 0 (J Y ca);have fG:=aK bU;have bT:=ak.e1 w1.heap.size 1 (J Y sa);have fF:=aK bT;have bQ:=ak.e1 w1.heap.size 2 (J Y xa);have fE:=aK bQ;have bP:=ak.e1 w1.heap.size 3 (J O ga);have fD:=aK bP;have hz1:=au fC))
  |(go_at_call 118;first|(with_reducible refine(jU.out _).mono ?_;rintro e va ⟨rfl,aC⟩;obtain⟨kC,gu,ku,f_⟩:=aC.y2 w.heap.size 0 1 (J O 0) (J Y 0);obtain⟨gJ,gI,gG,gB⟩:=aC.e4 w1.heap.size 0 1 2 3 (J Y ca) (J Y sa) (J Y xa) (J O ga);obtain⟨iV,iU,iT,iR⟩:=aC.e4 w2.heap.size 0 1 2 3 (J Y cb) (J Y sb) (J Y xb) (J O gb)))
  |(go_at_call 119;refine(HL.out _).mono ?_;rintro e w9 ⟨rfl,aP⟩;obtain⟨fP,fU,fO,fQ⟩:=aP.y2 w.heap.size 0 1 (J O 0) (J Y 0)))
 refine bodyPost_ret (v:=V #[J O z,J Y fl]) (by simp[results,Tryz.results91,go_sem,fP,fO]) rfl ⟨rfl,?_⟩
 exact Gb.g):P:=h
theorem zi(f mode a b:Int)(HF:KW 117 #[J Y f,J Y mode,J O a,J O b] (I false))(z fl:Int)(HL:KR 63 #[J Y f] (V #[J O z,J Y fl]))(w:World):
  QB 91 #[J Y f,J Y mode,J O a,J O b] w (V #[J O z,J Y fl]):=by
 go_enter func91,ntmps91
 go_wp2_with (first
  |(go_at_call 117;refine kw (HF.out _) ?_)
  |(go_at_call 63;refine(HL.out _).mono ?_;rintro e w9 ⟨rfl,aP⟩;obtain⟨fP,fU,fO,fQ⟩:=aP.y2 w.heap.size 0 1 (J O 0) (J Y 0)))
 refine bodyPost_ret (v:=V #[J O z,J Y fl]) (by simp[results,Tryz.results91,go_sem,fP,fO]) rfl ⟨rfl,?_⟩
 exact Gb.g
theorem O8(f mode a b ca sa xa ga cb sb xb gb:Int)(HF:KW 117 #[J Y f,J Y mode,J O a,J O b] (I true))(fB:KR 31 #[J Y f,J O a] (V #[J Y ca,J Y sa,J Y xa,J O ga]))(iq:KR 31 #[J Y f,J O b] (V #[J Y cb,J Y sb,J Y xb,J O gb]))(jU:KR 118 #[V #[J Y ca,J Y sa,J Y xa,J O ga]] (I true))(e4:(ca==4)=true)(z fl:Int)(HL:KR 119 #[J Y f,I true] (V #[J O z,J Y fl]))(w:World):
  QB 91 #[J Y f,J Y mode,J O a,J O b] w (V #[J O z,J Y fl]):=by
 exact SL
theorem O7(f mode a b ca sa xa ga cb sb xb gb:Int)(HF:KW 117 #[J Y f,J Y mode,J O a,J O b] (I true))(fB:KR 31 #[J Y f,J O a] (V #[J Y ca,J Y sa,J Y xa,J O ga]))(iq:KR 31 #[J Y f,J O b] (V #[J Y cb,J Y sb,J Y xb,J O gb]))(jU:KR 118 #[V #[J Y ca,J Y sa,J Y xa,J O ga]] (I true))(e4:(ca==4)=false)(t:Bool)(e5:(cb==4)=t)(z fl:Int)(HL:KR 119 #[J Y f,I t] (V #[J O z,J Y fl]))(w:World):
  QB 91 #[J Y f,J Y mode,J O a,J O b] w (V #[J O z,J Y fl]):=by
 cases t
 ·exact SL
 ·exact SL
theorem O6(f mode a b ca sa xa ga cb sb xb gb:Int)(HF:KW 117 #[J Y f,J Y mode,J O a,J O b] (I true))(fB:KR 31 #[J Y f,J O a] (V #[J Y ca,J Y sa,J Y xa,J O ga]))(iq:KR 31 #[J Y f,J O b] (V #[J Y cb,J Y sb,J Y xb,J O gb]))(jU:KR 118 #[V #[J Y ca,J Y sa,J Y xa,J O ga]] (I false))(oq:KR 118 #[V #[J Y cb,J Y sb,J Y xb,J O gb]] (I true))(e4:(ca==4)=false)(t:Bool)(e5:(cb==4)=t)(z fl:Int)(HL:KR 119 #[J Y f,I t] (V #[J O z,J Y fl]))(w:World):
  QB 91 #[J Y f,J Y mode,J O a,J O b] w (V #[J O z,J Y fl]):=by
 cases t
 ·exact Y8
 ·exact Y8
theorem Xy(f mode a b ca sa xa ga cb sb xb gb:Int)(HF:KW 117 #[J Y f,J Y mode,J O a,J O b] (I true))(fB:KR 31 #[J Y f,J O a] (V #[J Y ca,J Y sa,J Y xa,J O ga]))(iq:KR 31 #[J Y f,J O b] (V #[J Y cb,J Y sb,J Y xb,J O gb]))(jU:KR 118 #[V #[J Y ca,J Y sa,J Y xa,J O ga]] (I false))(oq:KR 118 #[V #[J Y cb,J Y sb,J Y xb,J O gb]] (I false))(e1:ca=0)(e2:cb=0)(z fl:Int)(HL:KR 63 #[J Y f] (V #[J O z,J Y fl]))(w:World):
  QB 91 #[J Y f,J Y mode,J O a,J O b] w (V #[J O z,J Y fl]):=by
 subst e1 e2
 go_enter func91,ntmps91
 go_wp2_with (first
  |(go_at_call 117;refine kw (HF.out _) ?_)
  |(go_at_call 31;first|(with_reducible refine(fB.out _).mono ?_;rintro e w1 ⟨rfl,aj⟩;obtain⟨dK,fZ,jY,fV⟩:=aj.y2 w.heap.size 0 1 (J O 0) (J Y 0);have hz0:=au dK)|(with_reducible refine(iq.out _).mono ?_;rintro e w2 ⟨rfl,ak⟩;obtain⟨fC,iQ,mG,iO⟩:=ak.y2 w.heap.size 0 1 (J O 0) (J Y 0);have bU:=ak.e1 w1.heap.size 0 (J Y 0);have fG:=aK bU;have bT:=ak.e1 w1.heap.size 1 (J Y sa);have fF:=aK bT;have bQ:=ak.e1 w1.heap.size 2 (J Y xa);have fE:=aK bQ;have bP:=ak.e1 w1.heap.size 3 (J O ga);have fD:=aK bP;have hz1:=au fC))
  |(go_at_call 118;first|(with_reducible refine(jU.out _).mono ?_;rintro e va ⟨rfl,aC⟩;obtain⟨kC,gu,ku,f_⟩:=aC.y2 w.heap.size 0 1 (J O 0) (J Y 0);obtain⟨gJ,gI,gG,gB⟩:=aC.e4 w1.heap.size 0 1 2 3 (J Y 0) (J Y sa) (J Y xa) (J O ga);obtain⟨iV,iU,iT,iR⟩:=aC.e4 w2.heap.size 0 1 2 3 (J Y 0) (J Y sb) (J Y xb) (J O gb))|(with_reducible refine(oq.out _).mono ?_;rintro e vb ⟨rfl,aN⟩;obtain⟨nR,jv,nP,jo⟩:=aN.y2 w.heap.size 0 1 (J O 0) (J Y 0);obtain⟨jF,jE,jD,jC⟩:=aN.e4 w1.heap.size 0 1 2 3 (J Y 0) (J Y sa) (J Y xa) (J O ga);obtain⟨jB,jA,jy,jw⟩:=aN.e4 w2.heap.size 0 1 2 3 (J Y 0) (J Y sb) (J Y xb) (J O gb)))
  |(go_at_call 63;refine(HL.out _).mono ?_;rintro e w9 ⟨rfl,aP⟩;obtain⟨fP,fU,fO,fQ⟩:=aP.y2 w.heap.size 0 1 (J O 0) (J Y 0)))
 refine bodyPost_ret (v:=V #[J O z,J Y fl]) (by simp[results,Tryz.results91,go_sem,fP,fO]) rfl ⟨rfl,?_⟩
 exact Gb.g
theorem Xp(f mode a b ca sa xa ga cb sb xb gb:Int)(HF:KW 117 #[J Y f,J Y mode,J O a,J O b] (I true))(fB:KR 31 #[J Y f,J O a] (V #[J Y ca,J Y sa,J Y xa,J O ga]))(iq:KR 31 #[J Y f,J O b] (V #[J Y cb,J Y sb,J Y xb,J O gb]))(jU:KR 118 #[V #[J Y ca,J Y sa,J Y xa,J O ga]] (I false))(oq:KR 118 #[V #[J Y cb,J Y sb,J Y xb,J O gb]] (I false))(e1:ca=2)(e2:cb=2)(z fl:Int)(HL:KR 63 #[J Y f] (V #[J O z,J Y fl]))(w:World):
  QB 91 #[J Y f,J Y mode,J O a,J O b] w (V #[J O z,J Y fl]):=by
 subst e1 e2
 go_enter func91,ntmps91
 go_wp2_with (first
  |(go_at_call 117;refine kw (HF.out _) ?_)
  |(go_at_call 31;first|(with_reducible refine(fB.out _).mono ?_;rintro e w1 ⟨rfl,aj⟩;obtain⟨dK,fZ,jY,fV⟩:=aj.y2 w.heap.size 0 1 (J O 0) (J Y 0);have hz0:=au dK)|(with_reducible refine(iq.out _).mono ?_;rintro e w2 ⟨rfl,ak⟩;obtain⟨fC,iQ,mG,iO⟩:=ak.y2 w.heap.size 0 1 (J O 0) (J Y 0);have bU:=ak.e1 w1.heap.size 0 (J Y 2);have fG:=aK bU;have bT:=ak.e1 w1.heap.size 1 (J Y sa);have fF:=aK bT;have bQ:=ak.e1 w1.heap.size 2 (J Y xa);have fE:=aK bQ;have bP:=ak.e1 w1.heap.size 3 (J O ga);have fD:=aK bP;have hz1:=au fC))
  |(go_at_call 118;first|(with_reducible refine(jU.out _).mono ?_;rintro e va ⟨rfl,aC⟩;obtain⟨kC,gu,ku,f_⟩:=aC.y2 w.heap.size 0 1 (J O 0) (J Y 0);obtain⟨gJ,gI,gG,gB⟩:=aC.e4 w1.heap.size 0 1 2 3 (J Y 2) (J Y sa) (J Y xa) (J O ga);obtain⟨iV,iU,iT,iR⟩:=aC.e4 w2.heap.size 0 1 2 3 (J Y 2) (J Y sb) (J Y xb) (J O gb))|(with_reducible refine(oq.out _).mono ?_;rintro e vb ⟨rfl,aN⟩;obtain⟨nR,jv,nP,jo⟩:=aN.y2 w.heap.size 0 1 (J O 0) (J Y 0);obtain⟨jF,jE,jD,jC⟩:=aN.e4 w1.heap.size 0 1 2 3 (J Y 2) (J Y sa) (J Y xa) (J O ga);obtain⟨jB,jA,jy,jw⟩:=aN.e4 w2.heap.size 0 1 2 3 (J Y 2) (J Y sb) (J Y xb) (J O gb)))
  |(go_at_call 63;refine(HL.out _).mono ?_;rintro e w9 ⟨rfl,aP⟩;obtain⟨fP,fU,fO,fQ⟩:=aP.y2 w.heap.size 0 1 (J O 0) (J Y 0)))
 refine bodyPost_ret (v:=V #[J O z,J Y fl]) (by simp[results,Tryz.results91,go_sem,fP,fO]) rfl ⟨rfl,?_⟩
 exact Gb.g
theorem Xr(f mode a b ca sa xa ga cb sb xb gb:Int)(HF:KW 117 #[J Y f,J Y mode,J O a,J O b] (I true))(fB:KR 31 #[J Y f,J O a] (V #[J Y ca,J Y sa,J Y xa,J O ga]))(iq:KR 31 #[J Y f,J O b] (V #[J Y cb,J Y sb,J Y xb,J O gb]))(jU:KR 118 #[V #[J Y ca,J Y sa,J Y xa,J O ga]] (I false))(oq:KR 118 #[V #[J Y cb,J Y sb,J Y xb,J O gb]] (I false))(e1:ca=2)(e2:cb=0)(sp:Int)(a0:0≤sa)(a1:sa≤1)(b0:0≤sb)(b1:sb≤1)(hm1:(sa+sb).tmod 2=sp)(hm2:(sa+sb)%2=sp)(z fl:Int)(HL:KR 167 #[J Y f,J Y sp] (V #[J O z,J Y fl]))(w:World):
  QB 91 #[J Y f,J Y mode,J O a,J O b] w (V #[J O z,J Y fl]):=by
 subst e1 e2
 go_enter func91,ntmps91
 go_wp2_with (first
  |(go_at_call 117;refine kw (HF.out _) ?_)
  |(go_at_call 31;first|(with_reducible refine(fB.out _).mono ?_;rintro e w1 ⟨rfl,aj⟩;obtain⟨dK,fZ,jY,fV⟩:=aj.y2 w.heap.size 0 1 (J O 0) (J Y 0);have hz0:=au dK)|(with_reducible refine(iq.out _).mono ?_;rintro e w2 ⟨rfl,ak⟩;obtain⟨fC,iQ,mG,iO⟩:=ak.y2 w.heap.size 0 1 (J O 0) (J Y 0);have bU:=ak.e1 w1.heap.size 0 (J Y 2);have fG:=aK bU;have bT:=ak.e1 w1.heap.size 1 (J Y sa);have fF:=aK bT;have bQ:=ak.e1 w1.heap.size 2 (J Y xa);have fE:=aK bQ;have bP:=ak.e1 w1.heap.size 3 (J O ga);have fD:=aK bP;have hz1:=au fC))
  |(go_at_call 118;first|(with_reducible refine(jU.out _).mono ?_;rintro e va ⟨rfl,aC⟩;obtain⟨kC,gu,ku,f_⟩:=aC.y2 w.heap.size 0 1 (J O 0) (J Y 0);obtain⟨gJ,gI,gG,gB⟩:=aC.e4 w1.heap.size 0 1 2 3 (J Y 2) (J Y sa) (J Y xa) (J O ga);obtain⟨iV,iU,iT,iR⟩:=aC.e4 w2.heap.size 0 1 2 3 (J Y 0) (J Y sb) (J Y xb) (J O gb))|(with_reducible refine(oq.out _).mono ?_;rintro e vb ⟨rfl,aN⟩;obtain⟨nR,jv,nP,jo⟩:=aN.y2 w.heap.size 0 1 (J O 0) (J Y 0);obtain⟨jF,jE,jD,jC⟩:=aN.e4 w1.heap.size 0 1 2 3 (J Y 2) (J Y sa) (J Y xa) (J O ga);obtain⟨jB,jA,jy,jw⟩:=aN.e4 w2.heap.size 0 1 2 3 (J Y 0) (J Y sb) (J Y xb) (J O gb)))
  |(go_at_call 167;refine(HL.out _).mono ?_;rintro e w9 ⟨rfl,aP⟩;obtain⟨fP,fU,fO,fQ⟩:=aP.y2 w.heap.size 0 1 (J O 0) (J Y 0)))
 refine bodyPost_ret (v:=V #[J O z,J Y fl]) (by simp[results,Tryz.results91,go_sem,fP,fO]) rfl ⟨rfl,?_⟩
 exact Gb.g
theorem Xq(f mode a b ca sa xa ga cb sb xb gb:Int)(HF:KW 117 #[J Y f,J Y mode,J O a,J O b] (I true))(fB:KR 31 #[J Y f,J O a] (V #[J Y ca,J Y sa,J Y xa,J O ga]))(iq:KR 31 #[J Y f,J O b] (V #[J Y cb,J Y sb,J Y xb,J O gb]))(jU:KR 118 #[V #[J Y ca,J Y sa,J Y xa,J O ga]] (I false))(oq:KR 118 #[V #[J Y cb,J Y sb,J Y xb,J O gb]] (I false))(e1:ca=2)(e2:cb=1)(sp:Int)(a0:0≤sa)(a1:sa≤1)(b0:0≤sb)(b1:sb≤1)(hm1:(sa+sb).tmod 2=sp)(hm2:(sa+sb)%2=sp)(z fl:Int)(HL:KR 167 #[J Y f,J Y sp] (V #[J O z,J Y fl]))(w:World):
  QB 91 #[J Y f,J Y mode,J O a,J O b] w (V #[J O z,J Y fl]):=by
 subst e1 e2
 go_enter func91,ntmps91
 go_wp2_with (first
  |(go_at_call 117;refine kw (HF.out _) ?_)
  |(go_at_call 31;first|(with_reducible refine(fB.out _).mono ?_;rintro e w1 ⟨rfl,aj⟩;obtain⟨dK,fZ,jY,fV⟩:=aj.y2 w.heap.size 0 1 (J O 0) (J Y 0);have hz0:=au dK)|(with_reducible refine(iq.out _).mono ?_;rintro e w2 ⟨rfl,ak⟩;obtain⟨fC,iQ,mG,iO⟩:=ak.y2 w.heap.size 0 1 (J O 0) (J Y 0);have bU:=ak.e1 w1.heap.size 0 (J Y 2);have fG:=aK bU;have bT:=ak.e1 w1.heap.size 1 (J Y sa);have fF:=aK bT;have bQ:=ak.e1 w1.heap.size 2 (J Y xa);have fE:=aK bQ;have bP:=ak.e1 w1.heap.size 3 (J O ga);have fD:=aK bP;have hz1:=au fC))
  |(go_at_call 118;first|(with_reducible refine(jU.out _).mono ?_;rintro e va ⟨rfl,aC⟩;obtain⟨kC,gu,ku,f_⟩:=aC.y2 w.heap.size 0 1 (J O 0) (J Y 0);obtain⟨gJ,gI,gG,gB⟩:=aC.e4 w1.heap.size 0 1 2 3 (J Y 2) (J Y sa) (J Y xa) (J O ga);obtain⟨iV,iU,iT,iR⟩:=aC.e4 w2.heap.size 0 1 2 3 (J Y 1) (J Y sb) (J Y xb) (J O gb))|(with_reducible refine(oq.out _).mono ?_;rintro e vb ⟨rfl,aN⟩;obtain⟨nR,jv,nP,jo⟩:=aN.y2 w.heap.size 0 1 (J O 0) (J Y 0);obtain⟨jF,jE,jD,jC⟩:=aN.e4 w1.heap.size 0 1 2 3 (J Y 2) (J Y sa) (J Y xa) (J O ga);obtain⟨jB,jA,jy,jw⟩:=aN.e4 w2.heap.size 0 1 2 3 (J Y 1) (J Y sb) (J Y xb) (J O gb)))
  |(go_at_call 167;refine(HL.out _).mono ?_;rintro e w9 ⟨rfl,aP⟩;obtain⟨fP,fU,fO,fQ⟩:=aP.y2 w.heap.size 0 1 (J O 0) (J Y 0)))
 refine bodyPost_ret (v:=V #[J O z,J Y fl]) (by simp[results,Tryz.results91,go_sem,fP,fO]) rfl ⟨rfl,?_⟩
 exact Gb.g
theorem Xx(f mode a b ca sa xa ga cb sb xb gb:Int)(HF:KW 117 #[J Y f,J Y mode,J O a,J O b] (I true))(fB:KR 31 #[J Y f,J O a] (V #[J Y ca,J Y sa,J Y xa,J O ga]))(iq:KR 31 #[J Y f,J O b] (V #[J Y cb,J Y sb,J Y xb,J O gb]))(jU:KR 118 #[V #[J Y ca,J Y sa,J Y xa,J O ga]] (I false))(oq:KR 118 #[V #[J Y cb,J Y sb,J Y xb,J O gb]] (I false))(e1:ca=0)(e2:cb=1)(sp:Int)(a0:0≤sa)(a1:sa≤1)(b0:0≤sb)(b1:sb≤1)(hm1:(sa+sb).tmod 2=sp)(hm2:(sa+sb)%2=sp)(z fl:Int)(HL:KR 64 #[J Y f,J Y sp] (V #[J O z,J Y fl]))(w:World):
  QB 91 #[J Y f,J Y mode,J O a,J O b] w (V #[J O z,J Y fl]):=by
 subst e1 e2
 go_enter func91,ntmps91
 go_wp2_with (first
  |(go_at_call 117;refine kw (HF.out _) ?_)
  |(go_at_call 31;first|(with_reducible refine(fB.out _).mono ?_;rintro e w1 ⟨rfl,aj⟩;obtain⟨dK,fZ,jY,fV⟩:=aj.y2 w.heap.size 0 1 (J O 0) (J Y 0);have hz0:=au dK)|(with_reducible refine(iq.out _).mono ?_;rintro e w2 ⟨rfl,ak⟩;obtain⟨fC,iQ,mG,iO⟩:=ak.y2 w.heap.size 0 1 (J O 0) (J Y 0);have bU:=ak.e1 w1.heap.size 0 (J Y 0);have fG:=aK bU;have bT:=ak.e1 w1.heap.size 1 (J Y sa);have fF:=aK bT;have bQ:=ak.e1 w1.heap.size 2 (J Y xa);have fE:=aK bQ;have bP:=ak.e1 w1.heap.size 3 (J O ga);have fD:=aK bP;have hz1:=au fC))
  |(go_at_call 118;first|(with_reducible refine(jU.out _).mono ?_;rintro e va ⟨rfl,aC⟩;obtain⟨kC,gu,ku,f_⟩:=aC.y2 w.heap.size 0 1 (J O 0) (J Y 0);obtain⟨gJ,gI,gG,gB⟩:=aC.e4 w1.heap.size 0 1 2 3 (J Y 0) (J Y sa) (J Y xa) (J O ga);obtain⟨iV,iU,iT,iR⟩:=aC.e4 w2.heap.size 0 1 2 3 (J Y 1) (J Y sb) (J Y xb) (J O gb))|(with_reducible refine(oq.out _).mono ?_;rintro e vb ⟨rfl,aN⟩;obtain⟨nR,jv,nP,jo⟩:=aN.y2 w.heap.size 0 1 (J O 0) (J Y 0);obtain⟨jF,jE,jD,jC⟩:=aN.e4 w1.heap.size 0 1 2 3 (J Y 0) (J Y sa) (J Y xa) (J O ga);obtain⟨jB,jA,jy,jw⟩:=aN.e4 w2.heap.size 0 1 2 3 (J Y 1) (J Y sb) (J Y xb) (J O gb)))
  |(go_at_call 64;refine(HL.out _).mono ?_;rintro e w9 ⟨rfl,aP⟩;obtain⟨fP,fU,fO,fQ⟩:=aP.y2 w.heap.size 0 1 (J O 0) (J Y 0)))
 refine bodyPost_ret (v:=V #[J O z,J Y fl]) (by simp[results,Tryz.results91,go_sem,fP,fO]) rfl ⟨rfl,?_⟩
 exact Gb.g
theorem Xw(f mode a b ca sa xa ga cb sb xb gb:Int)(HF:KW 117 #[J Y f,J Y mode,J O a,J O b] (I true))(fB:KR 31 #[J Y f,J O a] (V #[J Y ca,J Y sa,J Y xa,J O ga]))(iq:KR 31 #[J Y f,J O b] (V #[J Y cb,J Y sb,J Y xb,J O gb]))(jU:KR 118 #[V #[J Y ca,J Y sa,J Y xa,J O ga]] (I false))(oq:KR 118 #[V #[J Y cb,J Y sb,J Y xb,J O gb]] (I false))(e1:ca=0)(e2:cb=2)(sp:Int)(a0:0≤sa)(a1:sa≤1)(b0:0≤sb)(b1:sb≤1)(hm1:(sa+sb).tmod 2=sp)(hm2:(sa+sb)%2=sp)(z fl:Int)(HL:KR 64 #[J Y f,J Y sp] (V #[J O z,J Y fl]))(w:World):
  QB 91 #[J Y f,J Y mode,J O a,J O b] w (V #[J O z,J Y fl]):=by
 subst e1 e2
 go_enter func91,ntmps91
 go_wp2_with (first
  |(go_at_call 117;refine kw (HF.out _) ?_)
  |(go_at_call 31;first|(with_reducible refine(fB.out _).mono ?_;rintro e w1 ⟨rfl,aj⟩;obtain⟨dK,fZ,jY,fV⟩:=aj.y2 w.heap.size 0 1 (J O 0) (J Y 0);have hz0:=au dK)|(with_reducible refine(iq.out _).mono ?_;rintro e w2 ⟨rfl,ak⟩;obtain⟨fC,iQ,mG,iO⟩:=ak.y2 w.heap.size 0 1 (J O 0) (J Y 0);have bU:=ak.e1 w1.heap.size 0 (J Y 0);have fG:=aK bU;have bT:=ak.e1 w1.heap.size 1 (J Y sa);have fF:=aK bT;have bQ:=ak.e1 w1.heap.size 2 (J Y xa);have fE:=aK bQ;have bP:=ak.e1 w1.heap.size 3 (J O ga);have fD:=aK bP;have hz1:=au fC))
  |(go_at_call 118;first|(with_reducible refine(jU.out _).mono ?_;rintro e va ⟨rfl,aC⟩;obtain⟨kC,gu,ku,f_⟩:=aC.y2 w.heap.size 0 1 (J O 0) (J Y 0);obtain⟨gJ,gI,gG,gB⟩:=aC.e4 w1.heap.size 0 1 2 3 (J Y 0) (J Y sa) (J Y xa) (J O ga);obtain⟨iV,iU,iT,iR⟩:=aC.e4 w2.heap.size 0 1 2 3 (J Y 2) (J Y sb) (J Y xb) (J O gb))|(with_reducible refine(oq.out _).mono ?_;rintro e vb ⟨rfl,aN⟩;obtain⟨nR,jv,nP,jo⟩:=aN.y2 w.heap.size 0 1 (J O 0) (J Y 0);obtain⟨jF,jE,jD,jC⟩:=aN.e4 w1.heap.size 0 1 2 3 (J Y 0) (J Y sa) (J Y xa) (J O ga);obtain⟨jB,jA,jy,jw⟩:=aN.e4 w2.heap.size 0 1 2 3 (J Y 2) (J Y sb) (J Y xb) (J O gb)))
  |(go_at_call 64;refine(HL.out _).mono ?_;rintro e w9 ⟨rfl,aP⟩;obtain⟨fP,fU,fO,fQ⟩:=aP.y2 w.heap.size 0 1 (J O 0) (J Y 0)))
 refine bodyPost_ret (v:=V #[J O z,J Y fl]) (by simp[results,Tryz.results91,go_sem,fP,fO]) rfl ⟨rfl,?_⟩
 exact Gb.g
theorem Xt(f mode a b ca sa xa ga cb sb xb gb:Int)(HF:KW 117 #[J Y f,J Y mode,J O a,J O b] (I true))(fB:KR 31 #[J Y f,J O a] (V #[J Y ca,J Y sa,J Y xa,J O ga]))(iq:KR 31 #[J Y f,J O b] (V #[J Y cb,J Y sb,J Y xb,J O gb]))(jU:KR 118 #[V #[J Y ca,J Y sa,J Y xa,J O ga]] (I false))(oq:KR 118 #[V #[J Y cb,J Y sb,J Y xb,J O gb]] (I false))(e1:ca=1)(e2:cb=2)(sp:Int)(a0:0≤sa)(a1:sa≤1)(b0:0≤sb)(b1:sb≤1)(hm1:(sa+sb).tmod 2=sp)(hm2:(sa+sb)%2=sp)(z fl:Int)(HL:KR 64 #[J Y f,J Y sp] (V #[J O z,J Y fl]))(w:World):
  QB 91 #[J Y f,J Y mode,J O a,J O b] w (V #[J O z,J Y fl]):=by
 subst e1 e2
 go_enter func91,ntmps91
 go_wp2_with (first
  |(go_at_call 117;refine kw (HF.out _) ?_)
  |(go_at_call 31;first|(with_reducible refine(fB.out _).mono ?_;rintro e w1 ⟨rfl,aj⟩;obtain⟨dK,fZ,jY,fV⟩:=aj.y2 w.heap.size 0 1 (J O 0) (J Y 0);have hz0:=au dK)|(with_reducible refine(iq.out _).mono ?_;rintro e w2 ⟨rfl,ak⟩;obtain⟨fC,iQ,mG,iO⟩:=ak.y2 w.heap.size 0 1 (J O 0) (J Y 0);have bU:=ak.e1 w1.heap.size 0 (J Y 1);have fG:=aK bU;have bT:=ak.e1 w1.heap.size 1 (J Y sa);have fF:=aK bT;have bQ:=ak.e1 w1.heap.size 2 (J Y xa);have fE:=aK bQ;have bP:=ak.e1 w1.heap.size 3 (J O ga);have fD:=aK bP;have hz1:=au fC))
  |(go_at_call 118;first|(with_reducible refine(jU.out _).mono ?_;rintro e va ⟨rfl,aC⟩;obtain⟨kC,gu,ku,f_⟩:=aC.y2 w.heap.size 0 1 (J O 0) (J Y 0);obtain⟨gJ,gI,gG,gB⟩:=aC.e4 w1.heap.size 0 1 2 3 (J Y 1) (J Y sa) (J Y xa) (J O ga);obtain⟨iV,iU,iT,iR⟩:=aC.e4 w2.heap.size 0 1 2 3 (J Y 2) (J Y sb) (J Y xb) (J O gb))|(with_reducible refine(oq.out _).mono ?_;rintro e vb ⟨rfl,aN⟩;obtain⟨nR,jv,nP,jo⟩:=aN.y2 w.heap.size 0 1 (J O 0) (J Y 0);obtain⟨jF,jE,jD,jC⟩:=aN.e4 w1.heap.size 0 1 2 3 (J Y 1) (J Y sa) (J Y xa) (J O ga);obtain⟨jB,jA,jy,jw⟩:=aN.e4 w2.heap.size 0 1 2 3 (J Y 2) (J Y sb) (J Y xb) (J O gb)))
  |(go_at_call 64;refine(HL.out _).mono ?_;rintro e w9 ⟨rfl,aP⟩;obtain⟨fP,fU,fO,fQ⟩:=aP.y2 w.heap.size 0 1 (J O 0) (J Y 0)))
 refine bodyPost_ret (v:=V #[J O z,J Y fl]) (by simp[results,Tryz.results91,go_sem,fP,fO]) rfl ⟨rfl,?_⟩
 exact Gb.g
theorem Xv(f mode a b ca sa xa ga cb sb xb gb:Int)(HF:KW 117 #[J Y f,J Y mode,J O a,J O b] (I true))(fB:KR 31 #[J Y f,J O a] (V #[J Y ca,J Y sa,J Y xa,J O ga]))(iq:KR 31 #[J Y f,J O b] (V #[J Y cb,J Y sb,J Y xb,J O gb]))(jU:KR 118 #[V #[J Y ca,J Y sa,J Y xa,J O ga]] (I false))(oq:KR 118 #[V #[J Y cb,J Y sb,J Y xb,J O gb]] (I false))(e1:ca=1)(e2:cb=0)(sp:Int)(a0:0≤sa)(a1:sa≤1)(b0:0≤sb)(b1:sb≤1)(hm1:(sa+sb).tmod 2=sp)(hm2:(sa+sb)%2=sp)(inf z:Int)(HI:KW 112 #[J Y f] (J O inf))(HP:KW 151 #[J Y f,J Y sp,J O inf] (J O z))(w:World):
  QB 91 #[J Y f,J Y mode,J O a,J O b] w (V #[J O z,J Y 2]):=by
 subst e1 e2
 go_enter func91,ntmps91
 go_wp2_with (first
  |(go_at_call 117;refine kw (HF.out _) ?_)
  |(go_at_call 31;first|(with_reducible refine(fB.out _).mono ?_;rintro e w1 ⟨rfl,aj⟩;obtain⟨dK,fZ,jY,fV⟩:=aj.y2 w.heap.size 0 1 (J O 0) (J Y 0);have hz0:=au dK)|(with_reducible refine(iq.out _).mono ?_;rintro e w2 ⟨rfl,ak⟩;obtain⟨fC,iQ,mG,iO⟩:=ak.y2 w.heap.size 0 1 (J O 0) (J Y 0);have bU:=ak.e1 w1.heap.size 0 (J Y 1);have fG:=aK bU;have bT:=ak.e1 w1.heap.size 1 (J Y sa);have fF:=aK bT;have bQ:=ak.e1 w1.heap.size 2 (J Y xa);have fE:=aK bQ;have bP:=ak.e1 w1.heap.size 3 (J O ga);have fD:=aK bP;have hz1:=au fC))
  |(go_at_call 118;first|(with_reducible refine(jU.out _).mono ?_;rintro e va ⟨rfl,aC⟩;obtain⟨kC,gu,ku,f_⟩:=aC.y2 w.heap.size 0 1 (J O 0) (J Y 0);obtain⟨gJ,gI,gG,gB⟩:=aC.e4 w1.heap.size 0 1 2 3 (J Y 1) (J Y sa) (J Y xa) (J O ga);obtain⟨iV,iU,iT,iR⟩:=aC.e4 w2.heap.size 0 1 2 3 (J Y 0) (J Y sb) (J Y xb) (J O gb))|(with_reducible refine(oq.out _).mono ?_;rintro e vb ⟨rfl,aN⟩;obtain⟨nR,jv,nP,jo⟩:=aN.y2 w.heap.size 0 1 (J O 0) (J Y 0);obtain⟨jF,jE,jD,jC⟩:=aN.e4 w1.heap.size 0 1 2 3 (J Y 1) (J Y sa) (J Y xa) (J O ga);obtain⟨jB,jA,jy,jw⟩:=aN.e4 w2.heap.size 0 1 2 3 (J Y 0) (J Y sb) (J Y xb) (J O gb)))
  |(go_at_call 112;refine kw (HI.out _) ?_)
  |(go_at_call 151;refine kw (HP.out _) ?_))
 refine bodyPost_ret (v:=V #[J O z,J Y 2]) (by simp[results,Tryz.results91,go_sem,nR,nP]) rfl ⟨rfl,?_⟩
 exact Gb.g
def TU(p:Nat)(A B:Nat):Nat:=2*(A*2^(p+4)/B)+nC (decide (A*2^(p+4)%B≠0))
def divO(p mode:Int)(x y:bI):bI:=
 if 3≤max x.c y.c then⟨max x.c y.c,0,0,0⟩
 else if x.c=y.c∧x.c≠1 then⟨4,0,0,0⟩
 else if x.c=2 then⟨2,mulS x.s y.s,0,0⟩
 else if x.c=1∧y.c=0 then⟨5,mulS x.s y.s,0,0⟩
 else if x.c=1∧y.c=1 then⟨1,mulS x.s y.s,x.e-y.e-(p+4)-1,TU p.toNat x.M y.M⟩
 else⟨0,mulS x.s y.s,0,0⟩
theorem vJ(p mode:Int)(x y:bI)(h:3≤max x.c y.c):divO p mode x y=⟨max x.c y.c,0,0,0⟩:=by unfold divO;rw[if_pos h]
theorem aBj(p mode:Int)(x y:bI)(hx:VO x)(hy:VO y):0≤(divO p mode x y).c ∧(divO p mode x y).c ≤5:=by
 have:=hx.c0
 have:=hx.c4
 have:=hy.c0
 have:=hy.c4
 unfold divO
 split
 ·dsimp only;omega
 ·split
  ·exact⟨by dsimp only;omega,by dsimp only;omega⟩
  ·split
   ·exact⟨by dsimp only;omega,by dsimp only;omega⟩
   ·split
    ·exact⟨by dsimp only;omega,by dsimp only;omega⟩
    ·split
     ·exact⟨by dsimp only;omega,by dsimp only;omega⟩
     ·exact⟨by dsimp only;omega,by dsimp only;omega⟩
theorem NQ(s t:Int):mulS s t=0∨mulS s t=1:=by unfold mulS;split<;>simp
theorem Us(s t:Int)(hs:s=0∨s=1)(ht:t=0∨t=1):(s+t).tmod 2=mulS s t∧(s+t)%2=mulS s t:=by
 rcases hs with rfl|rfl<;>rcases ht with rfl|rfl<;>decide
theorem Cc{p:Int}{Pn A B:Nat}(hP:(Pn:Int)=p)(hP1:1≤Pn)(hA:2^(Pn-1)≤A)(hB:B<2^Pn)(hB0:0<B)(e:Int):
  0<A*2^(Pn+2)/B∧p+2≤(nb (A*2^(Pn+2)/B):Int)∧0<A*2^(Pn+4)/B∧p+2≤(nb (A*2^(Pn+4)/B):Int)∧
  (∀s mn mx one inf mode z fl,aH p mn mx one inf mode s (A*2^(Pn+2)/B) (e-(p+2)) (decide (A*2^(Pn+2)%B≠0)) z fl↔aH p mn mx one inf mode s (TU Pn A B) (e-(p+4)-1) false z fl)∧
  (∀s mn mx one inf mode z fl,aH p mn mx one inf mode s (A*2^(Pn+4)/B) (e-(p+4)) (decide (A*2^(Pn+4)%B≠0)) z fl↔aH p mn mx one inf mode s (TU Pn A B) (e-(p+4)-1) false z fl):=by
 have h1:2^(Pn+1)*B≤A*2^(Pn+2):=by
  have a1:2^(Pn+1)*B≤2^(Pn+1)*2^Pn:=Nat.mul_le_mul_left _ (Nat.le_of_lt hB)
  have a2:2^(Pn-1)*2^(Pn+2)≤A*2^(Pn+2):=Nat.mul_le_mul_right _ hA
  rw[←Nat.pow_add]at a1 a2
  rw[show Pn-1+(Pn+2)=Pn+1+Pn by omega]at a2
  omega
 have h2:2^(Pn+1)*B≤A*2^(Pn+4):=Nat.le_trans h1 (Nat.mul_le_mul_left _ (Nat.pow_le_pow_right de om))
 have n1:=Nk A B (Pn+2) (Pn+1) hB0 h1
 have n2:=Nk A B (Pn+4) (Pn+1) hB0 h2
 have p1:0<A*2^(Pn+2)/B:=by
  rcases Nat.eq_zero_or_pos (A*2^(Pn+2)/B)with c|c
  ·rw[c,yx]at n1;omega
  ·exact c
 have p2:0<A*2^(Pn+4)/B:=by
  rcases Nat.eq_zero_or_pos (A*2^(Pn+4)/B)with c|c
  ·rw[c,yx]at n2;omega
  ·exact c
 obtain⟨c1,c2⟩:=XE A B (Pn+2) 2 hB0
 refine⟨p1,om,p2,om,fun s mn mx one inf mode z fl=>?_,fun s mn mx one inf mode z fl=>?_⟩
 ·have h:=aH.cut (p:=p) (mn:=mn) (mx:=mx) (one:=one) (inf:=inf) (mode:=mode) (sign:=s) (m:=A*2^(Pn+2+2)/B) (e:=e-(p+4)) (z:=z) (fl:=fl) 2 (decide (A*2^(Pn+2+2)%B≠0)) (by rw[c1];exact p1) om (by rw[c1];omega) (decide (A*2^(Pn+2)%B≠0)) c2.symm
  rw[c1,show e-(p+4)+((2:Nat):Int)=e-(p+2) by omega]at h
  exact h
 ·exact aH.rest _ p2 om om
theorem Jf{f p mx one inf sg nan:Int}(h:aI f p mx one inf sg nan)(mode a b:Int)(hm:0≤mode∧mode≤4)(a0:0≤a)(a1:a<18446744073709551616)(b0:0≤b)(b1:b<18446744073709551616){x y:bI}(hx:bZ p mx one inf sg nan a x)(hy:bZ p mx one inf sg nan b y)(w:World):
  CT 91 #[J Y f,J Y mode,J O a,J O b] w fun e w'=>∃Z fl,ql p (1-mx) mx one inf sg nan mode (divO p mode x y) Z fl∧e=E (V #[J O Z,J Y fl])∧Gb w w':=by
 obtain⟨v1,v2,v3,v4,v5,v6⟩:=dA h hx
 obtain⟨u1,u2,u3,u4,u5,u6⟩:=dA h hy
 have xc0:=v1.c0
 have xc4:=v1.c4
 have yc0:=u1.c0
 have yc4:=u1.c4
 have hb:=h.bounds
 have hms:=NQ x.s y.s
 obtain⟨hm1,hm2⟩:=Us x.s y.s v1.nN u1.nN
 have sa0:0≤x.s:=by have:=v1.nN;omega
 have sa1:x.s≤1:=by have:=v1.nN;omega
 have sb0:0≤y.s:=by have:=u1.nN;omega
 have sb1:y.s≤1:=by have:=u1.nN;omega
 have fx:x.c=1→_:=rH h hx
 have fy:y.c=1→_:=rH h hy
 by_cases hfit:a<2*sg∧b<2*sg
 ·obtain⟨fa,RF⟩:=hfit
  have HF:KW 117 #[J Y f,J Y mode,J O a,J O b] (I true):=fun w=>nH h mode a b hm.1 hm.2 a0 fa b0 RF w
  have fB:=nS h a a0 fa hx
  have iq:=nS h b b0 RF hy
  have HQ:∀(z:bI) (t:Bool),t=decide (3≤z.c)→KR 118 #[V #[J Y z.c,J Y z.s,J Y z.e,J O (((z.M:Nat):Int))]] (I t):=fun z t ht w=>lS _ _ _ _ t ht w
  have wS:∀t:Bool,KR 119 #[J Y f,I t] (V #[J O nan,J Y (if t then 1 else 0)]):=fun t w=>rO h t _ rfl w
  by_cases c1:3≤x.c
  ·rw[vJ p mode x y (by omega)]
   by_cases c2:x.c=4
   ·refine(O8 f mode a b _ _ _ _ _ _ _ _ HF fB iq (HQ x true (by simp[c1])) (by simp[c2]) nan _ (wS true) w).mono ?_
    rintro e w' ⟨rfl,hg⟩
    exact⟨_,_,.inl (jG _ true (by simp;omega) om om),rfl,hg⟩
   ·refine(O7 f mode a b _ _ _ _ _ _ _ _ HF fB iq (HQ x true (by simp[c1])) (by simp[c2]) (decide (y.c=4)) (bq _ _) nan _ (wS _) w).mono ?_
    rintro e w' ⟨rfl,hg⟩
    exact⟨_,_,.inl (jG _ _ (by rw[decide_eq_decide];omega) om om),rfl,hg⟩
  ·by_cases c2:3≤y.c
   ·rw[vJ p mode x y (by omega)]
    refine(O6 f mode a b _ _ _ _ _ _ _ _ HF fB iq (HQ x false (by simp;omega)) (HQ y true (by simp[c2])) (by simp;omega) (decide (y.c=4)) (bq _ _) nan _ (wS _) w).mono ?_
    rintro e w' ⟨rfl,hg⟩
    exact⟨_,_,.inl (jG _ _ (by rw[decide_eq_decide];omega) om om),rfl,hg⟩
   ·have hQa:=HQ x false (by simp;omega)
    have hQb:=HQ y false (by simp;omega)
    unfold divO
    rw[if_neg (show ¬3≤max x.c y.c by omega)]
    rcases(show x.c=0∨x.c=1∨x.c=2 by omega)with cx|cx|cx<;>rcases(show y.c=0∨y.c=1∨y.c=2 by omega)with cy|cy|cy
    ·rw[if_pos (show x.c=y.c∧x.c≠1 by omega)]
     refine(Xy f mode a b _ _ _ _ _ _ _ _ HF fB iq hQa hQb cx cy nan 1 (fun w=>cZ h w) w).mono ?_
     rintro e w' ⟨rfl,hg⟩
     exact⟨_,_,.inl (lH rfl),rfl,hg⟩
    ·rw[if_neg (show ¬(x.c=y.c∧x.c≠1) by omega),if_neg (show ¬x.c=2 by omega),if_neg (show ¬(x.c=1∧y.c=0) by omega),if_neg (show ¬(x.c=1∧y.c=1) by omega)]
     refine(Xx f mode a b _ _ _ _ _ _ _ _ HF fB iq hQa hQb cx cy _ sa0 sa1 sb0 sb1 hm1 hm2 (sw (mulS x.s y.s) sg 0) 0 (fun w=>jS h _ hms w) w).mono ?_
     rintro e w' ⟨rfl,hg⟩
     exact⟨_,_,.inl (.inl ⟨rfl,rfl,rfl⟩),rfl,hg⟩
    ·rw[if_neg (show ¬(x.c=y.c∧x.c≠1) by omega),if_neg (show ¬x.c=2 by omega),if_neg (show ¬(x.c=1∧y.c=0) by omega),if_neg (show ¬(x.c=1∧y.c=1) by omega)]
     refine(Xw f mode a b _ _ _ _ _ _ _ _ HF fB iq hQa hQb cx cy _ sa0 sa1 sb0 sb1 hm1 hm2 (sw (mulS x.s y.s) sg 0) 0 (fun w=>jS h _ hms w) w).mono ?_
     rintro e w' ⟨rfl,hg⟩
     exact⟨_,_,.inl (.inl ⟨rfl,rfl,rfl⟩),rfl,hg⟩
    ·rw[if_neg (show ¬(x.c=y.c∧x.c≠1) by omega),if_neg (show ¬x.c=2 by omega),if_pos ⟨cx,cy⟩]
     refine(Xv f mode a b _ _ _ _ _ _ _ _ HF fB iq hQa hQb cx cy _ sa0 sa1 sb0 sb1 hm1 hm2 inf (sw (mulS x.s y.s) sg inf) (fun w=>dQ h w) (fun w=>oH h _ _ _ ?_ om om w) w).mono ?_
     ·rcases hms with c|c
      ·exact .inl ⟨c,by rw[c];simp[sw]⟩
      ·exact .inr ⟨c,by rw[c];simp[sw]⟩
     ·rintro e w' ⟨rfl,hg⟩
      exact⟨_,_,.inr ⟨rfl,rfl,rfl⟩,rfl,hg⟩
    ·rw[if_neg (show ¬(x.c=y.c∧x.c≠1) by omega),if_neg (show ¬x.c=2 by omega),if_neg (show ¬(x.c=1∧y.c=0) by omega),if_pos ⟨cx,cy⟩]
     obtain⟨Pn,hP,hP1,KE,hA,hA2⟩:=fx cx
     obtain⟨Pn',hP',_,_,hB,hB2⟩:=fy cy
     obtain rfl:Pn=Pn':=om
     have hB0:0<y.M:=Nat.lt_of_lt_of_le (Nat.pow_pos de) hB
     obtain⟨r1,r2,r3,r4,r5,r6⟩:=Cc hP hP1 hA hB2 hB0 (x.e-y.e)
     rw[show p.toNat=Pn by omega]
     have e4:x.e-y.e-(((Pn+4:Nat)):Int)=x.e-y.e-(p+4):=om
     refine Xu f mode a b _ _ _ _ _ _ _ _ HF fB iq hQa hQb cx cy _ sa0 sa1 sb0 sb1 hm1 hm2 (x.e-y.e-(p+4)) (decide (x.M*2^(Pn+4)%y.M≠0)) (x.M*2^(Pn+4)/y.M) (fun w=>?_) _ (fun v w hB=>B_ h mode hm.1 hm.2 ⟨1,mulS x.s y.s,x.e-y.e-(p+4)-1,TU Pn x.M y.M⟩ rfl hms _ r3 (x.e-y.e-(p+4)) om om _ r4 (fun mn mx one inf mode z fl=>r6 _ _ _ _ _ _ _ _) 8 om v w hB) w
     have hq:=zO h 1 x.s x.e 1 y.s y.e x.M y.M om om hB0 sa0 sa1 sb0 sb1 _ hm1 hm2 om om om om (Pn+4) om w
     rw[e4]at hq
     exact hq
    ·rw[if_neg (show ¬(x.c=y.c∧x.c≠1) by omega),if_neg (show ¬x.c=2 by omega),if_neg (show ¬(x.c=1∧y.c=0) by omega),if_neg (show ¬(x.c=1∧y.c=1) by omega)]
     refine(Xt f mode a b _ _ _ _ _ _ _ _ HF fB iq hQa hQb cx cy _ sa0 sa1 sb0 sb1 hm1 hm2 (sw (mulS x.s y.s) sg 0) 0 (fun w=>jS h _ hms w) w).mono ?_
     rintro e w' ⟨rfl,hg⟩
     exact⟨_,_,.inl (.inl ⟨rfl,rfl,rfl⟩),rfl,hg⟩
    ·rw[if_neg (show ¬(x.c=y.c∧x.c≠1) by omega),if_pos cx]
     refine(Xr f mode a b _ _ _ _ _ _ _ _ HF fB iq hQa hQb cx cy _ sa0 sa1 sb0 sb1 hm1 hm2 (sw (mulS x.s y.s) sg inf) 0 (fun w=>eu h _ hms w) w).mono ?_
     rintro e w' ⟨rfl,hg⟩
     exact⟨_,_,.inl (.inr (.inr (.inl ⟨rfl,rfl,rfl⟩))),rfl,hg⟩
    ·rw[if_neg (show ¬(x.c=y.c∧x.c≠1) by omega),if_pos cx]
     refine(Xq f mode a b _ _ _ _ _ _ _ _ HF fB iq hQa hQb cx cy _ sa0 sa1 sb0 sb1 hm1 hm2 (sw (mulS x.s y.s) sg inf) 0 (fun w=>eu h _ hms w) w).mono ?_
     rintro e w' ⟨rfl,hg⟩
     exact⟨_,_,.inl (.inr (.inr (.inl ⟨rfl,rfl,rfl⟩))),rfl,hg⟩
    ·rw[if_pos (show x.c=y.c∧x.c≠1 by omega)]
     refine(Xp f mode a b _ _ _ _ _ _ _ _ HF fB iq hQa hQb cx cy nan 1 (fun w=>cZ h w) w).mono ?_
     rintro e w' ⟨rfl,hg⟩
     exact⟨_,_,.inl (lH rfl),rfl,hg⟩
 ·refine(zi f mode a b (fun w=>dY f mode a b a0 a1 b0 b1 (qK h a1 b1 om) w) nan 1 (fun w=>cZ h w) w).mono ?_
  rintro e w' ⟨rfl,hg⟩
  refine⟨_,_,?_,rfl,hg⟩
  have:max x.c y.c=4:=by
   rcases(show 2*sg≤a∨2*sg≤b by omega)with c|c
   ·have:=kD h hx c;subst this;dsimp only at*;omega
   ·have:=kD h hy c;subst this;dsimp only at*;omega
  rw[vJ p mode x y (by omega)]
  exact .inl (lH this)
theorem E_(f mode a b:Int)(a0:0≤a)(a1:a<18446744073709551616)(b0:0≤b)(b1:b<18446744073709551616)(w:World):
  CT 91 #[J Y f,J Y mode,J O a,J O b] w fun e w'=>∃Z fl,kH divO f mode a b Z fl∧e=E (V #[J O Z,J Y fl])∧Gb w w':=by
 by_cases hf:f=0∨f=1
 ·obtain⟨p,mx,one,inf,sg,nan,hF⟩:=kF f hf
  by_cases hm:0≤mode∧mode≤4
  ·obtain⟨x,hx⟩:=jk hF a a0 a1
   obtain⟨y,hy⟩:=jk hF b b0 b1
   refine(Jf hF mode a b hm a0 a1 b0 b1 hx hy w).mono ?_
   rintro e w' ⟨Z,fl,hp,rfl,hg⟩
   exact⟨_,_,.inl ⟨p,mx,one,inf,sg,nan,x,y,hF,hm,hx,hy,hp⟩,rfl,hg⟩
  ·refine(zi f mode a b (fun w=>dY f mode a b a0 a1 b0 b1 (.inl om) w) nan 1 (fun w=>cZ hF w) w).mono ?_
   rintro e w' ⟨rfl,hg⟩
   exact⟨_,_,.inr (.inl ⟨p,mx,one,inf,sg,nan,hF,om,rfl,rfl⟩),rfl,hg⟩
 ·refine(zi f mode a b (fun w=>dY f mode a b a0 a1 b0 b1 (.inr (.inl hf)) w) _ 1 (fun w=>oJ f hf w) w).mono ?_
  rintro e w' ⟨rfl,hg⟩
  exact⟨_,_,.inr (.inr ⟨hf,rfl,rfl⟩),rfl,hg⟩
theorem Du{f p mx one inf sg nan:Int}(hF:aI f p mx one inf sg nan)(mn md:Int)(k:Nat){a b:Int}{x y:bI}(hx:bZ p mx one inf sg nan a x)(hy:bZ p mx one inf sg nan b y)(h3:max x.c y.c<3)(w:World):
  CT 179 #[V #[J Y p,J Y mn,J Y mx,J Y md,.func (.func k) #[] #[]],V #[J Y x.s,J Y x.e,J Y x.c,J O (((x.M/18446744073709551616:Nat):Int)),J O (((x.M%18446744073709551616:Nat):Int)),I false,J Y 0],V #[J Y y.s,J Y y.e,J Y y.c,J O (((y.M/18446744073709551616:Nat):Int)),J O (((y.M%18446744073709551616:Nat):Int)),I false,J Y 0]] w fun e w'=>∃os oe oc oh ol ot of,iY p (divO p md x y) os oe oc oh ol ot of∧e=E (V #[J Y os,J Y oe,J Y oc,J O oh,J O ol,I ot,J Y of])∧Gr w w':=by
 obtain⟨v1,v2,v3,v4,v5,v6⟩:=dA hF hx
 obtain⟨u1,u2,u3,u4,u5,u6⟩:=dA hF hy
 have hpb:24≤p∧p≤53:=by have:=hF.bounds;omega
 have HT:Hid (∀w,QR 220 #[V #[J Y x.s,J Y x.e],V #[J Y y.s,J Y y.e]] w (V #[J Y (mulS x.s y.s),J Y (x.e-y.e)])):=fun w=>EY x.s x.e y.s y.e v1.nN u1.nN om om om om w
 have hms:=NQ x.s y.s
 have fx:x.c=1→_:=rH hF hx
 have fy:y.c=1→_:=rH hF hy
 have c0:=v1.c0
 have d0:=u1.c0
 obtain⟨cx,sx,ex,Mx⟩:=x
 obtain⟨cy,sy,ey,My⟩:=y
 dsimp only at*
 rcases(show cx=0∨cx=1∨cx=2 by omega)with rfl|rfl|rfl<;>rcases(show cy=0∨cy=1∨cy=2 by omega)with rfl|rfl|rfl
 ·rw[show divO p md ⟨0,sx,ex,Mx⟩ ⟨0,sy,ey,My⟩=⟨4,0,0,0⟩ from by unfold divO;dsimp only;rw[if_neg de,if_pos (by decide)]]
  refine(FM p mn mx md k _ _ _ _ _ _ _ _ _ _ _ _ HT w).mono ?_
  rintro r w' ⟨rfl,hg⟩
  exact⟨_,_,_,_,_,_,_,iY.nan p 4 om om,rfl,hg⟩
 ·rw[show divO p md ⟨0,sx,ex,Mx⟩ ⟨1,sy,ey,My⟩=⟨0,mulS sx sy,0,0⟩ from by unfold divO;dsimp only;rw[if_neg de,if_neg de,if_neg de,if_neg de,if_neg (by decide)]]
  refine(FK p mn mx md k _ _ _ _ _ _ _ _ _ _ _ _ HT w).mono ?_
  rintro r w' ⟨rfl,hg⟩
  exact⟨_,_,_,_,_,_,_,iY.flat p _ _ _ 0 _ rfl om om om (fun _=>⟨rfl,hms⟩),rfl,hg⟩
 ·rw[show divO p md ⟨0,sx,ex,Mx⟩ ⟨2,sy,ey,My⟩=⟨0,mulS sx sy,0,0⟩ from by unfold divO;dsimp only;rw[if_neg de,if_neg de,if_neg de,if_neg de,if_neg (by decide)]]
  refine(FI p mn mx md k _ _ _ _ _ _ _ _ _ _ _ _ HT w).mono ?_
  rintro r w' ⟨rfl,hg⟩
  exact⟨_,_,_,_,_,_,_,iY.flat p _ _ _ 0 _ rfl om om om (fun _=>⟨rfl,hms⟩),rfl,hg⟩
 ·rw[show divO p md ⟨1,sx,ex,Mx⟩ ⟨0,sy,ey,My⟩=⟨5,mulS sx sy,0,0⟩ from by unfold divO;dsimp only;rw[if_neg de,if_neg de,if_neg de,if_pos (by decide)]]
  refine(FH p mn mx md k _ _ _ _ _ _ _ _ _ _ _ _ HT w).mono ?_
  rintro r w' ⟨rfl,hg⟩
  exact⟨_,_,_,_,_,_,_,.inr (.inl ⟨rfl,rfl,rfl,hms,rfl⟩),rfl,hg⟩
 ·rw[show divO p md ⟨1,sx,ex,Mx⟩ ⟨1,sy,ey,My⟩=⟨1,mulS sx sy,ex-ey-(p+4)-1,TU p.toNat Mx My⟩ from by unfold divO;dsimp only;rw[if_neg de,if_neg de,if_neg de,if_neg de,if_pos (by decide)]]
  obtain⟨Pn,hP,hP1,KE,hA,hA2⟩:=fx rfl
  obtain⟨Pn',hP',_,_,hB,hB2⟩:=fy rfl
  obtain rfl:Pn=Pn':=om
  have hB0:0<My:=Nat.lt_of_lt_of_le (Nat.pow_pos de) hB
  obtain⟨r1,r2,r3,r4,r5,r6⟩:=Cc hP hP1 hA hB2 hB0 (ex-ey)
  have hAB:Mx<2*My:=by
   have:2^Pn=2*2^(Pn-1):=by rw[←Nat.pow_succ',show(Pn-1).succ =Pn by omega]
   omega
  obtain⟨d1,d2⟩:=Jz Mx My (Pn+2) hAB om
  have hC:Mx*2^(Pn+2)/My<18446744073709551616:=by
   have h1:Mx*2^(Pn+2)<My*2^(Pn+3):=by
    have:2^(Pn+3)=2*2^(Pn+2):=by rw[←Nat.pow_succ']
    rw[this,←Nat.mul_assoc,Nat.mul_comm My 2]
    exact Nat.mul_lt_mul_of_pos_right hAB (Nat.pow_pos de)
   have h2:Mx*2^(Pn+2)/My<2^(Pn+3):=by rw[Nat.div_lt_iff_lt_mul hB0,Nat.mul_comm (2^(Pn+3))];exact h1
   have h3:2^(Pn+3)≤2^56:=Nat.pow_le_pow_right de om
   have h4:2^56<18446744073709551616:=de
   omega
  rw[Nat.mod_eq_of_lt hC]at d2
  rw[show p.toNat=Pn by omega]
  refine(FD p mn mx md k sx ex _ _ sy ey _ _ _ _ _ _ HT Mx My (by rw[Nat.mod_eq_of_lt (by omega)]) (by rw[Nat.mod_eq_of_lt (by omega)]) om om (mulS sx sy) (ex-ey-(p+2)) 1 0 _ _ (fun w v hd=>N8 p mn mx md k (mulS sx sy) (ex-ey) om om om om om hd (Pn+3) om) w).mono ?_
  rintro r w' ⟨rfl,hg⟩
  refine⟨_,_,_,_,_,_,_,.inl ⟨Mx*2^(Pn+2)/My,?_,?_,rfl,rfl,(show(0:Int)≤1 by omega),(show(1:Int)≤4 by omega),fun _=>⟨rfl,hms⟩,fun _=>⟨r1,om,fun _=>r2,om,om,fun mn mx one inf mode z fl=>?_⟩⟩,rfl,hg⟩
  ·rw[Nat.div_eq_of_lt hC];rfl
  ·rw[Nat.mod_eq_of_lt hC,show Pn+3=Pn+2+1 from rfl,d2]
  ·rw[show Pn+3-1=Pn+2 from rfl,d1]
   exact r5 _ _ _ _ _ _ _ _
 ·rw[show divO p md ⟨1,sx,ex,Mx⟩ ⟨2,sy,ey,My⟩=⟨0,mulS sx sy,0,0⟩ from by unfold divO;dsimp only;rw[if_neg de,if_neg de,if_neg de,if_neg de,if_neg (by decide)]]
  refine(FC p mn mx md k _ _ _ _ _ _ _ _ _ _ _ _ HT w).mono ?_
  rintro r w' ⟨rfl,hg⟩
  exact⟨_,_,_,_,_,_,_,iY.flat p _ _ _ 0 _ rfl om om om (fun _=>⟨rfl,hms⟩),rfl,hg⟩
 ·rw[show divO p md ⟨2,sx,ex,Mx⟩ ⟨0,sy,ey,My⟩=⟨2,mulS sx sy,0,0⟩ from by unfold divO;dsimp only;rw[if_neg de,if_neg de,if_pos (by decide)]]
  refine(FB p mn mx md k _ _ _ _ _ _ _ _ _ _ _ _ HT w).mono ?_
  rintro r w' ⟨rfl,hg⟩
  exact⟨_,_,_,_,_,_,_,iY.flat p _ _ _ 2 _ rfl om om om (fun _=>⟨rfl,hms⟩),rfl,hg⟩
 ·rw[show divO p md ⟨2,sx,ex,Mx⟩ ⟨1,sy,ey,My⟩=⟨2,mulS sx sy,0,0⟩ from by unfold divO;dsimp only;rw[if_neg de,if_neg de,if_pos (by decide)]]
  refine(Fz p mn mx md k _ _ _ _ _ _ _ _ _ _ _ _ HT w).mono ?_
  rintro r w' ⟨rfl,hg⟩
  exact⟨_,_,_,_,_,_,_,iY.flat p _ _ _ 2 _ rfl om om om (fun _=>⟨rfl,hms⟩),rfl,hg⟩
 ·rw[show divO p md ⟨2,sx,ex,Mx⟩ ⟨2,sy,ey,My⟩=⟨4,0,0,0⟩ from by unfold divO;dsimp only;rw[if_neg de,if_pos (by decide)]]
  refine(Fv p mn mx md k _ _ _ _ _ _ _ _ _ _ _ _ HT w).mono ?_
  rintro r w' ⟨rfl,hg⟩
  exact⟨_,_,_,_,_,_,_,iY.nan p 4 om om,rfl,hg⟩
theorem Gx(f mode a b:Int)(a0:0≤a)(a1:a<18446744073709551616)(b0:0≤b)(b1:b<18446744073709551616)(w:World)(hw:Fm w):
  CT 92 #[J Y f,J Y mode,J O a,J O b] w fun e w'=>∃Z fl,kH divO f mode a b Z fl∧e=E (V #[J O Z,J Y fl])∧Gr w w':=by
 refine Kz f mode a b (kH divO f mode a b) (fun w' hg=>?_)
 have hw':=hw.gr hg
 by_cases hf:f=0∨f=1
 ·obtain⟨p,mx,one,inf,sg,nan,hF⟩:=kF f hf
  obtain⟨mn,fb,sp,hM,hmn,hfb⟩:=hF.m
  by_cases hm:0≤mode∧mode≤4
  ·obtain⟨k,hk⟩:=o9 mode hm.1 hm.2
   obtain⟨x,hx,HA⟩:=ny hF hM a a0 a1
   obtain⟨y,hy,HB⟩:=ny hF hM b b0 b1
   obtain⟨v1,v2,v3,v4,v5,v6⟩:=dA hF hx
   obtain⟨u1,u2,u3,u4,u5,u6⟩:=dA hF hy
   refine(Ho p mn mx mode f k 179 a b _ _ _ _ _ _ _ _ _ _ _ _ (fun w'' hg'=>gK hF hM mode k (fun w=>jQ mode k hk w) (hw'.gr hg')) HA HB (iY p (divO p mode x y)) (fun w=>?_) (ql p mn mx one inf sg nan mode (divO p mode x y)) (fun os oe oc oh ol ot of w hq=>Ce hM mode k hk _ os oe oc oh ol ot of hq w)).mono ?_
   ·by_cases h3:3≤max x.c y.c
    ·refine(jV p mn mx mode k _ _ _ _ _ _ _ _ _ _ _ _ 179 _ rfl h3 w).mono ?_
     rintro e w' ⟨rfl,hg⟩
     rw[vJ p mode x y h3]
     exact⟨_,_,_,_,_,_,_,iY.nan p _ h3 (by have:=v1.c4;have:=u1.c4;omega),rfl,hg⟩
    ·exact wM p mn mx mode k _ _ _ _ _ _ _ _ _ _ _ _ _ rfl om _ (fun w=>Du hF mn mode k hx hy om w) w
   ·rintro e w'' ⟨Z,fl,hp,rfl,hg'⟩
    rw[hmn]at hp
    exact⟨_,_,.inl ⟨p,mx,one,inf,sg,nan,x,y,hF,hm,hx,hy,hp⟩,rfl,hg'⟩
  ·refine(lG p mn mx mode nan f mode a b (fun w'' hg'=>jm hF hM mode (fun w=>oC mode om w) (hw'.gr hg')) (fun w=>dI hM w) 179).mono ?_
   rintro e w'' ⟨rfl,hg'⟩
   exact⟨_,_,.inr (.inl ⟨p,mx,one,inf,sg,nan,hF,om,rfl,rfl⟩),rfl,hg'⟩
 ·refine(lG _ _ _ _ _ f mode a b (fun w'' hg'=>je f mode hf (hw'.gr hg')) (fun w=>dI m64 w) 179).mono ?_
  rintro e w'' ⟨rfl,hg'⟩
  exact⟨_,_,.inr (.inr ⟨hf,rfl,rfl⟩),rfl,hg'⟩
theorem Ai(f mode a b:Int)(a0:0≤a)(a1:a<18446744073709551616)(b0:0≤b)(b1:b<18446744073709551616):
  ∃Z fl:Int,kH divO f mode a b Z fl∧(∀w,QB 91 #[J Y f,J Y mode,J O a,J O b] w (V #[J O Z,J Y fl]))∧
   (∀w,Fm w→QR 92 #[J Y f,J Y mode,J O a,J O b] w (V #[J O Z,J Y fl])):=
 Ic divO 91 92 _ aBj f mode a b a0 a1 b0 b1 (E_ f mode a b a0 a1 b0 b1) (Gx f mode a b a0 a1 b0 b1)
