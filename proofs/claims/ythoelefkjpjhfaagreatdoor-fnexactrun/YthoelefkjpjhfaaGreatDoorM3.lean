import Derived.Test.YthoelefkjpjhfaaGreatDoorG9
import Derived.Test.YthoelefkjpjhfaaGreatDoorM6
set_option linter.all false
set_option maxRecDepth 1000000
set_option maxHeartbeats 40000000
open Bool renaming false → Z, true → O
open Go.Proofs.YthoelefkjpjhfaaGreatDoor renaming vI → J, vU → Y
open Go.Proofs.Tryz
namespace Go.Proofs.YthoelefkjpjhfaaGreatDoor
open Go.RowKit
variable{w w' x:World}{b g K N c L N':Nat}{u k mu inv scale f p mx one aI sg nan:Int}{v v':Value}
def aKK{P:Prop}(h:P:=by
 refine bodyPost_ret (v:=.agg #[J 1,aC b2 k2 cc2,J z,.bool Z]) (by simp[results,Tryz.results147,go_sem,jT];rfl) rfl ⟨b2,k2,cc2,?_,rfl,?_⟩
 .exact NH.st4 jT.1 jT.2.2.1 jT.2.2.2.2.1 jT.2.2.2.2.2.2.1
 .exact Gb.g):P:=h
def aKL{P:Prop}(h:P:=by
 refine bodyPost_ret (v:=.agg #[J 0,aC b2 k2 cc2,J z,.bool Z]) (by simp[results,Tryz.results147,go_sem,jT];rfl) rfl ⟨b2,k2,cc2,?_,rfl,?_⟩
 .exact NH.st4 jT.1 jT.2.2.1 jT.2.2.2.2.1 jT.2.2.2.2.2.2.1
 .exact Gb.g):P:=h
attribute [local go_sem] aA dB
def A_(c s x c' s' x':Int)(G G':Nat)(hG:aG G)(hG':aG G')(hs:s=0\/s=1)(WT:s'=0\/s'=1)(x0:-50000<=x)(x1:x<=50000)(y0:-50000<=x')(y1:x'<=50000)(w:World):
  CT 147 #[d_ c s x ((G:Nat)),d_ (c') (s') (x') ((G':Nat))] w λe w'=>∃b k cc,aH 4 w' (aC b k cc) (G*G')/\e=.returned (.agg #[J (mulS s s'),aC b k cc,J (x+x'),.bool Z])/\Gb w w':=by
 have HB:Hid (∀(H:Nat) w,aG H->CT 132 #[Y (H:Nat)] w (sV 2 H w)):=λH w hH=>dY (gY H hH w);have HM:Hid (∀v v' (N N':Nat) w,aH 2 w v N->aH 2 w v' N'->CT 152 #[v,v'] w (sV 4 (N*N') w)):=λv v' N N' w ⟨n,a1,a2⟩ ⟨n',b1,b2⟩=>dY ((zQ a2 om b2 om).mono (λe w' ⟨v,k,c1,c2,c3,c4⟩=>⟨v,k,c1,c2,om,c4⟩));have u1:IntKind.i64.wrap (x+x')=x+x':=wi;obtain⟨z,hz⟩:=dK (x+x');rw[hz]at u1⊢
 have u2:IntKind.i64.wrap (x+x')=z:=by rw[hz];exact u1
 clear u1 hz;rcases hs with rfl|rfl<;>rcases WT with rfl|rfl
 .go_enter func147,ntmps147;go_wp2;go_region_held3 (λw'=>jv w' w.heap.size 1 2 3 (J 0) (J x) (Y (G:Nat))/\jv w' (w.heap.size+1) 1 2 3 (J 0) (J x') (Y (G':Nat)))(exact nX)(first|(go_at_call 132;refine(HB _ _ (by assumption)).mono ?_;rintro e w1 ⟨b,k,cc,mF,rfl,ak⟩;have:=ak.yF w)|(go_at_call 152;refine(HM _ _ _ _ _ (aH.gb (by assumption) Gb.g) (aH.gb (by assumption) Gb.g)).mono ?_;rintro e w2 ⟨b2,k2,cc2,NH,rfl,aB⟩;have jT:=aB.yF w))
  all_goals go_wp2
  all_goals
   exact aKL
 .go_enter func147,ntmps147;go_wp2;go_region_held3 (λw'=>jv w' w.heap.size 1 2 3 (J 0) (J x) (Y (G:Nat))/\jv w' (w.heap.size+1) 1 2 3 (J 1) (J x') (Y (G':Nat)))(exact nX)(first|(go_at_call 132;refine(HB _ _ (by assumption)).mono ?_;rintro e w1 ⟨b,k,cc,mF,rfl,ak⟩;have:=ak.yF w)|(go_at_call 152;refine(HM _ _ _ _ _ (aH.gb (by assumption) Gb.g) (aH.gb (by assumption) Gb.g)).mono ?_;rintro e w2 ⟨b2,k2,cc2,NH,rfl,aB⟩;have jT:=aB.yF w))
  all_goals go_wp2
  all_goals
   exact aKK
 .go_enter func147,ntmps147;go_wp2;go_region_held3 (λw'=>jv w' w.heap.size 1 2 3 (J 1) (J x) (Y (G:Nat))/\jv w' (w.heap.size+1) 1 2 3 (J 0) (J x') (Y (G':Nat)))(exact nX)(first|(go_at_call 132;refine(HB _ _ (by assumption)).mono ?_;rintro e w1 ⟨b,k,cc,mF,rfl,ak⟩;have:=ak.yF w)|(go_at_call 152;refine(HM _ _ _ _ _ (aH.gb (by assumption) Gb.g) (aH.gb (by assumption) Gb.g)).mono ?_;rintro e w2 ⟨b2,k2,cc2,NH,rfl,aB⟩;have jT:=aB.yF w))
  all_goals go_wp2
  all_goals
   exact aKK
 .go_enter func147,ntmps147;go_wp2;go_region_held3 (λw'=>jv w' w.heap.size 1 2 3 (J 1) (J x) (Y (G:Nat))/\jv w' (w.heap.size+1) 1 2 3 (J 1) (J x') (Y (G':Nat)))(exact nX)(first|(go_at_call 132;refine(HB _ _ (by assumption)).mono ?_;rintro e w1 ⟨b,k,cc,mF,rfl,ak⟩;have:=ak.yF w)|(go_at_call 152;refine(HM _ _ _ _ _ (aH.gb (by assumption) Gb.g) (aH.gb (by assumption) Gb.g)).mono ?_;rintro e w2 ⟨b2,k2,cc2,NH,rfl,aB⟩;have jT:=aB.yF w))
  all_goals go_wp2
  all_goals
   exact aKL
def XH{k:Nat}(h:aH K w (aC b k c) N)(h0:N=0):k=0:=by
 obtain⟨n,hn,uG,hr⟩:=h;have e:n=k:=by obtain⟨_,b',c',hv,_⟩:=hr;cases hv;rfl
 rw[<-e];exact(uG.iff).2 h0
def zG{k:Nat}(h:aH K w (aC b k c) N)(h0:N≠0):0<k:=by
 obtain⟨n,hn,uG,hr⟩:=h;have e:n=k:=by obtain⟨_,b',c',hv,_⟩:=hr;cases hv;rfl
 rw[<-e];rcases Nat.eq_zero_or_pos n with c|c
 .exact absurd ((uG.iff).1 c) h0
 .exact c
def NQ(hK:K<=1000)(hL:L<=1000)(h:aH K w v N)(h':aH L w v' N')(h0:0<N'):
  CT 153 #[v,v'] w λe w'=>∃b k c b' k' c',aH K w' (aC b k c) (N/N')/\aH (L+1) w' (aC b' k' c') (N%N')/\e=.returned (.tuple #[aC b k c,aC b' k' c'])/\Gb w w':=by
 obtain⟨n,hn,hb⟩:=h;obtain⟨n',C9,AV⟩:=h';refine(aDn hb om AV om h0).mono ?_;rintro e w' ⟨q,r,k,k',rfl,hq,hr,hk,C_,hg⟩;obtain⟨b,c,rfl,_⟩:=Big.shape hq;obtain⟨b',c',rfl,_⟩:=Big.shape hr;exact⟨b,k,c,b',k',c',⟨k,om,hq⟩,⟨k',om,hr⟩,rfl,hg⟩
def yZ(h:bD f p mx one aI sg nan)(c s x c' s' x':Int)(A B:Nat)(hA:aG A)(hB:aG B)(zY:0<B)(a0:0<=s)(a1:s<=1)(b0:0<=s')(b1:s'<=1)(sp:Int)(AU:(s+s').tmod 2=sp)(JI:(s+s')%2=sp)(x0:-50000<=x)(x1:x<=50000)(y0:-50000<=x')(y1:x'<=50000)(P:Nat)(hP:(P:Int)=p+4)(w:World):
  CT 149 #[J f,d_ c s x ((A:Nat)),d_ (c') (s') (x') ((B:Nat))] w λe w'=>∃b k cc,aH 8 w' (aC b k cc) (A*2^P/B)/\e=.returned (.agg #[J sp,aC b k cc,J (x-x'-P),.bool (decide (A*2^P%B≠0))])/\Gb w w':=by
 have hpb:p<=53/\24<=p:=by rcases h with h|h<;>omega
 have aUM:P<=57:=om;have HB:Hid (∀(H:Nat) w,aG H->CT 132 #[Y (H:Nat)] w (sV 2 H w)):=λH w hH=>dY (gY H hH w);have HS:Hid (∀v w,aH 2 w v A->CT 150 #[v,J (P:Int)] w (sV 8 (A*2^P) w)):=λv w ⟨n,a1,a2⟩=>dY ((gX a2 om P om).mono (λe w' ⟨v,k,c1,c2,c3,c4⟩=>⟨v,k,c1,c2,om,c4⟩));have HD:Hid (∀v v' w,aH 8 w v (A*2^P)->aH 2 w v' B->CT 153 #[v,v'] w λe w'=>∃b k c b' k' c',aH 8 w' (aC b k c) (A*2^P/B)/\aH 3 w' (aC b' k' c') (A*2^P%B)/\e=.returned (.tuple #[aC b k c,aC b' k' c'])/\Gb w w'):=λv v' w h1 h2=>NQ om om h1 h2 zY;have HP:KW 116 #[J f] (J p):=λw=>qI h w;have g1:p+4=(P:Int):=hP.symm;obtain⟨z,hz⟩:=dK (x-x'-(P:Int));rw[hz];clear hP h;by_cases hr:A*2^P%B=0
 .rw[show decide (A*2^P%B≠0)=Z by simp[hr]];have HR:Hid _:=hr;clear hr;generalize A*2^P%B=R at*
  generalize A*2^P/B=Qn at*
  generalize A*2^P=X at*
  go_enter func149,ntmps149;go_wp2_with (go_at_call 116;refine kw (HP _) ?_);go_region_held3 (λw'=>jv w' w.heap.size 1 2 3 (J s) (J x) (Y (A:Nat))/\jv w' (w.heap.size+1) 1 2 3 (J s') (J x') (Y (B:Nat)))(exact nX)(first|(go_at_call 132;refine(HB _ _ (by assumption)).mono ?_;rintro e w1 ⟨b,k,cc,mF,rfl,ak⟩;have:=ak.yF w)|(go_at_call 150;refine(HS _ _ (aH.gb (by assumption) Gb.g)).mono ?_;rintro e w2 ⟨b2,k2,cc2,NH,rfl,aB⟩;have:=aB.yF w)|(go_at_call 153;refine(HD _ _ _ (aH.gb (by assumption) Gb.g) (aH.gb (by assumption) Gb.g)).mono ?_;rintro e w3 ⟨b3,k3,cc3,b4,k4,cc4,aGU,aGT,rfl,aK⟩;have wI:=aK.yF w;have:=aK.e2 w.heap.size 1 2 _ _;have:=aK.e2 (w.heap.size+1) 1 2 _ _;obtain rfl:k4=0:=(XH aGT HR.out)))
  all_goals go_wp2
  all_goals
   refine bodyPost_ret (v:=.agg #[J sp,aC b3 k3 cc3,J z,.bool Z]) (by simp[results,Tryz.results149,go_sem,wI]) rfl ⟨b3,k3,cc3,?_,rfl,?_⟩
   .exact aGU.st4 wI.1 wI.2.2.1 wI.2.2.2.2.1 wI.2.2.2.2.2.2.1
   .exact Gb.g
 .rw[show decide (A*2^P%B≠0)=O by simp[hr]];have HR:Hid (A*2^P%B≠0):=hr;clear hr;generalize A*2^P%B=R at*
  generalize A*2^P/B=Qn at*
  generalize A*2^P=X at*
  go_enter func149,ntmps149;go_wp2_with (go_at_call 116;refine kw (HP _) ?_);go_region_held3 (λw'=>jv w' w.heap.size 1 2 3 (J s) (J x) (Y (A:Nat))/\jv w' (w.heap.size+1) 1 2 3 (J s') (J x') (Y (B:Nat)))(exact nX)(first|(go_at_call 132;refine(HB _ _ (by assumption)).mono ?_;rintro e w1 ⟨b,k,cc,mF,rfl,ak⟩;have:=ak.yF w)|(go_at_call 150;refine(HS _ _ (aH.gb (by assumption) Gb.g)).mono ?_;rintro e w2 ⟨b2,k2,cc2,NH,rfl,aB⟩;have:=aB.yF w)|(go_at_call 153;refine(HD _ _ _ (aH.gb (by assumption) Gb.g) (aH.gb (by assumption) Gb.g)).mono ?_;rintro e w3 ⟨b3,k3,cc3,b4,k4,cc4,aGU,aGT,rfl,aK⟩;have wI:=aK.yF w;have:=aK.e2 w.heap.size 1 2 _ _;have:=aK.e2 (w.heap.size+1) 1 2 _ _;have hkn:0<k4:=zG aGT HR.out;have hkp:(0:Int)<(k4:Int):=om))
  all_goals go_wp2
  all_goals
   refine bodyPost_ret (v:=.agg #[J sp,aC b3 k3 cc3,J z,.bool O]) (by simp[results,Tryz.results149,go_sem,wI,hkn]) rfl ⟨b3,k3,cc3,?_,rfl,?_⟩
   .exact aGU.st4 wI.1 wI.2.2.1 wI.2.2.2.2.1 wI.2.2.2.2.2.2.1
   .exact Gb.g
def aKM{P:Prop}(h:P:=by
 go_enter func67,ntmps67;go_wp2_with (first|(go_at_call 139;refine kw (HF _) ?_)|(go_at_call 126;first|(with_reducible refine ku (eH.out _) λw1 ak=>?_;have iO:=ak.bG w;have lF:=au iO.1))|(go_at_call 140;first|(with_reducible refine ku (jk.out _) λva aO=>?_;have:=aO.bG w;have:=aO.fG w1))|(go_at_call 141;refine ku (HL _) λw9 bM=>?_;have iQ:=bM.bG w))
 exact dI (by simp[results,Tryz.results67,go_sem,iQ])):P:=h
def aKQ{P:Prop}(h:P:=by
 go_enter func67,ntmps67;go_wp2_with (first|(go_at_call 139;refine kw (HF _) ?_)|(go_at_call 126;first|(with_reducible refine ku (eH.out _) λw1 ak=>?_;have iO:=ak.bG w;have lF:=au iO.1))|(go_at_call 140;first|(with_reducible refine ku (jk.out _) λva aO=>?_;have:=aO.bG w;have:=aO.fG w1))|(go_at_call 116;refine kw (HP _) ?_)|(go_at_call 132;refine(HB _).mono ?_;rintro e n1 ⟨b1,k1,q1,gU,rfl,mZ⟩;have:=mZ.bG w;have:=mZ.fG w1)|(go_at_call 150;refine(HS _ _ gU).mono ?_;rintro e n2 ⟨b2,k2,q2,lC,rfl,zi⟩;have:=zi.bG w;have:=zi.fG w1)|(go_at_call 151;refine(HRt _ _ lC).mono ?_;rintro e n3 ⟨b3,k3,q3,qm,rfl,y9⟩;have:=y9.bG w;have:=y9.fG w1)|(go_at_call 152;refine(HM _ _ qm).mono ?_;rintro e n4 ⟨b4,k4,q4,pz,rfl,ig⟩;have:=ig.bG w;have:=ig.fG w1)|(go_at_call 133;refine ku (HCm _ _ _ pz (aH.gb (aH.gb lC y9) ig)) λn5 jF=>?_;have:=jF.bG w;have:=jF.fG w1)|(go_at_call 138;with_reducible refine(HR.out _ _ (aH.gb (aH.gb qm ig) jF)).mono ?_;rintro e w9 ⟨z,fl,hq',rfl,bM⟩;have iQ:=bM.bG w))
 refine bodyPost_ret (v:=aP z fl) (by simp[results,Tryz.results67,go_sem,iQ]) rfl ⟨z,fl,hq',rfl,?_⟩;exact Gb.g):P:=h
def EX(f aj a:Int)(HF:oI f aj a Z)(z fl:Int)(HL:oJ f z fl)(w:World):
  QB 67 #[J f,J aj,Y a] w (aP z fl):=by
 go_enter func67,ntmps67;go_wp2_with (first|(go_at_call 139;refine kw (HF _) ?_)|(go_at_call 136;refine ku (HL _) λw9 bM=>?_;have iQ:=bM.bG w))
 exact dI (by simp[results,Tryz.results67,go_sem,iQ])
def aB7(f aj a ca sa xa ga:Int)(HF:oI f aj a O)(eH:bP f a ca sa xa ga)(jk:bQ ca sa xa ga O)(t:Bool)(e5:(ca==4)=t)(z fl:Int)(HL:oU f t z fl)(w:World):
  QB 67 #[J f,J aj,Y a] w (aP z fl):=by
 cases t
 .exact aKM
 .exact aKM
def YS(f aj a ca sa xa ga:Int)(HF:oI f aj a O)(eH:bP f a ca sa xa ga)(jk:bQ ca sa xa ga Z)(e1:ca=0)(z fl:Int)(HL:yG f sa z fl)(w:World):
  QB 67 #[J f,J aj,Y a] w (aP z fl):=by
 subst e1;go_enter func67,ntmps67;go_wp2_with (first|(go_at_call 139;refine kw (HF _) ?_)|(go_at_call 126;first|(with_reducible refine ku (eH.out _) λw1 ak=>?_;have iO:=ak.bG w;have lF:=au iO.1))|(go_at_call 140;first|(with_reducible refine ku (jk.out _) λva aO=>?_;have:=aO.bG w;have:=aO.fG w1))|(go_at_call 137;refine ku (HL _) λw9 bM=>?_;have iQ:=bM.bG w))
 exact dI (by simp[results,Tryz.results67,go_sem,iQ])
def aB6(f aj a ca sa xa ga:Int)(HF:oI f aj a O)(eH:bP f a ca sa xa ga)(jk:bQ ca sa xa ga Z)(e1:(ca==0)=Z)(e2:sa=1)(z fl:Int)(HL:oJ f z fl)(w:World):
  QB 67 #[J f,J aj,Y a] w (aP z fl):=by
 subst e2;go_enter func67,ntmps67;go_wp2_with (first|(go_at_call 139;refine kw (HF _) ?_)|(go_at_call 126;first|(with_reducible refine ku (eH.out _) λw1 ak=>?_;have iO:=ak.bG w;have lF:=au iO.1))|(go_at_call 140;first|(with_reducible refine ku (jk.out _) λva aO=>?_;have:=aO.bG w;have:=aO.fG w1))|(go_at_call 136;refine ku (HL _) λw9 bM=>?_;have iQ:=bM.bG w))
 exact dI (by simp[results,Tryz.results67,go_sem,iQ])
def aB8(f aj a ca sa xa ga:Int)(HF:oI f aj a O)(eH:bP f a ca sa xa ga)(jk:bQ ca sa xa ga Z)(e1:ca=2)(e2:sa=0)(z fl:Int)(HL:EC f 0 z fl)(w:World):
  QB 67 #[J f,J aj,Y a] w (aP z fl):=by
 subst e1 e2;go_enter func67,ntmps67;go_wp2_with (first|(go_at_call 139;refine kw (HF _) ?_)|(go_at_call 126;first|(with_reducible refine ku (eH.out _) λw1 ak=>?_;have iO:=ak.bG w;have lF:=au iO.1))|(go_at_call 140;first|(with_reducible refine ku (jk.out _) λva aO=>?_;have:=aO.bG w;have:=aO.fG w1))|(go_at_call 142;refine ku (HL _) λw9 bM=>?_;have iQ:=bM.bG w))
 exact dI (by simp[results,Tryz.results67,go_sem,iQ])
def aB5(f aj a ca sa xa ga:Int)(HF:oI f aj a O)(eH:bP f a ca sa xa ga)(jk:bQ ca sa xa ga Z)(e1:ca=1)(e2:sa=0)(A:Nat)(e3:ga=(A:Int))(hA:aG A)(x0:-50000<=xa)(x1:xa<=50000)(p:Int)(p0:0<=p)(p1:p<=60)(HP:KW 116 #[J f] (J p))(P:Nat)(P0 d0 d q r0:Int)(hP0:p+8=P0)(JJ:xa-P0=d0)(tK:d0.tmod 2=r0)(qU:(r0 != 0)=O)(hP:P0+1=(P:Int))(hPb:P<=70)(hd:xa-(P:Int)=d)(hq:d.tdiv 2=q)(hqw:wrap64 q=q)(rest:Bool)(z0:Int)(hz:(z0 != 0)=rest)(Rt:Nat)(HRt:Hid (∀v w,aH 8 w v (A*2^P)->CT 151 #[v] w (sV 8 Rt w)))(HCm:Hid (∀v v' w,aH 16 w v (Rt*Rt)->aH 8 w v' (A*2^P)->QB 133 #[v,v'] w (J z0)))(Q:Int->Int->Prop)(HR:Hid (∀v w,aH 8 w v Rt->CT 138 #[J f,J aj,.agg #[J 0,v,J q,.bool rest]] w (Dy Q w)))(w:World):
  CT 67 #[J f,J aj,Y a] w (Dy Q w):=by
 subst e1 e2 e3;have HB:Hid (∀w,CT 132 #[Y (A:Int)] w (sV 2 A w)):=λw=>dY (gY A hA w);have HS:Hid (∀v w,aH 2 w v A->CT 150 #[v,J (P:Int)] w (sV 8 (A*2^P) w)):=λv w ⟨n,a1,a2⟩=>dY ((gX a2 om P om).mono (λe w' ⟨v,k,c1,c2,c3,c4⟩=>⟨v,k,c1,c2,om,c4⟩));have HM:Hid (∀v w,aH 8 w v Rt->CT 152 #[v,v] w (sV 16 (Rt*Rt) w)):=λv w ⟨n,a1,a2⟩=>dY ((zQ a2 om a2 om).mono (λe w' ⟨v,k,c1,c2,c3,c4⟩=>⟨v,k,c1,c2,om,c4⟩));generalize A*2^P=X at*
 generalize Rt*Rt=XX at*
 have aSE:(P:Int)<=70:=om;have hpn:-100<=P0:=om;have hpm:P0<=100:=om;exact aKQ
def YT(f aj a ca sa xa ga:Int)(HF:oI f aj a O)(eH:bP f a ca sa xa ga)(jk:bQ ca sa xa ga Z)(e1:ca=1)(e2:sa=0)(A:Nat)(e3:ga=(A:Int))(hA:aG A)(x0:-50000<=xa)(x1:xa<=50000)(p:Int)(p0:0<=p)(p1:p<=60)(HP:KW 116 #[J f] (J p))(P:Nat)(d q r0:Int)(hP0:p+8=(P:Int))(hPb:P<=70)(hd:xa-(P:Int)=d)(tK:d.tmod 2=r0)(qU:(r0 != 0)=Z)(hq:d.tdiv 2=q)(hqw:wrap64 q=q)(rest:Bool)(z0:Int)(hz:(z0 != 0)=rest)(Rt:Nat)(HRt:Hid (∀v w,aH 8 w v (A*2^P)->CT 151 #[v] w (sV 8 Rt w)))(HCm:Hid (∀v v' w,aH 16 w v (Rt*Rt)->aH 8 w v' (A*2^P)->QB 133 #[v,v'] w (J z0)))(Q:Int->Int->Prop)(HR:Hid (∀v w,aH 8 w v Rt->CT 138 #[J f,J aj,.agg #[J 0,v,J q,.bool rest]] w (Dy Q w)))(w:World):
  CT 67 #[J f,J aj,Y a] w (Dy Q w):=by
 subst e1 e2 e3;have HB:Hid (∀w,CT 132 #[Y (A:Int)] w (sV 2 A w)):=λw=>dY (gY A hA w);have HS:Hid (∀v w,aH 2 w v A->CT 150 #[v,J (P:Int)] w (sV 8 (A*2^P) w)):=λv w ⟨n,a1,a2⟩=>dY ((gX a2 om P om).mono (λe w' ⟨v,k,c1,c2,c3,c4⟩=>⟨v,k,c1,c2,om,c4⟩));have HM:Hid (∀v w,aH 8 w v Rt->CT 152 #[v,v] w (sV 16 (Rt*Rt) w)):=λv w ⟨n,a1,a2⟩=>dY ((zQ a2 om a2 om).mono (λe w' ⟨v,k,c1,c2,c3,c4⟩=>⟨v,k,c1,c2,om,c4⟩));generalize A*2^P=X at*
 generalize Rt*Rt=XX at*
 have aSE:(P:Int)<=70:=om;exact aKQ
def Qq(h:isC mu inv scale=O):decide (mu%9223372036854775808<=4787326403894837248)=O/\(decide (vC<=inv)&&decide (inv<=4607182418800017408))=O/\(decide (0<scale)&&decide (scale<=4607182418800017408))=O:=by
 unfold isC at h;rw[Bool.and_eq_true,Bool.and_eq_true]at h;exact⟨h.1.1,h.1.2,h.2⟩
structure Mid (w:World) (b g:Nat) (u k:Int):Prop where
 c0:aA w g 0 (J 0)
 c1:aA w g 1 (J 0)
 c2:aA w g 2 (J u)
 c3:aA w g 3 (J k)
 z0:dB w g 0
 z1:dB w g 1
 z2:dB w g 2
 z3:dB w g 3
 r0:aA w b 0 (J 0)
 r1:aA w b 1 (J 0)
 r2:aA w b 2 (J 0)
 r3:aA w b 3 (J 0)
 y0:dB w b 0
 y1:dB w b 1
 y2:dB w b 2
 y3:dB w b 3
def Mid.gb(h:Mid w b g u k)(hg:Gb w w'):Mid w' b g u k:=
 ⟨hg.old h.c0,hg.old h.c1,hg.old h.c2,hg.old h.c3,hg.FT h.c0 h.z0,hg.FT h.c1 h.z1,hg.FT h.c2 h.z2,hg.FT h.c3 h.z3,hg.old h.r0,hg.old h.r1,hg.old h.r2,hg.old h.r3,hg.FT h.r0 h.y0,hg.FT h.r1 h.y1,hg.FT h.r2 h.y2,hg.FT h.r3 h.y3⟩
def Mid.next(h:Mid w b g u k)(hb:g≠b)(u' k':Int):Mid ((w.setCell ⟨g,2,none⟩ (J u')).setCell ⟨g,3,none⟩ (J k')) b g u' k':=
  ⟨bI de (bI de h.c0),bI de (bI de h.c1),bI de (dn (jS h.c2)),dn (has_set (jS h.c3)),
   bf (bf h.z0),bf (bf h.z1),bf (bf h.z2),bf (bf h.z3),
   aS hb (aS hb h.r0),aS hb (aS hb h.r1),aS hb (aS hb h.r2),aS hb (aS hb h.r3),bf (bf h.y0),bf (bf h.y1),bf (bf h.y2),bf (bf h.y3)⟩
structure Rs (w:World) (b:Nat):Prop where
 r0:aA w b 0 (J 0)
 r1:aA w b 1 (J 0)
 r2:aA w b 2 (J 0)
 r3:aA w b 3 (J 0)
 y0:dB w b 0
 y1:dB w b 1
 y2:dB w b 2
 y3:dB w b 3
def Rs.gb(h:Rs w b)(hg:Gb w w'):Rs w' b:=
 ⟨hg.old h.r0,hg.old h.r1,hg.old h.r2,hg.old h.r3,hg.FT h.r0 h.y0,hg.FT h.r1 h.y1,hg.FT h.r2 h.y2,hg.FT h.r3 h.y3⟩
def aFu(w:World):Rs (w.alloc (.cells #[J 0,J 0,J 0,J 0] 90)) w.heap.size:=
 ⟨kb,kb,kb,kb,kb,kb,kb,kb⟩
def aI8(h:Rs w b)(v:Int):b<w.heap.size/\Mid (w.alloc (.cells #[J 0,J 0,J 0,J 0] 90)) b w.heap.size 0 0:=by
 obtain⟨r0,r1,r2,r3,y0,y1,y2,y3⟩:=h;exact⟨au r0,⟨kb,kb,kb,kb,kb,kb,kb,kb,kb,kb,kb,kb,kb,kb,kb,kb⟩⟩
def aJD(h:Rs w b)(v0 v1 v2 v3:Value):let w':=(((w.setCell ⟨b,0,none⟩ v0).setCell ⟨b,1,none⟩ v1).setCell ⟨b,2,none⟩ v2).setCell ⟨b,3,none⟩ v3
  aA w' b 0 v0/\aA w' b 1 v1/\aA w' b 2 v2/\aA w' b 3 v3:=
 ⟨bI de (bI de (bI de (dn (jS h.r0)))),bI de (bI de (dn (has_set (jS h.r1)))),bI de (dn (has_set (has_set (jS h.r2)))),dn (has_set (has_set (has_set (jS h.r3))))⟩
def Mid.rs(h:Mid w b g u k)(hb:g≠b)(o:Nat)(v:Value):Rs (w.setCell ⟨g,o,none⟩ v) b:=
 ⟨aS hb h.r0,aS hb h.r1,aS hb h.r2,aS hb h.r3,bf h.y0,bf h.y1,bf h.y2,bf h.y3⟩
def aGZ(h:Gb w x)(hb:w.heap.size<=b)(hg:w.heap.size<=g)(o:Nat)(v v0 v1 v2 v3:Value):Gb w (((((x.setCell ⟨g,o,none⟩ v).setCell ⟨b,0,none⟩ v0).setCell ⟨b,1,none⟩ v1).setCell ⟨b,2,none⟩ v2).setCell ⟨b,3,none⟩ v3):=
 ((((h.setCell hg _).setCell hb _).setCell hb _).setCell hb _).setCell hb _
def pR(w:World)(g:Nat):Nat:=match w.cell? ⟨g,2,none⟩with
 |some (.int _ u)=>u.toNat
 |_=>0
def RG{o:O7}(H:o.S)(HI:o.In)(hm:Wo mu)(hi:Wo inv)(hs:Wo scale)(s:ByteArray)(hz:s.size<=20000)(hn:isC mu inv scale=O)(w:World):
  CT 56 #[Y mu,Y inv,Y scale,.string s] w λe w'=>∃r,Tried (o.Jf mu inv scale s) (o.zAt mu s) s.size r/\e=.returned (O1 r)/\Gb w w':=by
 have hf:=sU;obtain⟨i1,i2,i3⟩:=Qq hn;obtain⟨c1,s1,x1,g1,u1,U1⟩:=H.unp hm;obtain⟨c2,s2,x2,g2,u2,U2⟩:=H.unp hi;obtain⟨c3,s3,x3,g3,u3,U3⟩:=H.unp hs;have e1:=aQo hm u1;have e2:=aL0 hi u2;have e3:=aQn hs u3;rw[i1]at e1;rw[i2]at e2;rw[i3,Bool.and_eq_true]at e3;have hf3:∀w,(Instr.field 129 (d_ c3 s3 x3 g3) 0).run Tryz.prog w=.ok (J c3) w:=λw=>by kernel_rfl
 have B1:KB 125 #[Y mu,J (-2199023255552),J 2199023255552] (.bool O):=sK H HI hm _ _ _ _ om om om om H.k1 H.k2 U1 _ e1.symm;have B2:KB 125 #[Y inv,J 1,J 2] (.bool O):=sK H HI hi _ _ _ _ om om om om H.k3 H.k4 U2 _ e2.symm;have B3:KB 125 #[Y scale,J 0,J 2] (.bool O):=sK H HI hs _ _ _ _ om om om om H.k5 H.k4 U3 _ e3.1.symm;have hc3:(c3==0)=Z:=by have:=e3.2;simpa using this
 have uF:¬(20000:Int)<s.size:=om;have sc:0<=scale/\scale<9223372036854775808:=by rw[Bool.and_eq_true,decide_eq_true_eq,decide_eq_true_eq]at i3;omega
 have HR:Hid (∀w,CT 71 #[J 1,J 4,Y mu,.bool Z] w λe w'=>∃fl:Int,e=.returned (aP (o.jW mu) fl)/\Gb w w'):=H.jW.out mu hm;have HA:KB 127 #[Y mu,Y (o.jW mu)] (Y (o.above mu)):=H.minus.out _ _ hm (HI.jW hm);have X5:KB 112 #[Y inv,Y inv] (Y (o.mul inv inv)):=H.times.out _ _ hi hi;have Gf:KB 112 #[Y (o.mul inv inv),Y vC] (Y (o.narrow inv)):=H.times.out _ _ (HI.mul hi hi) (Wo.c _);have HH:=H.half;have hr:=HI.sub hm (HI.jW hm);have hh:=HI.mul (HI.mul hi hi) (Wo.c vC);have HT:Hid (∀w,CT 69 #[J 1,J 0,J 1,Y (o.jW mu)] w λe w'=>∃fl:Int,e=.returned (aP (o.whole (o.jW mu)) fl)/\Gb w w'):=H.whole.out _ (HI.jW hm);have HX:Hid (∀k,17*k+17<=s.size->∀w,QB 130 #[J (Um (jU (num s (17*k) 8)) (g_ s (17*k+8))),J (jU (num s (17*k) 8):Nat),Y (o.above mu),Y (o.narrow inv),Y scale,Y (num s (17*k+9) 8)] w (.bool (o.Jf mu inv scale s k))):=λk hk w=>by
  have n:=Eu (num s (17*k) 8);have zz:=Yc _ (g_ s (17*k+8)) n;exact aDS H HI _ _ n zz.1 zz.2 hr hh sc.1 sc.2 (Qa s _) w
 have HZ:Hid (∀k,o.zAt mu s k=wrap64 (Um (jU (num s (17*k) 8)) (g_ s (17*k+8))+wrap64 (o.whole (o.jW mu)))):=λk=>rfl;generalize o.whole (o.jW mu)=T at*
 generalize o.Jf mu inv scale s=acc at*
 generalize o.zAt mu s=zz at*
 generalize o.narrow inv=h at*
 generalize o.above mu=r at*
 generalize o.mul inv inv=ii at*
 generalize o.jW mu=rm at*
 clear H HI hn i1 i2 i3 u1 u2 u3 U1 U2 e1 e2 e3 hm hi hs sc hr hh;go_enter func56,ntmps56;go_upto_region 4 with(first|(go_at_call 125;first|(with_reducible refine ku (B1.out _) λw1 ak=>?_)|(with_reducible refine ku (B2.out _) λw2 aB=>?_)|(with_reducible refine ku (B3.out _) λw3 aK=>?_))|(go_at_call 126;refine ku (U3 _) λw4 aV=>?_))
 have G4:Hid (Gb (w.alloc (.cells #[J 0,J 0,J 0,J 0] 90)) w4):=(show Gb _ w4 from kg);clear ak aB aK aV;go_upto_region 5 with(go_at_call 71;refine(HR _).mono ?_;rintro e w5 ⟨f5,rfl,bJ⟩);go_upto_region 6 with(go_at_call 127;refine ku (HA _) λw6 fK=>?_);go_upto_region 7 with(first|(go_at_call 112;first|(with_reducible refine ku (X5.out _) λw7 ji=>?_)|(with_reducible refine ku (Gf.out _) λw9 bM=>?_))|(go_at_call 113;refine ku (HH _) λw8 WX=>?_))
 have G9:Hid (Gb (w.alloc (.cells #[J 0,J 0,J 0,J 0] 90)) w9):=(show Gb _ w9 from by have:=G4.out;exact kg);clear bJ fK ji WX bM;go_wp2;clear HA X5 Gf HH HR B1 B2 B3 U3 hf3;obtain⟨hbg,hM0⟩:=aI8 ((aFu w).gb G9.out) 0;have HM0:Hid _:=hM0;have G0:Hid (Gb w w9):=(show Gb w w9 from by have:=G9.out;exact kg);clear hM0 G4 G9;obtain⟨g,hg⟩:=dK (w9.heap.size);rw[hg]at hbg HM0⊢
 have dH:g≠w.heap.size:=om;obtain⟨b,hwb⟩:=dK (w.heap.size);rw[hwb]at hbg HM0 dH⊢
 go_loopw [14] (λ_ wr=>∃k:Nat,17*k<=s.size/\(∀j,j<k->acc j=Z)/\Mid wr b g (17*(k:Int)) k/\Gb w9 wr) (λ_ wr=>s.size+17-pR wr g)
 case atStart=>exact⟨0,om,λj hj=>absurd hj om,HM0.out,kg⟩
 case round=>
  obtain⟨k,hk,ha,hM,hG⟩:=hrel
  rename_i wr
  have HA:Hid (∀j,j<k->acc j=Z):=ha;have HG:Hid (Gb w9 wr):=hG;obtain⟨u,hu⟩:=dK (17*(k:Int));rw[hu]at hM;have HM:Hid (Mid wr b g u k):=hM;have p2:=hM.c2;have HU:Hid (pR wr g=u.toNat):=by show _=_;simp only[pR,p2]
  clear ha hG HM0;by_cases rG:u+17<=(s.size:Int)
  .have hn:=Eu (num s (17*k) 8);have aNi:=Qa s (17*k);have D1:KW 129 #[.string s,J u] (Y (num s (17*k) 8)):=λw=>by rw[<-hu];exact aHc s (17*k) om om w
   have D2:KW 129 #[.string s,J (u+9)] (Y (num s (17*k+9) 8)):=λw=>by rw[<-hu];exact aHc s (17*k+9) om om w
   have HB:KR 128 #[Y (num s (17*k) 8)] (J (jU (num s (17*k) 8):Nat)):=aNY _ aNi.1 aNi.2;have q:∀w,(Instr.index 9 (.string s) (J (u+8))).run Tryz.prog w=.ok (.int .u8 (g_ s (17*k+8))) w:=λw=>by rw[<-hu];exact jO s (17*k+8) om w
   have Dh:=xQ s (17*k+8);have HXk:=HX k om;have HZk:=HZ k;have hzd:Um (jU (num s (17*k) 8)) (g_ s (17*k+8))=if g_ s (17*k+8)%2=1 then((jU (num s (17*k) 8):Nat):Int)+1 else-((jU (num s (17*k) 8):Nat):Int):=rfl
   generalize jU (num s (17*k) 8)=n at*
   generalize num s (17*k) 8=uu at*
   generalize num s (17*k+9) 8=vv at*
   generalize g_ s (17*k+8)=cc at*
   obtain⟨zv,hzv⟩:=dK (Um n cc);rw[hzv]at hzd HXk HZk;have HXX:Hid _:=HXk;have HZZ:Hid _:=HZk;have HN:Hid (17*(k+1)<=s.size):=(show _<=_ by omega);clear HXk HZk HX HZ hzv aNi;rcases(show(cc%2=1/\zv=(n:Int)+1)\/(cc%2=0/\zv=-(n:Int)) by
    by_cases h:cc%2=1
    .exact .inl ⟨h,by rw[hzd,if_pos h]⟩
    .exact .inr ⟨om,by rw[hzd,if_neg h]⟩)with⟨w_,rfl⟩|⟨w_,rfl⟩
   all_goals
    clear hzd hM;go_upto_region 10 with(first|(go_at_call 129;refine(D1 _).mono ?_;rintro e w' ⟨rfl,hw⟩;subst hw)|(go_at_call 128;refine ku (HB _) λwa tY=>?_))
    have HMa:Hid (Mid wa b g u k):=HM.out.gb tY.gb;have HGa:Hid (Gb w9 wa):=HG.out.trans tY.gb;have pa2:=HMa.out.c2;have pa3:=HMa.out.c3;have za2:=HMa.out.z2;have za3:=HMa.out.z3;clear p2 HM HG tY;go_upto_region 14 with(go_at_call 129;refine(D2 _).mono ?_;rintro e w' ⟨rfl,hw⟩;subst hw);cases aAb:acc k
    .rw[aAb]at HXX;go_wp2_with (go_at_call 130;refine ku (HXX _) λwb o_=>?_);have hMb:=(HMa.out.next dH (u+17) ((k:Int)+1)).gb o_;go_roundw
     case rel=>
      refine⟨k+1,HN.out,λj hj=>?_,by rw[(om:17*((k+1:Nat):Int)=u+17)];exact hMb,by have:=HGa.out;exact kg⟩;rcases Nat.lt_or_ge j k with h|h
      .exact HA j h
      .obtain rfl:j=k:=om;exact aAb
     case measure=>
      have h1:=HU.out;have p2:=hMb.c2;have h2:pR wb g=(u+17).toNat :=by simp only[pR,p2]
      show s.size+17-pR wb g<s.size+17-pR wr g;omega
    .rw[aAb]at HXX;go_upto_region 17 with(go_at_call 130;refine ku (HXX _) λwb o_=>?_);have HMb:Hid (Mid wb b g (u+17) ((k:Int)+1)):=(HMa.out.next dH (u+17) ((k:Int)+1)).gb o_;have HGb:Hid (Gb w9 wb):=(show Gb w9 wb from by have:=HGa.out;exact kg);clear HMa HGa pa2 pa3 za2 za3 o_;go_upto_region 18 with(go_at_call 69;refine(HT _).mono ?_;rintro e wc ⟨f6,rfl,aGL⟩;have HMc:Hid (Mid wc b g (u+17) ((k:Int)+1)):=HMb.out.gb aGL;obtain⟨p0,p1,p2,p3,pz0,pz1,pz2,pz3,r0,r1,r2,r3,rz0,rz1,rz2,rz3⟩:=HMc.out);clear HMb HT HU HXX HB D1 D2 q;go_wp2;have hw:zz k=wrap64 (_+wrap64 T):=HZZ.out;rw[<-hw];obtain⟨e0,e1,e2,e3⟩:=aJD (HMc.out.rs dH 1 (J (zz k))) (J 0) (J (zz k)) (J (u+17)) (J ((k:Int)+1));refine bodyPost_ret (v:=O1 ⟨0,zz k,u+17,(k:Int)+1⟩) (by simp[results,Tryz.results56,go_sem,e0,e1,e2,e3]) rfl ⟨_,.inl ⟨k,by have:=HN.out;omega,aAb,HA.out,by rw[<-hu]⟩,rfl,?_⟩;exact aGZ (G0.out.trans (HGb.out.trans aGL)) om om _ _ _ _ _ _
  .have HN:Hid (s.size<17*k+17):=(show _<_ by omega);clear HX HZ HT;obtain⟨p0,p1,p2,p3,pz0,pz1,pz2,pz3,r0,r1,r2,r3,rz0,rz1,rz2,rz3⟩:=hM;go_wp2;obtain⟨e0,e1,e2,e3⟩:=aJD (HM.out.rs dH 0 (J 2)) (J 2) (J 0) (J u) (J k);refine bodyPost_ret (v:=O1 ⟨2,0,u,(k:Int)⟩) (by simp[results,Tryz.results56,go_sem,e0,e1,e2,e3]) rfl ⟨_,.inr ⟨k,HN.out,hk,HA.out,by rw[<-hu]⟩,rfl,?_⟩;exact aGZ (G0.out.trans HG.out) om om _ _ _ _ _ _
def aKN{P:Prop}(h:P:=by
 go_enter func68,ntmps68;go_wp2_with (first|(go_at_call 139;refine kw (HF _) ?_)|(go_at_call 126;first|(with_reducible refine ku (eH.out _) λw1 ak=>?_;have iO:=ak.bG w;have lF:=au iO.1)|(with_reducible refine ku (fP.out _) λw2 aB=>?_;have jw:=aB.bG w;have:=aB.Ko w1;have iR:=au jw.1))|(go_at_call 140;first|(with_reducible refine ku (jk.out _) λva aO=>?_;have:=aO.bG w;have:=aO.fG w1;have:=aO.fG w2)|(with_reducible refine ku (lD.out _) λvb bC=>?_;have aFK:=bC.bG w;have:=bC.fG w1;have:=bC.fG w2)))
 exact dI (by simp[results,Tryz.results68,go_sem,aFK])):P:=h
def aKO{P:Prop}(h:P:=by
 go_enter func68,ntmps68;go_wp2_with (first|(go_at_call 139;refine kw (HF _) ?_)|(go_at_call 126;first|(with_reducible refine ku (eH.out _) λw1 ak=>?_;have iO:=ak.bG w;have lF:=au iO.1)|(with_reducible refine ku (fP.out _) λw2 aB=>?_;have jw:=aB.bG w;have:=aB.Ko w1;have iR:=au jw.1))|(go_at_call 140;first|(with_reducible refine ku (jk.out _) λva aO=>?_;have:=aO.bG w;have:=aO.fG w1;have:=aO.fG w2)|(with_reducible refine ku (lD.out _) λvb bC=>?_;have:=bC.bG w;have:=bC.fG w1;have:=bC.fG w2))|(go_at_call 136;refine ku (HL _) λw9 bM=>?_;have iQ:=bM.bG w))
 exact dI (by simp[results,Tryz.results68,go_sem,iQ])):P:=h
def aKP{P:Prop}(h:P:=by
 go_enter func68,ntmps68;go_wp2_with (first|(go_at_call 139;refine kw (HF _) ?_)|(go_at_call 126;first|(with_reducible refine ku (eH.out _) λw1 ak=>?_;have iO:=ak.bG w;have lF:=au iO.1)|(with_reducible refine ku (fP.out _) λw2 aB=>?_;have jw:=aB.bG w;have:=aB.Ko w1;have iR:=au jw.1))|(go_at_call 140;first|(with_reducible refine ku (jk.out _) λva aO=>?_;have:=aO.bG w;have:=aO.fG w1;have:=aO.fG w2)|(with_reducible refine ku (lD.out _) λvb bC=>?_;have:=bC.bG w;have:=bC.fG w1;have:=bC.fG w2))|(go_at_call 141;refine ku (HL _) λw9 bM=>?_;have iQ:=bM.bG w))
 exact dI (by simp[results,Tryz.results68,go_sem,iQ])):P:=h
def aEl{P:Prop}(h:P:=by
 go_enter func68,ntmps68;go_wp2_with (first|(go_at_call 139;refine kw (HF _) ?_)|(go_at_call 126;first|(with_reducible refine ku (eH.out _) λw1 ak=>?_;have iO:=ak.bG w;have lF:=au iO.1)|(with_reducible refine ku (fP.out _) λw2 aB=>?_;have jw:=aB.bG w;have:=aB.Ko w1;have iR:=au jw.1))|(go_at_call 140;first|(with_reducible refine ku (jk.out _) λva aO=>?_;have:=aO.bG w;have:=aO.fG w1;have:=aO.fG w2))|(go_at_call 141;refine ku (HL _) λw9 bM=>?_;have iQ:=bM.bG w))
 exact dI (by simp[results,Tryz.results68,go_sem,iQ])):P:=h
def Vo(f a b:Int)(HF:dG f 0 a b Z)(z fl:Int)(HL:oJ f z fl)(w:World):
  Ol f a b w z fl:=by
 go_enter func68,ntmps68;go_wp2_with (first|(go_at_call 139;refine kw (HF _) ?_)|(go_at_call 136;refine ku (HL _) λw9 bM=>?_;have iQ:=bM.bG w))
 exact dI (by simp[results,Tryz.results68,go_sem,iQ])
def aCd(f a b ca sa xa ga cb sb xb gb:Int)(HF:dG f 0 a b O)(eH:bP f a ca sa xa ga)(fP:bP f b cb sb xb gb)(jk:bQ ca sa xa ga O)(e4:(ca==4)=O)(z fl:Int)(HL:oU f O z fl)(w:World):
  Ol f a b w z fl:=by
 exact aEl
def aCc(f a b ca sa xa ga cb sb xb gb:Int)(HF:dG f 0 a b O)(eH:bP f a ca sa xa ga)(fP:bP f b cb sb xb gb)(jk:bQ ca sa xa ga O)(e4:(ca==4)=Z)(t:Bool)(e5:(cb==4)=t)(z fl:Int)(HL:oU f t z fl)(w:World):
  Ol f a b w z fl:=by
 cases t
 .exact aEl
 .exact aEl
def aCb(f a b ca sa xa ga cb sb xb gb:Int)(HF:dG f 0 a b O)(eH:bP f a ca sa xa ga)(fP:bP f b cb sb xb gb)(jk:bQ ca sa xa ga Z)(lD:bQ cb sb xb gb O)(e4:(ca==4)=Z)(t:Bool)(e5:(cb==4)=t)(z fl:Int)(HL:oU f t z fl)(w:World):
  Ol f a b w z fl:=by
 cases t
 .exact aKP
 .exact aKP
def aCf(f a b ca sa xa ga cb sb xb gb:Int)(HF:dG f 0 a b O)(eH:bP f a ca sa xa ga)(fP:bP f b cb sb xb gb)(jk:bQ ca sa xa ga Z)(lD:bQ cb sb xb gb Z)(e1:ca=2)(z fl:Int)(HL:oJ f z fl)(w:World):
  Ol f a b w z fl:=by
 subst e1;exact aKO
def aCe(f a b ca sa xa ga cb sb xb gb:Int)(HF:dG f 0 a b O)(eH:bP f a ca sa xa ga)(fP:bP f b cb sb xb gb)(jk:bQ ca sa xa ga Z)(lD:bQ cb sb xb gb Z)(e1:(ca==2)=Z)(e2:cb=0)(z fl:Int)(HL:oJ f z fl)(w:World):
  Ol f a b w z fl:=by
 subst e2;exact aKO
def aCa(f a b ca sa xa ga cb sb xb gb:Int)(HF:dG f 0 a b O)(eH:bP f a ca sa xa ga)(fP:bP f b cb sb xb gb)(jk:bQ ca sa xa ga Z)(lD:bQ cb sb xb gb Z)(e1:ca=0)(e2:(cb==0)=Z)(w:World):
  QB 68 #[J f,Y a,Y b] w (aP a 0):=by
 subst e1;exact aKN
def aFm(f a b ca sa xa ga cb sb xb gb:Int)(HF:dG f 0 a b O)(eH:bP f a ca sa xa ga)(fP:bP f b cb sb xb gb)(jk:bQ ca sa xa ga Z)(lD:bQ cb sb xb gb Z)(e1:ca=1)(e2:cb=2)(w:World):
  QB 68 #[J f,Y a,Y b] w (aP a 0):=by
 subst e1 e2;exact aKN
structure aQH (w wa wb wx:World) (sa xa A sb xb B:Int):Prop where
 g:Gb w wx:=by exact kg
 r0:aA wx w.heap.size 0 (Y 0):=by exact kh
 r0z:dB wx w.heap.size 0:=by exact kb
 r1:aA wx w.heap.size 1 (J 0):=by exact kh
 r1z:dB wx w.heap.size 1:=by exact kb
 a1:aA wx wa.heap.size 1 (J sa):=by exact kh
 a2:aA wx wa.heap.size 2 (J xa):=by exact kh
 a3:aA wx wa.heap.size 3 (Y A):=by exact kh
 b1:aA wx wb.heap.size 1 (J sb):=by exact kh
 b2:aA wx wb.heap.size 2 (J xb):=by exact kh
 b3:aA wx wb.heap.size 3 (Y B):=by exact kh
