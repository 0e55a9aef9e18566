import Derived.Test.YthoelefkjpjhfaaGreatDoorG9
import Derived.Test.YthoelefkjpjhfaaGreatDoorM6
set_option linter.all false
set_option maxRecDepth 1000000
set_option maxHeartbeats 40000000
open Bool renaming false → Z, true → O
open Go.Proofs.YthoelefkjpjhfaaGreatDoor renaming vI → J, vU → Y
open Go.Proofs.Tryz
namespace Go.Proofs.YthoelefkjpjhfaaGreatDoor
open Go.RowKit
variable {w w' x:ak}{b g K N c L N':Nat}{u k mu inv scale f p mx one aN sg nan:Int}{v v':Value}
def aMh{P:Prop}(h:P:=by
 refine gY (v:=.agg #[J 1,aF b2 k2 cc2,J z,.bool Z]) (by simp[results,results147,go_sem,lJ];rfl) rfl ⟨b2,k2,cc2,?_,rfl,?_⟩
 .exact Py.st4 lJ.1 lJ.2.2.1 lJ.2.2.2.2.1 lJ.2.2.2.2.2.2.1
 .exact Gb.g):P:=h
def aMi{P:Prop}(h:P:=by
 refine gY (v:=.agg #[J 0,aF b2 k2 cc2,J z,.bool Z]) (by simp[results,results147,go_sem,lJ];rfl) rfl ⟨b2,k2,cc2,?_,rfl,?_⟩
 .exact Py.st4 lJ.1 lJ.2.2.1 lJ.2.2.2.2.1 lJ.2.2.2.2.2.2.1
 .exact Gb.g):P:=h
attribute [local go_sem] aB dL
def Dx(c s x c' s' x':Int)(G G':Nat)(hG:aI G)(hG':aI G')(hs:s=0\/s=1)(YA:s'=0\/s'=1)(x0:-50000<=x)(x1:x<=50000)(y0:-50000<=x')(y1:x'<=50000)(w:ak):
  CT 147 #[fG c s x ((G:Nat)),fG (c') (s') (x') ((G':Nat))] w λe w'=>∃b k cc,aK 4 w' (aF b k cc) (G*G')/\e=.returned (.agg #[J (mulS s s'),aF b k cc,J (x+x'),.bool Z])/\Gb w w':=by
 have HB:Hid (∀(H:Nat) w,aI H->CT 132 #[Y (H:Nat)] w (vO 2 H w)):=λH w hH=>fE (iO H hH w);have HM:Hid (∀v v' (N N':Nat) w,aK 2 w v N->aK 2 w v' N'->CT 152 #[v,v'] w (vO 4 (N*N') w)):=λv v' N N' w ⟨n,a1,a2⟩ ⟨n',b1,b2⟩=>fE ((BX a2 om b2 om).mono (λe w' ⟨v,k,c1,c2,c3,c4⟩=>⟨v,k,c1,c2,om,c4⟩));have u1:IntKind.i64.wrap (x+x')=x+x':=by rw[dI];omega
 obtain⟨z,hz⟩:=dP (x+x');rw[hz]at u1⊢
 have u2:IntKind.i64.wrap (x+x')=z:=by rw[hz];exact u1
 clear u1 hz;rcases hs with rfl|rfl<;>rcases YA with rfl|rfl
 .go_enter func147,ntmps147;go_wp2;go_region_held3 (λw'=>jU w' w.heap.size 1 2 3 (J 0) (J x) (Y (G:Nat))/\jU w' (w.heap.size+1) 1 2 3 (J 0) (J x') (Y (G':Nat)))(exact qj)(first|(go_at_call 132;refine(HB _ _ (by assumption)).mono ?_;rintro e w1 ⟨b,k,cc,oz,rfl,au⟩;have:=au.Aq w)|(go_at_call 152;refine(HM _ _ _ _ _ (aK.gb (by assumption) Gb.g) (aK.gb (by assumption) Gb.g)).mono ?_;rintro e w2 ⟨b2,k2,cc2,Py,rfl,aC⟩;have lJ:=aC.Aq w))
  all_goals go_wp2
  all_goals
   exact aMi
 .go_enter func147,ntmps147;go_wp2;go_region_held3 (λw'=>jU w' w.heap.size 1 2 3 (J 0) (J x) (Y (G:Nat))/\jU w' (w.heap.size+1) 1 2 3 (J 1) (J x') (Y (G':Nat)))(exact qj)(first|(go_at_call 132;refine(HB _ _ (by assumption)).mono ?_;rintro e w1 ⟨b,k,cc,oz,rfl,au⟩;have:=au.Aq w)|(go_at_call 152;refine(HM _ _ _ _ _ (aK.gb (by assumption) Gb.g) (aK.gb (by assumption) Gb.g)).mono ?_;rintro e w2 ⟨b2,k2,cc2,Py,rfl,aC⟩;have lJ:=aC.Aq w))
  all_goals go_wp2
  all_goals
   exact aMh
 .go_enter func147,ntmps147;go_wp2;go_region_held3 (λw'=>jU w' w.heap.size 1 2 3 (J 1) (J x) (Y (G:Nat))/\jU w' (w.heap.size+1) 1 2 3 (J 0) (J x') (Y (G':Nat)))(exact qj)(first|(go_at_call 132;refine(HB _ _ (by assumption)).mono ?_;rintro e w1 ⟨b,k,cc,oz,rfl,au⟩;have:=au.Aq w)|(go_at_call 152;refine(HM _ _ _ _ _ (aK.gb (by assumption) Gb.g) (aK.gb (by assumption) Gb.g)).mono ?_;rintro e w2 ⟨b2,k2,cc2,Py,rfl,aC⟩;have lJ:=aC.Aq w))
  all_goals go_wp2
  all_goals
   exact aMh
 .go_enter func147,ntmps147;go_wp2;go_region_held3 (λw'=>jU w' w.heap.size 1 2 3 (J 1) (J x) (Y (G:Nat))/\jU w' (w.heap.size+1) 1 2 3 (J 1) (J x') (Y (G':Nat)))(exact qj)(first|(go_at_call 132;refine(HB _ _ (by assumption)).mono ?_;rintro e w1 ⟨b,k,cc,oz,rfl,au⟩;have:=au.Aq w)|(go_at_call 152;refine(HM _ _ _ _ _ (aK.gb (by assumption) Gb.g) (aK.gb (by assumption) Gb.g)).mono ?_;rintro e w2 ⟨b2,k2,cc2,Py,rfl,aC⟩;have lJ:=aC.Aq w))
  all_goals go_wp2
  all_goals
   exact aMi
def Zk{k:Nat}(h:aK K w (aF b k c) N)(h0:N=0):k=0:=by
 obtain⟨n,hn,xk,hr⟩:=h;have e:n=k:=by obtain⟨_,b',c',hv,_⟩:=hr;cases hv;rfl
 rw[<-e];exact(xk.iff).2 h0
def BL{k:Nat}(h:aK K w (aF b k c) N)(h0:N≠0):0<k:=by
 obtain⟨n,hn,xk,hr⟩:=h;have e:n=k:=by obtain⟨_,b',c',hv,_⟩:=hr;cases hv;rfl
 rw[<-e];rcases jL n with c|c
 .exact bG ((xk.iff).1 c) h0
 .exact c
def PL(hK:K<=1000)(hL:L<=1000)(h:aK K w v N)(h':aK L w v' N')(h0:0<N'):
  CT 153 #[v,v'] w λe w'=>∃b k c b' k' c',aK K w' (aF b k c) (N/N')/\aK (L+1) w' (aF b' k' c') (N%N')/\e=.returned (.tuple #[aF b k c,aF b' k' c'])/\Gb w w':=by
 obtain⟨n,hn,hb⟩:=h;obtain⟨n',EH,Dq⟩:=h';refine(aEN hb om Dq om h0).mono ?_;rintro e w' ⟨q,r,k,k',rfl,hq,hr,hk,EI,hg⟩;obtain⟨b,c,rfl,_⟩:=Big.shape hq;obtain⟨b',c',rfl,_⟩:=Big.shape hr;exact⟨b,k,c,b',k',c',⟨k,om,hq⟩,⟨k',om,hr⟩,rfl,hg⟩
def Bg(h:bI f p mx one aN sg nan)(c s x c' s' x':Int)(A B:Nat)(hA:aI A)(hB:aI B)(Cm:0<B)(a0:0<=s)(a1:s<=1)(b0:0<=s')(b1:s'<=1)(sp:Int)(Dp:(s+s').tmod 2=sp)(LY:(s+s')%2=sp)(x0:-50000<=x)(x1:x<=50000)(y0:-50000<=x')(y1:x'<=50000)(P:Nat)(hP:(P:Int)=p+4)(w:ak):
  CT 149 #[J f,fG c s x ((A:Nat)),fG (c') (s') (x') ((B:Nat))] w λe w'=>∃b k cc,aK 8 w' (aF b k cc) (A*2^P/B)/\e=.returned (.agg #[J sp,aF b k cc,J (x-x'-P),.bool (decide (A*2^P%B≠0))])/\Gb w w':=by
 have hpb:p<=53/\24<=p:=by rcases h with h|h<;>omega
 have aWo:P<=57:=om;have HB:Hid (∀(H:Nat) w,aI H->CT 132 #[Y (H:Nat)] w (vO 2 H w)):=λH w hH=>fE (iO H hH w);have HS:Hid (∀v w,aK 2 w v A->CT 150 #[v,J (P:Int)] w (vO 8 (A*2^P) w)):=λv w ⟨n,a1,a2⟩=>fE ((iM a2 om P om).mono (λe w' ⟨v,k,c1,c2,c3,c4⟩=>⟨v,k,c1,c2,om,c4⟩));have HD:Hid (∀v v' w,aK 8 w v (A*2^P)->aK 2 w v' B->CT 153 #[v,v'] w λe w'=>∃b k c b' k' c',aK 8 w' (aF b k c) (A*2^P/B)/\aK 3 w' (aF b' k' c') (A*2^P%B)/\e=.returned (.tuple #[aF b k c,aF b' k' c'])/\Gb w w'):=λv v' w h1 h2=>PL om om h1 h2 Cm;have HP:KW 116 #[J f] (J p):=λw=>qG h w;have g1:p+4=(P:Int):=hP.symm;obtain⟨z,hz⟩:=dP (x-x'-(P:Int));rw[hz];clear hP h;by_cases hr:A*2^P%B=0
 .rw[show decide (A*2^P%B≠0)=Z by simp[hr]];have HR:Hid _:=hr;clear hr;generalize A*2^P%B=R at*
  generalize A*2^P/B=Qn at*
  generalize A*2^P=X at*
  go_enter func149,ntmps149;go_wp2_with (go_at_call 116;refine kw (HP _) ?_);go_region_held3 (λw'=>jU w' w.heap.size 1 2 3 (J s) (J x) (Y (A:Nat))/\jU w' (w.heap.size+1) 1 2 3 (J s') (J x') (Y (B:Nat)))(exact qj)(first|(go_at_call 132;refine(HB _ _ (by assumption)).mono ?_;rintro e w1 ⟨b,k,cc,oz,rfl,au⟩;have:=au.Aq w)|(go_at_call 150;refine(HS _ _ (aK.gb (by assumption) Gb.g)).mono ?_;rintro e w2 ⟨b2,k2,cc2,Py,rfl,aC⟩;have:=aC.Aq w)|(go_at_call 153;refine(HD _ _ _ (aK.gb (by assumption) Gb.g) (aK.gb (by assumption) Gb.g)).mono ?_;rintro e w3 ⟨b3,k3,cc3,b4,k4,cc4,aIi,aIh,rfl,aO⟩;have yZ:=aO.Aq w;have:=aO.e2 w.heap.size 1 2 _ _;have:=aO.e2 (w.heap.size+1) 1 2 _ _;obtain rfl:k4=0:=(Zk aIh HR.out)))
  all_goals go_wp2
  all_goals
   refine gY (v:=.agg #[J sp,aF b3 k3 cc3,J z,.bool Z]) (by simp[results,results149,go_sem,yZ]) rfl ⟨b3,k3,cc3,?_,rfl,?_⟩
   .exact aIi.st4 yZ.1 yZ.2.2.1 yZ.2.2.2.2.1 yZ.2.2.2.2.2.2.1
   .exact Gb.g
 .rw[show decide (A*2^P%B≠0)=O by simp[hr]];have HR:Hid (A*2^P%B≠0):=hr;clear hr;generalize A*2^P%B=R at*
  generalize A*2^P/B=Qn at*
  generalize A*2^P=X at*
  go_enter func149,ntmps149;go_wp2_with (go_at_call 116;refine kw (HP _) ?_);go_region_held3 (λw'=>jU w' w.heap.size 1 2 3 (J s) (J x) (Y (A:Nat))/\jU w' (w.heap.size+1) 1 2 3 (J s') (J x') (Y (B:Nat)))(exact qj)(first|(go_at_call 132;refine(HB _ _ (by assumption)).mono ?_;rintro e w1 ⟨b,k,cc,oz,rfl,au⟩;have:=au.Aq w)|(go_at_call 150;refine(HS _ _ (aK.gb (by assumption) Gb.g)).mono ?_;rintro e w2 ⟨b2,k2,cc2,Py,rfl,aC⟩;have:=aC.Aq w)|(go_at_call 153;refine(HD _ _ _ (aK.gb (by assumption) Gb.g) (aK.gb (by assumption) Gb.g)).mono ?_;rintro e w3 ⟨b3,k3,cc3,b4,k4,cc4,aIi,aIh,rfl,aO⟩;have yZ:=aO.Aq w;have:=aO.e2 w.heap.size 1 2 _ _;have:=aO.e2 (w.heap.size+1) 1 2 _ _;have hkn:0<k4:=BL aIh HR.out;have hkp:(0:Int)<(k4:Int):=om))
  all_goals go_wp2
  all_goals
   refine gY (v:=.agg #[J sp,aF b3 k3 cc3,J z,.bool O]) (by simp[results,results149,go_sem,yZ,hkn]) rfl ⟨b3,k3,cc3,?_,rfl,?_⟩
   .exact aIi.st4 yZ.1 yZ.2.2.1 yZ.2.2.2.2.1 yZ.2.2.2.2.2.2.1
   .exact Gb.g
def aMj{P:Prop}(h:P:=by
 go_enter func67,ntmps67;go_wp2_with (first|(go_at_call 139;refine kw (HF _) ?_)|(go_at_call 126;first|(with_reducible refine ku (fM.out _) λw1 au=>?_;have jy:=au.bK w;have mD:=aA jy.1))|(go_at_call 140;first|(with_reducible refine ku (jV.out _) λva aT=>?_;have:=aT.bK w;have:=aT.f_ w1))|(go_at_call 141;refine ku (HL _) λw9 bV=>?_;have jD:=bV.bK w))
 exact dX (by simp[results,results67,go_sem,jD])):P:=h
def aMn{P:Prop}(h:P:=by
 go_enter func67,ntmps67;go_wp2_with (first|(go_at_call 139;refine kw (HF _) ?_)|(go_at_call 126;first|(with_reducible refine ku (fM.out _) λw1 au=>?_;have jy:=au.bK w;have mD:=aA jy.1))|(go_at_call 140;first|(with_reducible refine ku (jV.out _) λva aT=>?_;have:=aT.bK w;have:=aT.f_ w1))|(go_at_call 116;refine kw (HP _) ?_)|(go_at_call 132;refine(HB _).mono ?_;rintro e n1 ⟨b1,k1,q1,iF,rfl,oP⟩;have:=oP.bK w;have:=oP.f_ w1)|(go_at_call 150;refine(HS _ _ iF).mono ?_;rintro e n2 ⟨b2,k2,q2,mY,rfl,Bz⟩;have:=Bz.bK w;have:=Bz.f_ w1)|(go_at_call 151;refine(HRt _ _ mY).mono ?_;rintro e n3 ⟨b3,k3,q3,nO,rfl,Bq⟩;have:=Bq.bK w;have:=Bq.f_ w1)|(go_at_call 152;refine(HM _ _ nO).mono ?_;rintro e n4 ⟨b4,k4,q4,rE,rfl,iW⟩;have:=iW.bK w;have:=iW.f_ w1)|(go_at_call 133;refine ku (HCm _ _ _ rE (aK.gb (aK.gb mY Bq) iW)) λn5 kQ=>?_;have:=kQ.bK w;have:=kQ.f_ w1)|(go_at_call 138;with_reducible refine(HR.out _ _ (aK.gb (aK.gb nO iW) kQ)).mono ?_;rintro e w9 ⟨z,fl,hq',rfl,bV⟩;have jD:=bV.bK w))
 refine gY (v:=aU z fl) (by simp[results,results67,go_sem,jD]) rfl ⟨z,fl,hq',rfl,?_⟩;exact Gb.g):P:=h
def He(f aj a:Int)(HF:qI f aj a Z)(z fl:Int)(HL:qJ f z fl)(w:ak):
  QB 67 #[J f,J aj,Y a] w (aU z fl):=by
 go_enter func67,ntmps67;go_wp2_with (first|(go_at_call 139;refine kw (HF _) ?_)|(go_at_call 136;refine ku (HL _) λw9 bV=>?_;have jD:=bV.bK w))
 exact dX (by simp[results,results67,go_sem,jD])
def aDw(f aj a ca sa xa ga:Int)(HF:qI f aj a O)(fM:bW f a ca sa xa ga)(jV:bY ca sa xa ga O)(t:Bool)(e5:(ca==4)=t)(z fl:Int)(HL:qR f t z fl)(w:ak):
  QB 67 #[J f,J aj,Y a] w (aU z fl):=by
 cases t
 .exact aMj
 .exact aMj
def aAB(f aj a ca sa xa ga:Int)(HF:qI f aj a O)(fM:bW f a ca sa xa ga)(jV:bY ca sa xa ga Z)(e1:ca=0)(z fl:Int)(HL:Ar f sa z fl)(w:ak):
  QB 67 #[J f,J aj,Y a] w (aU z fl):=by
 subst e1;go_enter func67,ntmps67;go_wp2_with (first|(go_at_call 139;refine kw (HF _) ?_)|(go_at_call 126;first|(with_reducible refine ku (fM.out _) λw1 au=>?_;have jy:=au.bK w;have mD:=aA jy.1))|(go_at_call 140;first|(with_reducible refine ku (jV.out _) λva aT=>?_;have:=aT.bK w;have:=aT.f_ w1))|(go_at_call 137;refine ku (HL _) λw9 bV=>?_;have jD:=bV.bK w))
 exact dX (by simp[results,results67,go_sem,jD])
def aDv(f aj a ca sa xa ga:Int)(HF:qI f aj a O)(fM:bW f a ca sa xa ga)(jV:bY ca sa xa ga Z)(e1:(ca==0)=Z)(e2:sa=1)(z fl:Int)(HL:qJ f z fl)(w:ak):
  QB 67 #[J f,J aj,Y a] w (aU z fl):=by
 subst e2;go_enter func67,ntmps67;go_wp2_with (first|(go_at_call 139;refine kw (HF _) ?_)|(go_at_call 126;first|(with_reducible refine ku (fM.out _) λw1 au=>?_;have jy:=au.bK w;have mD:=aA jy.1))|(go_at_call 140;first|(with_reducible refine ku (jV.out _) λva aT=>?_;have:=aT.bK w;have:=aT.f_ w1))|(go_at_call 136;refine ku (HL _) λw9 bV=>?_;have jD:=bV.bK w))
 exact dX (by simp[results,results67,go_sem,jD])
def aDx(f aj a ca sa xa ga:Int)(HF:qI f aj a O)(fM:bW f a ca sa xa ga)(jV:bY ca sa xa ga Z)(e1:ca=2)(e2:sa=0)(z fl:Int)(HL:Gu f 0 z fl)(w:ak):
  QB 67 #[J f,J aj,Y a] w (aU z fl):=by
 subst e1 e2;go_enter func67,ntmps67;go_wp2_with (first|(go_at_call 139;refine kw (HF _) ?_)|(go_at_call 126;first|(with_reducible refine ku (fM.out _) λw1 au=>?_;have jy:=au.bK w;have mD:=aA jy.1))|(go_at_call 140;first|(with_reducible refine ku (jV.out _) λva aT=>?_;have:=aT.bK w;have:=aT.f_ w1))|(go_at_call 142;refine ku (HL _) λw9 bV=>?_;have jD:=bV.bK w))
 exact dX (by simp[results,results67,go_sem,jD])
def aDu(f aj a ca sa xa ga:Int)(HF:qI f aj a O)(fM:bW f a ca sa xa ga)(jV:bY ca sa xa ga Z)(e1:ca=1)(e2:sa=0)(A:Nat)(e3:ga=(A:Int))(hA:aI A)(x0:-50000<=xa)(x1:xa<=50000)(p:Int)(p0:0<=p)(p1:p<=60)(HP:KW 116 #[J f] (J p))(P:Nat)(P0 d0 d q r0:Int)(hP0:p+8=P0)(LZ:xa-P0=d0)(wz:d0.tmod 2=r0)(tY:(r0 != 0)=O)(hP:P0+1=(P:Int))(hPb:P<=70)(hd:xa-(P:Int)=d)(hq:d.tdiv 2=q)(hqw:wrap64 q=q)(rest:Bool)(z0:Int)(hz:(z0 != 0)=rest)(Rt:Nat)(HRt:Hid (∀v w,aK 8 w v (A*2^P)->CT 151 #[v] w (vO 8 Rt w)))(HCm:Hid (∀v v' w,aK 16 w v (Rt*Rt)->aK 8 w v' (A*2^P)->QB 133 #[v,v'] w (J z0)))(Q:Int->Int->Prop)(HR:Hid (∀v w,aK 8 w v Rt->CT 138 #[J f,J aj,.agg #[J 0,v,J q,.bool rest]] w (E8 Q w)))(w:ak):
  CT 67 #[J f,J aj,Y a] w (E8 Q w):=by
 subst e1 e2 e3;have HB:Hid (∀w,CT 132 #[Y (A:Int)] w (vO 2 A w)):=λw=>fE (iO A hA w);have HS:Hid (∀v w,aK 2 w v A->CT 150 #[v,J (P:Int)] w (vO 8 (A*2^P) w)):=λv w ⟨n,a1,a2⟩=>fE ((iM a2 om P om).mono (λe w' ⟨v,k,c1,c2,c3,c4⟩=>⟨v,k,c1,c2,om,c4⟩));have HM:Hid (∀v w,aK 8 w v Rt->CT 152 #[v,v] w (vO 16 (Rt*Rt) w)):=λv w ⟨n,a1,a2⟩=>fE ((BX a2 om a2 om).mono (λe w' ⟨v,k,c1,c2,c3,c4⟩=>⟨v,k,c1,c2,om,c4⟩));generalize A*2^P=X at*
 generalize Rt*Rt=XX at*
 have aUh:(P:Int)<=70:=om;have hpn:-100<=P0:=om;have hpm:P0<=100:=om;exact aMn
def aAC(f aj a ca sa xa ga:Int)(HF:qI f aj a O)(fM:bW f a ca sa xa ga)(jV:bY ca sa xa ga Z)(e1:ca=1)(e2:sa=0)(A:Nat)(e3:ga=(A:Int))(hA:aI A)(x0:-50000<=xa)(x1:xa<=50000)(p:Int)(p0:0<=p)(p1:p<=60)(HP:KW 116 #[J f] (J p))(P:Nat)(d q r0:Int)(hP0:p+8=(P:Int))(hPb:P<=70)(hd:xa-(P:Int)=d)(wz:d.tmod 2=r0)(tY:(r0 != 0)=Z)(hq:d.tdiv 2=q)(hqw:wrap64 q=q)(rest:Bool)(z0:Int)(hz:(z0 != 0)=rest)(Rt:Nat)(HRt:Hid (∀v w,aK 8 w v (A*2^P)->CT 151 #[v] w (vO 8 Rt w)))(HCm:Hid (∀v v' w,aK 16 w v (Rt*Rt)->aK 8 w v' (A*2^P)->QB 133 #[v,v'] w (J z0)))(Q:Int->Int->Prop)(HR:Hid (∀v w,aK 8 w v Rt->CT 138 #[J f,J aj,.agg #[J 0,v,J q,.bool rest]] w (E8 Q w)))(w:ak):
  CT 67 #[J f,J aj,Y a] w (E8 Q w):=by
 subst e1 e2 e3;have HB:Hid (∀w,CT 132 #[Y (A:Int)] w (vO 2 A w)):=λw=>fE (iO A hA w);have HS:Hid (∀v w,aK 2 w v A->CT 150 #[v,J (P:Int)] w (vO 8 (A*2^P) w)):=λv w ⟨n,a1,a2⟩=>fE ((iM a2 om P om).mono (λe w' ⟨v,k,c1,c2,c3,c4⟩=>⟨v,k,c1,c2,om,c4⟩));have HM:Hid (∀v w,aK 8 w v Rt->CT 152 #[v,v] w (vO 16 (Rt*Rt) w)):=λv w ⟨n,a1,a2⟩=>fE ((BX a2 om a2 om).mono (λe w' ⟨v,k,c1,c2,c3,c4⟩=>⟨v,k,c1,c2,om,c4⟩));generalize A*2^P=X at*
 generalize Rt*Rt=XX at*
 have aUh:(P:Int)<=70:=om;exact aMn
def SV(h:isC mu inv scale=O):decide (mu%9223372036854775808<=4787326403894837248)=O/\(decide (yu<=inv)&&decide (inv<=4607182418800017408))=O/\(decide (0<scale)&&decide (scale<=4607182418800017408))=O:=by
 unfold isC at h;rw[Bool.and_eq_true,Bool.and_eq_true]at h;exact⟨h.1.1,h.1.2,h.2⟩
structure Mid (w:ak) (b g:Nat) (u k:Int):Prop where
 c0:aB w g 0 (J 0)
 c1:aB w g 1 (J 0)
 c2:aB w g 2 (J u)
 c3:aB w g 3 (J k)
 z0:dL w g 0
 z1:dL w g 1
 z2:dL w g 2
 z3:dL w g 3
 r0:aB w b 0 (J 0)
 r1:aB w b 1 (J 0)
 r2:aB w b 2 (J 0)
 r3:aB w b 3 (J 0)
 y0:dL w b 0
 y1:dL w b 1
 y2:dL w b 2
 y3:dL w b 3
def Mid.gb(h:Mid w b g u k)(hg:Gb w w'):Mid w' b g u k:=
 ⟨hg.old h.c0,hg.old h.c1,hg.old h.c2,hg.old h.c3,hg.Iy h.c0 h.z0,hg.Iy h.c1 h.z1,hg.Iy h.c2 h.z2,hg.Iy h.c3 h.z3,hg.old h.r0,hg.old h.r1,hg.old h.r2,hg.old h.r3,hg.Iy h.r0 h.y0,hg.Iy h.r1 h.y1,hg.Iy h.r2 h.y2,hg.Iy h.r3 h.y3⟩
def Mid.next(h:Mid w b g u k)(hb:g≠b)(u' k':Int):Mid ((w.setCell ⟨g,2,none⟩ (J u')).setCell ⟨g,3,none⟩ (J k')) b g u' k':=
  ⟨bQ de (bQ de h.c0),bQ de (bQ de h.c1),bQ de (dG (lI h.c2)),dG (has_set (lI h.c3)),
   bD (bD h.z0),bD (bD h.z1),bD (bD h.z2),bD (bD h.z3),
   aZ hb (aZ hb h.r0),aZ hb (aZ hb h.r1),aZ hb (aZ hb h.r2),aZ hb (aZ hb h.r3),bD (bD h.y0),bD (bD h.y1),bD (bD h.y2),bD (bD h.y3)⟩
structure Rs (w:ak) (b:Nat):Prop where
 r0:aB w b 0 (J 0)
 r1:aB w b 1 (J 0)
 r2:aB w b 2 (J 0)
 r3:aB w b 3 (J 0)
 y0:dL w b 0
 y1:dL w b 1
 y2:dL w b 2
 y3:dL w b 3
def Rs.gb(h:Rs w b)(hg:Gb w w'):Rs w' b:=
 ⟨hg.old h.r0,hg.old h.r1,hg.old h.r2,hg.old h.r3,hg.Iy h.r0 h.y0,hg.Iy h.r1 h.y1,hg.Iy h.r2 h.y2,hg.Iy h.r3 h.y3⟩
def aGU(w:ak):Rs (w.alloc (.cells #[J 0,J 0,J 0,J 0] 90)) w.heap.size:=
 ⟨kb,kb,kb,kb,kb,kb,kb,kb⟩
def aKx(h:Rs w b)(v:Int):b<w.heap.size/\Mid (w.alloc (.cells #[J 0,J 0,J 0,J 0] 90)) b w.heap.size 0 0:=by
 obtain⟨r0,r1,r2,r3,y0,y1,y2,y3⟩:=h;exact⟨aA r0,⟨kb,kb,kb,kb,kb,kb,kb,kb,kb,kb,kb,kb,kb,kb,kb,kb⟩⟩
def aK7(h:Rs w b)(v0 v1 v2 v3:Value):let w':=(((w.setCell ⟨b,0,none⟩ v0).setCell ⟨b,1,none⟩ v1).setCell ⟨b,2,none⟩ v2).setCell ⟨b,3,none⟩ v3
  aB w' b 0 v0/\aB w' b 1 v1/\aB w' b 2 v2/\aB w' b 3 v3:=
 ⟨bQ de (bQ de (bQ de (dG (lI h.r0)))),bQ de (bQ de (dG (has_set (lI h.r1)))),bQ de (dG (has_set (has_set (lI h.r2)))),dG (has_set (has_set (has_set (lI h.r3))))⟩
def Mid.rs(h:Mid w b g u k)(hb:g≠b)(o:Nat)(v:Value):Rs (w.setCell ⟨g,o,none⟩ v) b:=
 ⟨aZ hb h.r0,aZ hb h.r1,aZ hb h.r2,aZ hb h.r3,bD h.y0,bD h.y1,bD h.y2,bD h.y3⟩
def aIo(h:Gb w x)(hb:w.heap.size<=b)(hg:w.heap.size<=g)(o:Nat)(v v0 v1 v2 v3:Value):Gb w (((((x.setCell ⟨g,o,none⟩ v).setCell ⟨b,0,none⟩ v0).setCell ⟨b,1,none⟩ v1).setCell ⟨b,2,none⟩ v2).setCell ⟨b,3,none⟩ v3):=
 ((((h.setCell hg _).setCell hb _).setCell hb _).setCell hb _).setCell hb _
def rQ(w:ak)(g:Nat):Nat:=match w.cell? ⟨g,2,none⟩with
 |some (.int _ u)=>u.toNat
 |_=>0
def Uu{o:O7}(H:o.S)(HI:o.In)(hm:Wo mu)(hi:Wo inv)(hs:Wo scale)(s:aJ)(hz:s.size<=20000)(hn:isC mu inv scale=O)(w:ak):
  CT 56 #[Y mu,Y inv,Y scale,.string s] w λe w'=>∃r,Tried (o.KJ mu inv scale s) (o.zAt mu s) s.size r/\e=.returned (QV r)/\Gb w w':=by
 have hf:=vN;obtain⟨i1,i2,i3⟩:=SV hn;obtain⟨c1,s1,x1,g1,u1,U1⟩:=H.unp hm;obtain⟨c2,s2,x2,g2,u2,U2⟩:=H.unp hi;obtain⟨c3,s3,x3,g3,u3,U3⟩:=H.unp hs;have e1:=aR5 hm u1;have e2:=aNA hi u2;have e3:=aR4 hs u3;rw[i1]at e1;rw[i2]at e2;rw[i3,Bool.and_eq_true]at e3;have hf3:∀w,(Instr.field 129 (fG c3 s3 x3 g3) 0).run prog w=.ok (J c3) w:=λw=>by kernel_rfl
 have B1:KB 125 #[Y mu,J (-2199023255552),J 2199023255552] (.bool O):=vF H HI hm _ _ _ _ om om om om H.k1 H.k2 U1 _ e1.symm;have B2:KB 125 #[Y inv,J 1,J 2] (.bool O):=vF H HI hi _ _ _ _ om om om om H.k3 H.k4 U2 _ e2.symm;have B3:KB 125 #[Y scale,J 0,J 2] (.bool O):=vF H HI hs _ _ _ _ om om om om H.k5 H.k4 U3 _ e3.1.symm;have hc3:(c3==0)=Z:=by have:=e3.2;simpa using this
 have qY:¬(20000:Int)<s.size:=om;have sc:0<=scale/\scale<9223372036854775808:=by rw[Bool.and_eq_true,decide_eq_true_eq,decide_eq_true_eq]at i3;omega
 have HR:Hid (∀w,CT 71 #[J 1,J 4,Y mu,.bool Z] w λe w'=>∃fl:Int,e=.returned (aU (o.lN mu) fl)/\Gb w w'):=H.lN.out mu hm;have HA:KB 127 #[Y mu,Y (o.lN mu)] (Y (o.above mu)):=H.minus.out _ _ hm (HI.lN hm);have ZG:KB 112 #[Y inv,Y inv] (Y (o.mul inv inv)):=H.times.out _ _ hi hi;have IU:KB 112 #[Y (o.mul inv inv),Y yu] (Y (o.narrow inv)):=H.times.out _ _ (HI.mul hi hi) (Wo.c _);have HH:=H.half;have hr:=HI.sub hm (HI.lN hm);have hh:=HI.mul (HI.mul hi hi) (Wo.c yu);have HT:Hid (∀w,CT 69 #[J 1,J 0,J 1,Y (o.lN mu)] w λe w'=>∃fl:Int,e=.returned (aU (o.whole (o.lN mu)) fl)/\Gb w w'):=H.whole.out _ (HI.lN hm);have HX:Hid (∀k,17*k+17<=s.size->∀w,QB 130 #[J (Wi (lK (num s (17*k) 8)) (iJ s (17*k+8))),J (lK (num s (17*k) 8):Nat),Y (o.above mu),Y (o.narrow inv),Y scale,Y (num s (17*k+9) 8)] w (.bool (o.KJ mu inv scale s k))):=λk hk w=>by
  have n:=Gn (num s (17*k) 8);have zz:=ZQ _ (iJ s (17*k+8)) n;exact aFf H HI _ _ n zz.1 zz.2 hr hh sc.1 sc.2 (SA s _) w
 have HZ:Hid (∀k,o.zAt mu s k=wrap64 (Wi (lK (num s (17*k) 8)) (iJ s (17*k+8))+wrap64 (o.whole (o.lN mu)))):=λk=>rfl;generalize o.whole (o.lN mu)=T at*
 generalize o.KJ mu inv scale s=acc at*
 generalize o.zAt mu s=zz at*
 generalize o.narrow inv=h at*
 generalize o.above mu=r at*
 generalize o.mul inv inv=ii at*
 generalize o.lN mu=rm at*
 clear H HI hn i1 i2 i3 u1 u2 u3 U1 U2 e1 e2 e3 hm hi hs sc hr hh;go_enter func56,ntmps56;go_upto_region 4 with(first|(go_at_call 125;first|(with_reducible refine ku (B1.out _) λw1 au=>?_)|(with_reducible refine ku (B2.out _) λw2 aC=>?_)|(with_reducible refine ku (B3.out _) λw3 aO=>?_))|(go_at_call 126;refine ku (U3 _) λw4 bg=>?_))
 have G4:Hid (Gb (w.alloc (.cells #[J 0,J 0,J 0,J 0] 90)) w4):=(show Gb _ w4 from kg);clear au aC aO bg;go_upto_region 5 with(go_at_call 71;refine(HR _).mono ?_;rintro e w5 ⟨f5,rfl,bT⟩);go_upto_region 6 with(go_at_call 127;refine ku (HA _) λw6 gG=>?_);go_upto_region 7 with(first|(go_at_call 112;first|(with_reducible refine ku (ZG.out _) λw7 jT=>?_)|(with_reducible refine ku (IU.out _) λw9 bV=>?_))|(go_at_call 113;refine ku (HH _) λw8 YF=>?_))
 have G9:Hid (Gb (w.alloc (.cells #[J 0,J 0,J 0,J 0] 90)) w9):=(show Gb _ w9 from by have:=G4.out;exact kg);clear bT gG jT YF bV;go_wp2;clear HA ZG IU HH HR B1 B2 B3 U3 hf3;obtain⟨hbg,hM0⟩:=aKx ((aGU w).gb G9.out) 0;have HM0:Hid _:=hM0;have G0:Hid (Gb w w9):=(show Gb w w9 from by have:=G9.out;exact kg);clear hM0 G4 G9;obtain⟨g,hg⟩:=dP (w9.heap.size);rw[hg]at hbg HM0⊢
 have dQ:g≠w.heap.size:=om;obtain⟨b,hwb⟩:=dP (w.heap.size);rw[hwb]at hbg HM0 dQ⊢
 go_loopw [14] (λ_ wr=>∃k:Nat,17*k<=s.size/\(∀j,j<k->acc j=Z)/\Mid wr b g (17*(k:Int)) k/\Gb w9 wr) (λ_ wr=>s.size+17-rQ wr g)
 case atStart=>exact⟨0,om,λj hj=>bG hj om,HM0.out,kg⟩
 case round=>
  obtain⟨k,hk,ha,hM,hG⟩:=hrel
  rename_i wr
  have HA:Hid (∀j,j<k->acc j=Z):=ha;have HG:Hid (Gb w9 wr):=hG;obtain⟨u,hu⟩:=dP (17*(k:Int));rw[hu]at hM;have HM:Hid (Mid wr b g u k):=hM;have p2:=hM.c2;have HU:Hid (rQ wr g=u.toNat):=by show _=_;simp only[rQ,p2]
  clear ha hG HM0;by_cases uz:u+17<=(s.size:Int)
  .have hn:=Gn (num s (17*k) 8);have aOV:=SA s (17*k);have D1:KW 129 #[.string s,J u] (Y (num s (17*k) 8)):=λw=>by rw[<-hu];exact aIB s (17*k) om om w
   have D2:KW 129 #[.string s,J (u+9)] (Y (num s (17*k+9) 8)):=λw=>by rw[<-hu];exact aIB s (17*k+9) om om w
   have HB:KR 128 #[Y (num s (17*k) 8)] (J (lK (num s (17*k) 8):Nat)):=aPF _ aOV.1 aOV.2;have q:∀w,(Instr.index 9 (.string s) (J (u+8))).run prog w=.ok (.int .u8 (iJ s (17*k+8))) w:=λw=>by rw[<-hu];exact jR s (17*k+8) om w
   have EL:=wG s (17*k+8);have HXk:=HX k om;have HZk:=HZ k;have hzd:Wi (lK (num s (17*k) 8)) (iJ s (17*k+8))=if iJ s (17*k+8)%2=1 then((lK (num s (17*k) 8):Nat):Int)+1 else-((lK (num s (17*k) 8):Nat):Int):=rfl
   generalize lK (num s (17*k) 8)=n at*
   generalize num s (17*k) 8=uu at*
   generalize num s (17*k+9) 8=vv at*
   generalize iJ s (17*k+8)=cc at*
   obtain⟨zv,hzv⟩:=dP (Wi n cc);rw[hzv]at hzd HXk HZk;have HXX:Hid _:=HXk;have HZZ:Hid _:=HZk;have HN:Hid (17*(k+1)<=s.size):=(show _<=_ by omega);clear HXk HZk HX HZ hzv aOV;rcases(show(cc%2=1/\zv=(n:Int)+1)\/(cc%2=0/\zv=-(n:Int)) by
    by_cases h:cc%2=1
    .exact .inl ⟨h,by rw[hzd,aQ h]⟩
    .exact .inr ⟨om,by rw[hzd,aH h]⟩)with⟨zA,rfl⟩|⟨zA,rfl⟩
   all_goals
    clear hzd hM;go_upto_region 10 with(first|(go_at_call 129;refine(D1 _).mono ?_;rintro e w' ⟨rfl,hw⟩;subst hw)|(go_at_call 128;refine ku (HB _) λwa wC=>?_))
    have HMa:Hid (Mid wa b g u k):=HM.out.gb wC.gb;have HGa:Hid (Gb w9 wa):=HG.out.trans wC.gb;have pa2:=HMa.out.c2;have pa3:=HMa.out.c3;have za2:=HMa.out.z2;have za3:=HMa.out.z3;clear p2 HM HG wC;go_upto_region 14 with(go_at_call 129;refine(D2 _).mono ?_;rintro e w' ⟨rfl,hw⟩;subst hw);cases aBA:acc k
    .rw[aBA]at HXX;go_wp2_with (go_at_call 130;refine ku (HXX _) λwb rC=>?_);have hMb:=(HMa.out.next dQ (u+17) ((k:Int)+1)).gb rC;go_roundw
     case rel=>
      refine⟨k+1,HN.out,λj hj=>?_,by rw[(om:17*((k+1:Nat):Int)=u+17)];exact hMb,by have:=HGa.out;exact kg⟩;rcases uq j k with h|h
      .exact HA j h
      .obtain rfl:j=k:=om;exact aBA
     case measure=>
      have h1:=HU.out;have p2:=hMb.c2;have h2:rQ wb g=(u+17).toNat :=by simp only[rQ,p2]
      show s.size+17-rQ wb g<s.size+17-rQ wr g;omega
    .rw[aBA]at HXX;go_upto_region 17 with(go_at_call 130;refine ku (HXX _) λwb rC=>?_);have HMb:Hid (Mid wb b g (u+17) ((k:Int)+1)):=(HMa.out.next dQ (u+17) ((k:Int)+1)).gb rC;have HGb:Hid (Gb w9 wb):=(show Gb w9 wb from by have:=HGa.out;exact kg);clear HMa HGa pa2 pa3 za2 za3 rC;go_upto_region 18 with(go_at_call 69;refine(HT _).mono ?_;rintro e wc ⟨f6,rfl,aH9⟩;have HMc:Hid (Mid wc b g (u+17) ((k:Int)+1)):=HMb.out.gb aH9;obtain⟨p0,p1,p2,p3,pz0,pz1,pz2,pz3,r0,r1,r2,r3,rz0,rz1,rz2,rz3⟩:=HMc.out);clear HMb HT HU HXX HB D1 D2 q;go_wp2;have hw:zz k=wrap64 (_+wrap64 T):=HZZ.out;rw[<-hw];obtain⟨e0,e1,e2,e3⟩:=aK7 (HMc.out.rs dQ 1 (J (zz k))) (J 0) (J (zz k)) (J (u+17)) (J ((k:Int)+1));refine gY (v:=QV ⟨0,zz k,u+17,(k:Int)+1⟩) (by simp[results,results56,go_sem,e0,e1,e2,e3]) rfl ⟨_,.inl ⟨k,by have:=HN.out;omega,aBA,HA.out,by rw[<-hu]⟩,rfl,?_⟩;exact aIo (G0.out.trans (HGb.out.trans aH9)) om om _ _ _ _ _ _
  .have HN:Hid (s.size<17*k+17):=(show _<_ by omega);clear HX HZ HT;obtain⟨p0,p1,p2,p3,pz0,pz1,pz2,pz3,r0,r1,r2,r3,rz0,rz1,rz2,rz3⟩:=hM;go_wp2;obtain⟨e0,e1,e2,e3⟩:=aK7 (HM.out.rs dQ 0 (J 2)) (J 2) (J 0) (J u) (J k);refine gY (v:=QV ⟨2,0,u,(k:Int)⟩) (by simp[results,results56,go_sem,e0,e1,e2,e3]) rfl ⟨_,.inr ⟨k,HN.out,hk,HA.out,by rw[<-hu]⟩,rfl,?_⟩;exact aIo (G0.out.trans HG.out) om om _ _ _ _ _ _
def aMk{P:Prop}(h:P:=by
 go_enter func68,ntmps68;go_wp2_with (first|(go_at_call 139;refine kw (HF _) ?_)|(go_at_call 126;first|(with_reducible refine ku (fM.out _) λw1 au=>?_;have jy:=au.bK w;have mD:=aA jy.1)|(with_reducible refine ku (gK.out _) λw2 aC=>?_;have kH:=aC.bK w;have:=aC.MS w1;have jB:=aA kH.1))|(go_at_call 140;first|(with_reducible refine ku (jV.out _) λva aT=>?_;have:=aT.bK w;have:=aT.f_ w1;have:=aT.f_ w2)|(with_reducible refine ku (mZ.out _) λvb bJ=>?_;have aG8:=bJ.bK w;have:=bJ.f_ w1;have:=bJ.f_ w2)))
 exact dX (by simp[results,results68,go_sem,aG8])):P:=h
def aMl{P:Prop}(h:P:=by
 go_enter func68,ntmps68;go_wp2_with (first|(go_at_call 139;refine kw (HF _) ?_)|(go_at_call 126;first|(with_reducible refine ku (fM.out _) λw1 au=>?_;have jy:=au.bK w;have mD:=aA jy.1)|(with_reducible refine ku (gK.out _) λw2 aC=>?_;have kH:=aC.bK w;have:=aC.MS w1;have jB:=aA kH.1))|(go_at_call 140;first|(with_reducible refine ku (jV.out _) λva aT=>?_;have:=aT.bK w;have:=aT.f_ w1;have:=aT.f_ w2)|(with_reducible refine ku (mZ.out _) λvb bJ=>?_;have:=bJ.bK w;have:=bJ.f_ w1;have:=bJ.f_ w2))|(go_at_call 136;refine ku (HL _) λw9 bV=>?_;have jD:=bV.bK w))
 exact dX (by simp[results,results68,go_sem,jD])):P:=h
def aMm{P:Prop}(h:P:=by
 go_enter func68,ntmps68;go_wp2_with (first|(go_at_call 139;refine kw (HF _) ?_)|(go_at_call 126;first|(with_reducible refine ku (fM.out _) λw1 au=>?_;have jy:=au.bK w;have mD:=aA jy.1)|(with_reducible refine ku (gK.out _) λw2 aC=>?_;have kH:=aC.bK w;have:=aC.MS w1;have jB:=aA kH.1))|(go_at_call 140;first|(with_reducible refine ku (jV.out _) λva aT=>?_;have:=aT.bK w;have:=aT.f_ w1;have:=aT.f_ w2)|(with_reducible refine ku (mZ.out _) λvb bJ=>?_;have:=bJ.bK w;have:=bJ.f_ w1;have:=bJ.f_ w2))|(go_at_call 141;refine ku (HL _) λw9 bV=>?_;have jD:=bV.bK w))
 exact dX (by simp[results,results68,go_sem,jD])):P:=h
def aFM{P:Prop}(h:P:=by
 go_enter func68,ntmps68;go_wp2_with (first|(go_at_call 139;refine kw (HF _) ?_)|(go_at_call 126;first|(with_reducible refine ku (fM.out _) λw1 au=>?_;have jy:=au.bK w;have mD:=aA jy.1)|(with_reducible refine ku (gK.out _) λw2 aC=>?_;have kH:=aC.bK w;have:=aC.MS w1;have jB:=aA kH.1))|(go_at_call 140;first|(with_reducible refine ku (jV.out _) λva aT=>?_;have:=aT.bK w;have:=aT.f_ w1;have:=aT.f_ w2))|(go_at_call 141;refine ku (HL _) λw9 bV=>?_;have jD:=bV.bK w))
 exact dX (by simp[results,results68,go_sem,jD])):P:=h
def Xp(f a b:Int)(HF:dU f 0 a b Z)(z fl:Int)(HL:qJ f z fl)(w:ak):
  Qj f a b w z fl:=by
 go_enter func68,ntmps68;go_wp2_with (first|(go_at_call 139;refine kw (HF _) ?_)|(go_at_call 136;refine ku (HL _) λw9 bV=>?_;have jD:=bV.bK w))
 exact dX (by simp[results,results68,go_sem,jD])
def aDC(f a b ca sa xa ga cb sb xb gb:Int)(HF:dU f 0 a b O)(fM:bW f a ca sa xa ga)(gK:bW f b cb sb xb gb)(jV:bY ca sa xa ga O)(e4:(ca==4)=O)(z fl:Int)(HL:qR f O z fl)(w:ak):
  Qj f a b w z fl:=by
 exact aFM
def aDB(f a b ca sa xa ga cb sb xb gb:Int)(HF:dU f 0 a b O)(fM:bW f a ca sa xa ga)(gK:bW f b cb sb xb gb)(jV:bY ca sa xa ga O)(e4:(ca==4)=Z)(t:Bool)(e5:(cb==4)=t)(z fl:Int)(HL:qR f t z fl)(w:ak):
  Qj f a b w z fl:=by
 cases t
 .exact aFM
 .exact aFM
def aDA(f a b ca sa xa ga cb sb xb gb:Int)(HF:dU f 0 a b O)(fM:bW f a ca sa xa ga)(gK:bW f b cb sb xb gb)(jV:bY ca sa xa ga Z)(mZ:bY cb sb xb gb O)(e4:(ca==4)=Z)(t:Bool)(e5:(cb==4)=t)(z fl:Int)(HL:qR f t z fl)(w:ak):
  Qj f a b w z fl:=by
 cases t
 .exact aMm
 .exact aMm
def aDE(f a b ca sa xa ga cb sb xb gb:Int)(HF:dU f 0 a b O)(fM:bW f a ca sa xa ga)(gK:bW f b cb sb xb gb)(jV:bY ca sa xa ga Z)(mZ:bY cb sb xb gb Z)(e1:ca=2)(z fl:Int)(HL:qJ f z fl)(w:ak):
  Qj f a b w z fl:=by
 subst e1;exact aMl
def aDD(f a b ca sa xa ga cb sb xb gb:Int)(HF:dU f 0 a b O)(fM:bW f a ca sa xa ga)(gK:bW f b cb sb xb gb)(jV:bY ca sa xa ga Z)(mZ:bY cb sb xb gb Z)(e1:(ca==2)=Z)(e2:cb=0)(z fl:Int)(HL:qJ f z fl)(w:ak):
  Qj f a b w z fl:=by
 subst e2;exact aMl
def aDz(f a b ca sa xa ga cb sb xb gb:Int)(HF:dU f 0 a b O)(fM:bW f a ca sa xa ga)(gK:bW f b cb sb xb gb)(jV:bY ca sa xa ga Z)(mZ:bY cb sb xb gb Z)(e1:ca=0)(e2:(cb==0)=Z)(w:ak):
  QB 68 #[J f,Y a,Y b] w (aU a 0):=by
 subst e1;exact aMk
def aGN(f a b ca sa xa ga cb sb xb gb:Int)(HF:dU f 0 a b O)(fM:bW f a ca sa xa ga)(gK:bW f b cb sb xb gb)(jV:bY ca sa xa ga Z)(mZ:bY cb sb xb gb Z)(e1:ca=1)(e2:cb=2)(w:ak):
  QB 68 #[J f,Y a,Y b] w (aU a 0):=by
 subst e1 e2;exact aMk
structure aSo (w wa wb wx:ak) (sa xa A sb xb B:Int):Prop where
 g:Gb w wx:=by exact kg
 r0:aB wx w.heap.size 0 (Y 0):=by exact kh
 r0z:dL wx w.heap.size 0:=by exact kb
 r1:aB wx w.heap.size 1 (J 0):=by exact kh
 r1z:dL wx w.heap.size 1:=by exact kb
 a1:aB wx wa.heap.size 1 (J sa):=by exact kh
 a2:aB wx wa.heap.size 2 (J xa):=by exact kh
 a3:aB wx wa.heap.size 3 (Y A):=by exact kh
 b1:aB wx wb.heap.size 1 (J sb):=by exact kh
 b2:aB wx wb.heap.size 2 (J xb):=by exact kh
 b3:aB wx wb.heap.size 3 (Y B):=by exact kh
