import Derived.Test.YthoelefkjpjhfaaGreatDoorG6
import Derived.Test.YthoelefkjpjhfaaGreatDoorR3
import Derived.Test.YthoelefkjpjhfaaGreatDoorN1
set_option linter.all false
set_option maxRecDepth 1000000
set_option maxHeartbeats 40000000
open Bool renaming false → D, true → Q
open Go.Proofs.YthoelefkjpjhfaaGreatDoor renaming vI → J
open Go.Value renaming int → Y, bool → U
open Go.IntKind renaming u64 → O
open Go.Ending renaming returned → X
open Go.Proofs.Tryz
namespace Go.Proofs.YthoelefkjpjhfaaGreatDoor
open Go.RowKit
attribute [local go_sem] aA dB
def iF(c s x g:Int)(b:Bool)(hb:b=decide (3<=c))(w:World):
  QR 140 #[d_ c s x g] w (U b):=by
 have hB:Hid (b=decide (3<=c)):=hb;clear hb;go_enter func140,ntmps140;go_wp2;go_returns;exact⟨bU (congrArg Value.bool (by rw[hB.out])),kr⟩
def aDg{f p mx one aI sg nan:Int}(h:bD f p mx one aI sg nan)(w:World):
  QR 141 #[J f,U Q] w (aP nan 1):=by
 have HB:oJ f nan 1:=λw=>cO h w;clear h;go_enter func141,ntmps141;go_wp2_with (go_at_call 136;refine(HB _).mono ?_;rintro x w1 ⟨rfl,rJ⟩;obtain⟨gG,Uk,Di,Uj⟩:jC w1 w.heap.size 0 1 (Y O 0) (J 0):=⟨kq,kq,kq,kq⟩);exact bW (by simp[results,Tryz.results141,go_sem,gG,Di])
def aGp{f p mx one aI sg nan:Int}(h:bD f p mx one aI sg nan)(w:World):
  QR 141 #[J f,U D] w (aP nan 0):=by
 have HB:KW 114 #[J f] (Y O nan):=λw=>zO h w;clear h;go_enter func141,ntmps141;go_wp2_with (go_at_call 114;refine kw (HB _) ?_);go_returns;exact⟨rfl,kr⟩
def lZ{f p mx one aI sg nan:Int}(h:bD f p mx one aI sg nan)(b:Bool)(fl:Int)(hb:fl=if b then 1 else 0)(w:World):
  QR 141 #[J f,U b] w (aP nan fl):=by
 cases b
 .subst hb;exact aGp h w
 .subst hb;exact aDg h w
def jJ{f p mx one aI sg nan:Int}(h:bD f p mx one aI sg nan)(aJ:Int)(hs:aJ=0\/aJ=1)(w:World):
  QR 137 #[J f,J aJ] w (aP (sw aJ sg 0) 0):=by
 have hb:=h.bounds;have uq:yA f aJ 0 (sw aJ sg 0):=λw'=>vZ h aJ 0 _ (by
  unfold sw;rcases hs with rfl|rfl
  .exact .inl ⟨rfl,by simp⟩
  .exact .inr ⟨rfl,by simp⟩) om om w'
 clear h hb;generalize sw aJ sg 0=Z at*
 go_enter func137,ntmps137;go_wp2_with (go_at_call 118;refine kw (uq _) ?_);go_returns;exact⟨rfl,kr⟩
def dQ{f p mx one aI sg nan:Int}(h:bD f p mx one aI sg nan)(aJ:Int)(hs:aJ=0\/aJ=1)(w:World):
  QR 142 #[J f,J aJ] w (aP (sw aJ sg aI) 0):=by
 have hb:=h.bounds;have uq:yA f aJ aI (sw aJ sg aI):=λw'=>vZ h aJ aI _ (by
  unfold sw;rcases hs with rfl|rfl
  .exact .inl ⟨rfl,by simp⟩
  .exact .inr ⟨rfl,by simp⟩) om om w'
 have HI:KW 148 #[J f] (Y O aI):=λw=>l9 h w;clear h hb;generalize sw aJ sg aI=Z at*
 go_enter func142,ntmps142;go_wp2_with (first|(go_at_call 148;refine kw (HI _) ?_)|(go_at_call 118;refine kw (uq _) ?_))
 go_returns;exact⟨rfl,kr⟩
def Uw{P:Prop}(h:P:=by
 go_enter func139,ntmps139;go_wp2_with (first|(go_at_call 135;refine kw (HW _) ?_)|(go_at_call 61;first|(with_reducible refine kw (HF.out _ _ om om) ?_)|(with_reducible refine kw (HA.out _) ?_)|(with_reducible refine kw (HB.out _) ?_)|(with_reducible refine kw (HA'.out _) ?_)|(with_reducible refine kw (HA.out _) ?_)))
 go_returns;exact⟨rfl,rfl⟩):P:=h
def jK{f p mx one aI sg nan:Int}(h:bD f p mx one aI sg nan)(aj a b:Int)(m0:0<=aj)(m1:aj<=4)(a0:0<=a)(a1:a<2*sg)(b0:0<=b)(b1:b<2*sg)(w:World):
  QW 139 #[J f,J aj,Y O a,Y O b] w (U Q):=by
 have HW:lV aj Q:=λw=>l7 aj Q (decide_eq_true ⟨m0,m1⟩).symm w;have HF:Hid (∀v w,0<=v->v<2*sg->nP f v w Q):=λv w v0 v1=>fO h v v0 v1 w;clear h;exact Uw
def aHV(f aj a b:Int):Prop:=(aj<0\/4<aj)\/¬(f=0\/f=1)\/f=0/\4294967296<=a\/f=0/\4294967296<=b
def eG(f aj a b:Int)(a0:0<=a)(a1:aG a)(b0:0<=b)(b1:aG b)(h:aHV f aj a b)(w:World):
  QW 139 #[J f,J aj,Y O a,Y O b] w (U D):=by
 have HFt:∀v,0<=v->aG v->dZ f v Q\/dZ f v D/\(¬(f=0\/f=1)\/(f=0/\4294967296<=v)):=by
  intro v v0 v1;rcases aND f v v0 v1 with⟨p,mx,one,aI,sg,nan,hF,hv⟩|hn
  .exact .inl (λw=>fO hF v v0 hv w)
  .exact .inr ⟨λw=>iV f v v0 hn w,hn⟩
 have hFf:∀v,0<=v->(¬(f=0\/f=1)\/(f=0/\4294967296<=v))->dZ f v D:=λv v0 hn w=>iV f v v0 hn w;by_cases hm:0<=aj/\aj<=4
 .have HW:lV aj Q:=λw=>l7 aj Q (decide_eq_true hm).symm w;rcases HFt a a0 a1 with HA|⟨HA,_⟩
  .have Tf:¬(f=0\/f=1)\/(f=0/\4294967296<=b)\/(f=0/\4294967296<=a):=by
    rcases h with h|h|h|h
    .omega
    .exact .inl h
    .exact .inr (.inr h)
    .exact .inr (.inl h)
   by_cases hb:¬(f=0\/f=1)\/(f=0/\4294967296<=b)
   .have HB:=hFf b b0 hb;clear HFt hFf h Tf hb;exact Uw
   .have HA':=hFf a a0 om;clear HFt hFf h Tf hb HA;exact Uw
  .clear HFt hFf h;exact Uw
 .have HW:lV aj D:=λw=>l7 aj D (decide_eq_false hm).symm w;clear HFt hFf h;exact Uw
set_option maxRecDepth 1000000
def dY{K:Nat}{F:Nat}{args:Array Value}{w:World}{N:Nat}(h:Calls Tryz.prog F args w λe w'=>∃v' k,e=X v'/\Big w' v' k N/\k<=K/\Gb w w'):
  Calls Tryz.prog F args w (sV K N w):=h.mono (λx w' ⟨v',k,a1,a2,a3,a4⟩=>by
 obtain⟨b,c,rfl,_⟩:=Big.shape a2;exact⟨b,k,c,⟨k,a3,a2⟩,a1,a4⟩)
def aH.le{K L:Nat}{w:World}{v:Value}{N:Nat}(h:aH K w v N)(k:K<=L):aH L w v N:=by
 obtain⟨n,a,b⟩:=h;exact⟨n,om,b⟩
def aH.st{K:Nat}{w:World}{v:Value}{N:Nat}(h:aH K w v N){r o:Nat}{u0:Value}(u:Value)(h0:aA w r o u0)(hu:∀d,u0≠Y .u32 d):aH K (w.setCell ⟨r,o,none⟩ u) v N:=by
 obtain⟨n,hn,uG,hN,b,cap,rfl,kJ,Bd,aW⟩:=h;refine⟨n,hn,uG,hN,b,cap,rfl,kJ,Bd,λj hj=>?_⟩;have:=aW j hj;by_cases e:r=b/\o=j
 .obtain⟨rfl,rfl⟩:=e;rw[h0]at this;exact absurd (Option.some.inj this) (hu _)
 .rw[World.cell?_setCell_other]
  .exact this
  .intro e';injection e' with e1 e2 e3;exact e ⟨om,om⟩
def aH.st4{K:Nat}{w:World}{v:Value}{N:Nat}(h:aH K w v N){r:Nat}{x0 x2:Int}{x3:Bool}{u0 u1 u2 u3:Value}(h0:aA w r 0 (J x0))(h1:aA w r 1 (.slice none 0 0))(h2:aA w r 2 (J x2))(h3:aA w r 3 (U x3)):
  aH K ((((w.setCell ⟨r,0,none⟩ u0).setCell ⟨r,1,none⟩ u1).setCell ⟨r,2,none⟩ u2).setCell ⟨r,3,none⟩ u3) v N:=
 (((h.st u0 h0 (λd e=>by cases e)).st u1 (bI om h1) (λd e=>by cases e)).st u2 (bI om (bI om h2)) (λd e=>by cases e)).st u3 (bI om (bI om (bI om h3))) (λd e=>by cases e)
def lY(c s x:Int)(G:Nat)(hG:aG G)(w:World):
  CT 144 #[d_ c s x ((G:Nat))] w λe w'=>∃b k cc,aH 2 w' (aC b k cc) G/\e=X (.agg #[J s,aC b k cc,J x,U D])/\Gb w w':=by
 have HB:Hid (∀w,CT 132 #[Y O (G:Nat)] w (sV 2 G w)):=λw=>dY (gY G hG w);generalize((G:Nat):Int)=g at*
 go_enter func144,ntmps144;go_wp2;go_region_held3 (λw'=>oV w' w.heap.size 0 1 2 3 (J c) (J s) (J x) (Y O g))(exact nX)(first|(go_at_call 132;refine(HB _).mono ?_;rintro e w1 ⟨b,k,cc,mF,rfl,ak⟩;have gG:=ak.Y41 w))
 all_goals go_wp2
 all_goals
  refine bodyPost_ret (v:=.agg #[J s,aC b k cc,J x,U D]) (by simp[results,Tryz.results144,go_sem,gG]) rfl ⟨b,k,cc,?_,rfl,?_⟩
  .exact mF.st4 gG.1 gG.2.2.1 gG.2.2.2.2.1 gG.2.2.2.2.2.2.1
  .exact Gb.g
set_option maxRecDepth 1000000
def aLo{P:Prop}(h:P:=by
 have HF:Hid (∀w',Gr w w'->Ji f w' p mn mx Q):=λw' hg=>mJ h hm (hw.gr hg);clear h hm hw;go_enter func170,ntmps170;go_wp2_with (first|(go_at_call 168;refine ku (HF _ Gr.g) λw1 ak=>?_;have:=ak.Y50 w)|(go_at_call 237;refine ku (HR _) λw2 aB=>?_;have jT:=aB.Y50 w;have:=aB.C30 w1))
 exact bW (by simp[results,Tryz.results170,go_sem,jT])):P:=h
def m64:wQ 53 (-1022) 1023 52 63 4503599627370496 9218868437227405312 9223372036854775808 9221120237041090560:=.inr ⟨rfl,rfl,rfl,rfl,rfl,rfl,rfl,rfl,rfl⟩
def dP(f aj:Int)(hf:¬(f=0\/f=1)){w:World}(hw:Fm w):
  QR 170 #[J f,J aj] w (.tuple #[.agg #[J 53,J (-1022),J 1023,J 0,Value.nilFunc],U D]):=by
 have HF:KR 168 #[J f] (.tuple #[jX 0 0 0,U D]):=λw'=>nO f hf w';have HW:Hid (∀w',Gr w w'->Fm w'):=λw' hg=>hw.gr hg;clear hf hw;go_enter func170,ntmps170;go_wp2_with (go_at_call 168;refine ku (HF _) λw1 ak=>?_;obtain⟨a0,a1,a2,a3,a4,a5⟩:=HW w1 Gr.g;have A3:=dU a3;have A4:=dU a4;have A5:=dU a5;obtain⟨gG,aHH,Di,aHG,ar2,aHF,ar3,aHE,ar4,aHD⟩:=ak.y5 w.heap.size 0 1 2 3 4 (J 0) (J 0) (J 0) (J 0) (Value.nilFunc);have aHM:=dU gG;have aQt:=Qm aHH;have aHL:=dU Di;have aQs:=Qm aHG;have aHK:=dU ar2;have aQr:=Qm aHF;have aHJ:=dU ar3;have aQq:=Qm aHE;have aHI:=dU ar4;have aQp:=Qm aHD);exact bW (by simp[results,Tryz.results170,go_sem,aHM,aHL,aHK,aHJ,aHI])
def dV{f p mx one aI sg nan mn fb sp:Int}(h:bD f p mx one aI sg nan)(hm:wQ p mn mx fb sp one aI sg nan)(aj:Int)(k:Nat)(HR:KR 237 #[J aj] (.tuple #[.func (.func k) #[] #[],U Q])){w:World}(hw:Fm w):
  rV f aj w p mn mx k Q:=by
 exact aLo
def gJ{f p mx one aI sg nan mn fb sp:Int}(h:bD f p mx one aI sg nan)(hm:wQ p mn mx fb sp one aI sg nan)(aj:Int)(HR:KR 237 #[J aj] (.tuple #[Value.nilFunc,U D])){w:World}(hw:Fm w):
  QR 170 #[J f,J aj] w (.tuple #[.agg #[J p,J mn,J mx,J aj,Value.nilFunc],U D]):=by
 exact aLo
def aFw(p mn mx one aI aj aJ:Int)(M:Nat)(e:Int)(rest:Bool):∃z fl,bH p mn mx one aI aj aJ M e rest z fl:=by
 obtain⟨b_,iT⟩:=x_n (nb M+e-1:Int);obtain⟨E,hE⟩:∃E:Int,b_<mn/\E=mn\/mn<=b_/\E=b_:=by
  by_cases c:b_<mn
  .exact⟨mn,.inl ⟨c,rfl⟩⟩
  .exact⟨b_,.inr ⟨om,rfl⟩⟩
 obtain⟨hf,hhf⟩:=x_n (bg M e (E-p+1) rest);obtain⟨r,hr⟩:=x_n (chosen aj aJ (dw M e (E-p+1)) hf);obtain⟨r2,qU⟩:=x_n (chosen aj aJ (dw M e (b_-p+1)) (bg M e (b_-p+1) rest));by_cases c1:mx<b_
 .exact⟨_,_,b_,E,r,r2,hf,iT,hE,hhf,hr,qU,.inl ⟨c1,rfl,rfl⟩⟩
 .by_cases c2:aI<=r+one*(E-mn)
  .exact⟨_,_,b_,E,r,r2,hf,iT,hE,hhf,hr,qU,.inr (.inl ⟨om,c2,rfl,rfl⟩)⟩
  .rcases Nat.eq_zero_or_pos hf with c3|c3
   .exact⟨_,_,b_,E,r,r2,hf,iT,hE,hhf,hr,qU,.inr (.inr ⟨om,om,rfl,.inl ⟨c3,rfl⟩⟩)⟩
   .by_cases c4:b_<mn-1\/b_=mn-1/\(r2:Int)<2*one
    .exact⟨_,_,b_,E,r,r2,hf,iT,hE,hhf,hr,qU,.inr (.inr ⟨om,om,rfl,.inr (.inl ⟨c3,c4,rfl⟩)⟩)⟩
    .exact⟨_,_,b_,E,r,r2,hf,iT,hE,hhf,hr,qU,.inr (.inr ⟨om,om,rfl,.inr (.inr ⟨c3,om,rfl⟩)⟩)⟩
def kW(aj:Int)(m0:0<=aj)(m1:aj<=4):∃k,xU aj k:=by
 unfold xU;rcases(om:aj=0\/aj=1\/aj=2\/aj=3\/aj=4)with rfl|rfl|rfl|rfl|rfl
 .exact⟨_,.inl ⟨rfl,rfl⟩⟩
 .exact⟨_,.inr (.inl ⟨rfl,rfl⟩)⟩
 .exact⟨_,.inr (.inr (.inl ⟨rfl,rfl⟩))⟩
 .exact⟨_,.inr (.inr (.inr (.inl ⟨rfl,rfl⟩)))⟩
 .exact⟨_,.inr (.inr (.inr (.inr ⟨rfl,rfl⟩)))⟩
def aAV(aJ sg z:Int):sv aJ sg z=sw aJ sg z:=by unfold sv sw;split<;>omega
set_option maxRecDepth 1000000
def aEI{P:Prop}(h:P:=by
 go_enter func146,ntmps146;go_wp2;all_goals go_returns
 all_goals exact⟨bU (congrArg Value.bool (by rw[hB.out,Bool.eq_iff_iff];simp<;>omega)),kr⟩):P:=h
def yj(c s x g c' s' x' g':Int)(b:Bool)(hb:b=decide (c=2/\c'=0\/c=0/\c'=2))(w:World):
  QR 146 #[d_ c s x g,d_ c' s' x' g'] w (U b):=by
 have hB:Hid (b=decide (c=2/\c'=0\/c=0/\c'=2)):=hb;clear hb;rcases(om:c=2\/c=0\/(c≠2/\c≠0))with rfl|rfl|⟨h1,h2⟩
 .exact aEI
 .exact aEI
 .have e1:(c==2)=D:=jl;have e2:(c==0)=D:=jl;exact aEI
set_option maxRecDepth 1000000
def aLn{P:Prop}(h:P:=by
 have a0:=ha.1;have a1:=ha.2;have b0:=hb.1;have b1:=hb.2;unfold yD;rw[aOv ha,aOv hb];simp only[ne_eq,decide_eq_decide]
 (repeat' split)<;>omega):P:=h
def aOv{a:Int}(h:Wo a):a.tmod 9223372036854775808=a%9223372036854775808:=Int.tmod_eq_emod_of_nonneg h.1
def Zl{a b:Int}(ha:Wo a)(hb:Wo b):0<=yD a b↔(a%9223372036854775808=0/\b%9223372036854775808=0)\/(a<9223372036854775808/\b<9223372036854775808/\b<=a)\/(a<9223372036854775808/\9223372036854775808<=b)\/(9223372036854775808<=a/\9223372036854775808<=b/\a<=b):=by
 exact aLn
def Zk{a b:Int}(ha:Wo a)(hb:Wo b):yD a b<=0↔(a%9223372036854775808=0/\b%9223372036854775808=0)\/(a<9223372036854775808/\b<9223372036854775808/\a<=b)\/(9223372036854775808<=a/\b<9223372036854775808)\/(9223372036854775808<=a/\9223372036854775808<=b/\b<=a):=by
 exact aLn
def Ob{b:Bool}{P:Prop}[Decidable P](h:b=Q↔P):b=decide P:=by
 by_cases p:P
 .rw[decide_eq_true p];exact h.mpr p
 .rw[decide_eq_false p];cases b
  .rfl
  .exact absurd (h.mp rfl) p
def aQo{a c s:Int}(ha:Wo a)(hu:Unp a c s):(!decide (1<c)&&(decide (0<=yD a 14010698440749613056)&&decide (yD a 4787326403894837248<=0)))=decide (a%9223372036854775808<=4787326403894837248):=by
 refine Ob ?_;have a0:=ha.1;have a1:=ha.2;have h:=hu.2.1;rw[Bool.and_eq_true,Bool.and_eq_true,Bool.not_eq_true',decide_eq_false_iff_not,decide_eq_true_eq,decide_eq_true_eq,Zl ha (Wo.c _),Zk ha (Wo.c _),h];omega
def aL0{a c s:Int}(ha:Wo a)(hu:Unp a c s):(!decide (1<c)&&(decide (0<=yD a vC)&&decide (yD a 4607182418800017408<=0)))=(decide (vC<=a)&&decide (a<=4607182418800017408)):=by
 refine(Ob (P:=vC<=a/\a<=4607182418800017408) ?_).trans (Bool.decide_and _ _);have a0:=ha.1;have a1:=ha.2;have h:=hu.2.1;rw[Bool.and_eq_true,Bool.and_eq_true,Bool.not_eq_true',decide_eq_false_iff_not,decide_eq_true_eq,decide_eq_true_eq,Zl ha (Wo.c _),Zk ha (Wo.c _),h];unfold vC;omega
def aQn{a c s:Int}(ha:Wo a)(hu:Unp a c s):((!decide (1<c)&&(decide (0<=yD a 0)&&decide (yD a 4607182418800017408<=0)))&& !decide (c=0))=(decide (0<a)&&decide (a<=4607182418800017408)):=by
 refine(Ob (P:=0<a/\a<=4607182418800017408) ?_).trans (Bool.decide_and _ _);have a0:=ha.1;have a1:=ha.2;have h:=hu.2.1;have h2:=hu.2.2.1;rw[Bool.and_eq_true,Bool.and_eq_true,Bool.and_eq_true,Bool.not_eq_true',Bool.not_eq_true',decide_eq_false_iff_not,decide_eq_false_iff_not,decide_eq_true_eq,decide_eq_true_eq,Zl ha (Wo.c _),Zk ha (Wo.c _),h,h2];omega
structure Smp where
 st:Int
 z:Int
 us:Int
 tr:Int
def Tried(a:Nat->Bool)(Z:Nat->Int)(n:Nat)(r:Smp):Prop:=
 (∃k,17*k+17<=n/\a k=Q/\(∀j,j<k->a j=D)/\r=⟨0,Z k,17*(k:Int)+17,(k:Int)+1⟩)\/
 (∃k,n<17*k+17/\17*k<=n/\(∀j,j<k->a j=D)/\r=⟨2,0,17*(k:Int),(k:Int)⟩)
def Tried.one{a:Nat->Bool}{Z:Nat->Int}{n:Nat}{r r':Smp}(h:Tried a Z n r)(h':Tried a Z n r'):r=r':=by
 rcases h with⟨k,k1,k2,k3,rfl⟩|⟨k,k1,k2,k3,rfl⟩<;>rcases h' with⟨j,j1,j2,j3,rfl⟩|⟨j,j1,j2,j3,rfl⟩
 .obtain rfl:k=j:=by
   rcases Nat.lt_trichotomy k j with h|h|h
   .rw[j3 k h]at k2;cases k2
   .exact h
   .rw[k3 j h]at j2;cases j2
  rfl
 .have:k<j:=om;rw[j3 k this]at k2;cases k2
 .have:j<k:=om;rw[k3 j this]at j2;cases j2
 .obtain rfl:k=j:=om;rfl
namespace O7
variable (o:O7)
def Jf(mu inv scale:Int)(s:ByteArray)(k:Nat):Bool:=o.acc (Um (jU (num s (17*k) 8)) (g_ s (17*k+8))) (jU (num s (17*k) 8)) (o.above mu) (o.narrow inv) (o.shr scale) (num s (17*k+9) 8)
def zAt(mu:Int)(s:ByteArray)(k:Nat):Int:=wrap64 (Um (jU (num s (17*k) 8)) (g_ s (17*k+8))+wrap64 (o.whole (o.jW mu)))
def lT(mu inv scale:Int)(s:ByteArray)(r:Smp):Prop:=
 if s.size<=20000/\isC mu inv scale=Q then Tried (o.Jf mu inv scale s) (o.zAt mu s) s.size r else r=⟨1,0,0,0⟩
def lT.one{o:O7}{mu inv scale:Int}{s:ByteArray}{r r':Smp}(h:o.lT mu inv scale s r)(h':o.lT mu inv scale s r'):r=r':=by
 unfold lT at h h';split at h
 .rename_i c
  rw[if_pos c]at h';exact h.one h'
 .rename_i c
  rw[if_neg c]at h';rw[h,h']
end O7
abbrev O1(r:Smp):Value:=.agg #[J r.st,J r.z,J r.us,J r.tr]
def Vj{o:O7}(H:o.S)(HI:o.In){mu inv scale:Int}(hm:Wo mu)(hi:Wo inv)(hs:Wo scale)(s:ByteArray)(hz:s.size<=1048576)(hn:¬(s.size<=20000/\isC mu inv scale=Q))(w:World):
  QB 56 #[Y O mu,Y O inv,Y O scale,.string s] w (O1 ⟨1,0,0,0⟩):=by
 obtain⟨c1,s1,x1,g1,u1,U1⟩:=H.unp hm;obtain⟨c2,s2,x2,g2,u2,U2⟩:=H.unp hi;obtain⟨c3,s3,x3,g3,u3,U3⟩:=H.unp hs;have e1:=aQo hm u1;have e2:=aL0 hi u2;have e3:=aQn hs u3;have hf3:∀w,(Instr.field 129 (d_ c3 s3 x3 g3) 0).run Tryz.prog w=.ok (J c3) w:=λw=>by kernel_rfl
 have B1:KB 125 #[Y O mu,J (-2199023255552),J 2199023255552] (U (decide (mu%9223372036854775808<=4787326403894837248))):=sK H HI hm _ _ _ _ om om om om H.k1 H.k2 U1 _ e1.symm;have B2:KB 125 #[Y O inv,J 1,J 2] (U (decide (vC<=inv)&&decide (inv<=4607182418800017408))):=sK H HI hi _ _ _ _ om om om om H.k3 H.k4 U2 _ e2.symm;obtain⟨b3,qm⟩:=dK (!decide (1<c3)&&(decide (0<=yD scale 0)&&decide (yD scale 4607182418800017408<=0)));have B3:KB 125 #[Y O scale,J 0,J 2] (U b3):=sK H HI hs _ _ _ _ om om om om H.k5 H.k4 U3 _ qm.symm;rw[qm]at e3;unfold isC at hn;rw[<-e3]at hn;clear e1 e2 e3 qm u1 u2 u3 U1 U2 H HI;generalize decide (mu%9223372036854775808<=4787326403894837248)=b1 at*
 generalize(decide (vC<=inv)&&decide (inv<=4607182418800017408))=b2 at*
 rcases(show((20000:Int)<s.size\/(¬(20000:Int)<s.size/\b1=D)\/(¬(20000:Int)<s.size/\b1=Q/\b2=D)\/(¬(20000:Int)<s.size/\b1=Q/\b2=Q/\b3=D)\/(¬(20000:Int)<s.size/\b1=Q/\b2=Q/\b3=Q/\c3=0)) by
  rcases(om:(20000:Int)<s.size\/¬(20000:Int)<s.size)with h|h
  .exact .inl h
  .refine .inr ?_;have h':s.size<=20000:=om;cases b1
   .exact .inl ⟨h,rfl⟩
   .cases b2
    .exact .inr (.inl ⟨h,rfl,rfl⟩)
    .cases b3
     .exact .inr (.inr (.inl ⟨h,rfl,rfl,rfl⟩))
     .refine .inr (.inr (.inr ⟨h,rfl,rfl,rfl,?_⟩));by_cases hc:c3=0
      .exact hc
      .exact absurd ⟨h',by simp[hc]⟩ hn)with h|⟨h,rfl⟩|⟨h,rfl,rfl⟩|⟨h,rfl,rfl,rfl⟩|⟨h,rfl,rfl,rfl,rfl⟩
 .clear hn;go_enter func56,ntmps56;go_wp2;go_returns;exact⟨rfl,kg⟩
 all_goals
  clear hn;go_enter func56,ntmps56;go_wp2_with (first|(go_at_call 125;first|(with_reducible refine ku (B1.out _) λw1 ak=>?_;have oM:=ak.OB w)|(with_reducible refine ku (B2.out _) λw2 aB=>?_;have oM:=aB.OB w)|(with_reducible refine ku (B3.out _) λw3 aK=>?_;have oM:=aK.OB w))|(go_at_call 126;refine ku (U3 _) λw4 aV=>?_;have oM:=aV.OB w))
  exact dI (by simp[results,Tryz.results56,go_sem,oM])
set_option maxRecDepth 1000000
def aEH{P:Prop}(h:P:=by
 clear hb;go_enter func193,ntmps193;go_wp2;go_returns;exact⟨rfl,rfl⟩):P:=h
def tN(k:Int)(n:Nat):Nat:=if 1<=k/\k<=6/\n=2^k.toNat then 2^(k.toNat-1)else 0
abbrev aHY(F:Nat)(args:Array Value)(w:World)(n:Nat)(f:Nat->Int × Int):Prop:=Calls Tryz.prog F args w λe w'=>∃v,e=X v/\Ow w' w.heap.size 123 2 O v n (flat f)/\Gb w w'
def log_any(k:Int)(b:Bool)(hb:b=decide (1<=k/\k<=6))(w:World):
  QW 193 #[J k] w (U b):=by
 rcases(om:(k<1\/1<=k/\6<k\/1<=k/\k<=6))with c|⟨c,c'⟩|⟨c,c'⟩
 .obtain rfl:b=D:=by rw[hb];simp;omega
  have c1:¬1<=k:=om;exact aEH
 .obtain rfl:b=D:=by rw[hb];simp;omega
  have c1:¬k<=6:=om;exact aEH
 .obtain rfl:b=Q:=by rw[hb];simp;omega
  exact aEH
def UR{o:Ops}(H:o.I)(HI:o.In)(k:Nat)(jB:1<=k)(Z7:k<=6){w:World}{v cv:Value}{cs:Nat->Int}(hw:Fm w)(hr:Rd w O v (2^k) (2^k) cs)(wW:∀j,Wd (cs j))(hc:CR o w cv (k+1)):
  aHY 196 #[cv,v] w (2^(k-1)) (o.tr k cs):=by
 have HW:Hid (CT 264 #[J (k:Int),v,.func (.func 265) #[] #[],.func (.func 266) #[] #[],.func (.func 267) #[cv] #[]] w λe w'=>∃v',e=X v'/\Ow w' w.heap.size 123 2 O v' (2^(k-1)) (flat (o.tr k cs))/\Gb w w'):=aAE H HI k jB k w v cv (k+1) cs rfl hw hr wW hc om om;obtain⟨g,cap,rfl,_⟩:=hc;obtain⟨n,hn⟩:=x_n (k+1);rw[<-hn]at HW⊢
 have u:IntKind.i64.wrap ((n:Int)-1)=(k:Int):=wi;clear hw hr wW H HI hn;go_enter func196,ntmps196;go_wp2_with (go_at_call 264;refine HW.out.mono ?_;rintro e w1 ⟨v',rfl,EO,ak⟩);go_returns;exact⟨_,rfl,EO,ak⟩
def XP{o:Ops}(H:o.S)(HI:o.In)(k:Int){w:World}{v:Value}{n:Nat}{cs:Nat->Int}(hn:n<=2000000)(hr:Rd w O v n n cs)(wW:∀j,Wd (cs j)):
  aHY 120 #[J k,v] w (tN k n) (o.tr k.toNat cs):=by
 by_cases h:1<=k/\k<=6
 .by_cases hk:n=2^k.toNat
  .have ht:tN k n=2^(k.toNat-1):=by unfold tN;rw[if_pos ⟨h.1,h.2,hk⟩]
   rw[ht];rw[hk]at hr;exact UU H HI k.toNat om om k w v cs om hr wW
  .have ht:tN k n=0:=by unfold tN;rw[if_neg (λh'=>hk h'.2.2)]
   rw[ht];obtain⟨a,cap,rfl,_⟩:=hr;obtain⟨L,hL⟩:=x_n (2^k.toNat);have HS:KW 46 #[J k] (J (L:Int)):=λw=>xG k k.toNat om om L (by rw[hL]) w;have hq:((n:Int)==(L:Int))=D:=jl;have k1:¬k<1:=om;have k2:¬(6:Int)<k:=om;clear hk ht H HI wW h hL;go_enter func120,ntmps120;go_wp2_with (go_at_call 46;refine kw (HS _) ?_);go_returns;exact⟨_,rfl,Ow.lit _ _ _ _ _,kg⟩
 .have ht:tN k n=0:=by unfold tN;rw[if_neg (λh'=>h ⟨h'.1,h'.2.1⟩)]
  rw[ht];obtain⟨a,cap,rfl,_⟩:=hr;clear ht H HI wW;rcases(om:k<1\/1<=k/\6<k)with c|⟨c,c'⟩
  .clear h;go_enter func120,ntmps120;go_wp2;go_returns;exact⟨_,rfl,Ow.lit _ _ _ _ _,kg⟩
  .have c1:¬k<1:=om;clear h;go_enter func120,ntmps120;go_wp2;go_returns;exact⟨_,rfl,Ow.lit _ _ _ _ _,kg⟩
set_option maxRecDepth 1000000
def bN(k:Int)(n:Nat):Nat:=if 1<=k/\k<=6/\n=2^(k.toNat-1)then 2^k.toNat else 0
abbrev aHW(F:Nat)(args:Array Value)(w:World)(n:Nat)(f:Nat->Int):Prop:=Calls Tryz.prog F args w λe w'=>∃v,e=X v/\Ow w' w.heap.size 71 1 O v n f/\Gb w w'
def aN0{o:Ops}(H:o.I)(HI:o.In)(k:Nat)(jB:1<=k)(Z7:k<=6){w:World}{v cv:Value}{zs:Nat->Int × Int}(hw:Fm w)(hr:Rd w O v (2^(k-1)) (2^(k-1)*2) (flat zs))(wW:∀j,rU (zs j))(hc:CR o w cv (k+1)):
  aHW 198 #[cv,v] w (2^k) (o.bk k zs):=by
 have HW:Hid (CT 269 #[J (k:Int),v,.func (.func 270) #[cv] #[],.func (.func 271) #[] #[],.func (.func 265) #[] #[]] w λe w'=>∃v',e=X v'/\Ow w' w.heap.size 71 1 O v' (2^k) (o.bk k zs)/\Gb w w'):=aAF H HI k jB k w v cv (k+1) zs rfl hw hr wW hc om om;obtain⟨g,cap,rfl,_⟩:=hc;obtain⟨n,hn⟩:=x_n (k+1);rw[<-hn]at HW⊢
 have u:IntKind.i64.wrap ((n:Int)-1)=(k:Int):=wi;clear hw hr wW H HI hn;go_enter func198,ntmps198;go_wp2_with (go_at_call 269;refine HW.out.mono ?_;rintro e w1 ⟨v',rfl,EO,ak⟩);go_returns;exact⟨_,rfl,EO,ak⟩
def aOd{o:Ops}(H:o.S)(HI:o.In)(k:Int){w:World}{v:Value}{n:Nat}{zs:Nat->Int × Int}(hn:n<=2000000)(hr:Rd w O v n (n*2) (flat zs))(wW:∀j,rU (zs j)):
  aHW 123 #[J k,v] w (bN k n) (o.bk k.toNat zs):=by
 by_cases h:1<=k/\k<=6
 .by_cases hk:n=2^(k.toNat-1)
  .have ht:bN k n=2^k.toNat:=by unfold bN;rw[if_pos ⟨h.1,h.2,hk⟩]
   rw[ht];rw[hk]at hr;exact aBE H HI k.toNat om om k w v zs om hr wW
  .have ht:bN k n=0:=by unfold bN;rw[if_neg (λh'=>hk h'.2.2)]
   rw[ht];obtain⟨a,cap,rfl,_⟩:=hr;obtain⟨L,hL⟩:=x_n (2^k.toNat);have JK:L=2*2^(k.toNat-1):=by rw[hL,Nat.mul_comm,<-Nat.pow_succ];congr 1;omega
   have HS:KW 46 #[J k] (J (L:Int)):=λw=>xG k k.toNat om om L (by rw[hL]) w;obtain⟨M,hM⟩:=x_n (n*2);have u:IntKind.i64.wrap ((n:Int)*2)=(M:Int):=wi;have hq:((M:Int)==(L:Int))=D:=jl;have k1:¬k<1:=om;have k2:¬(6:Int)<k:=om;clear hk ht H HI wW h hL JK hM;go_enter func123,ntmps123;go_wp2_with (go_at_call 46;refine kw (HS _) ?_);go_returns;exact⟨_,rfl,Ow.lit _ _ _ _ _,kg⟩
 .have ht:bN k n=0:=by unfold bN;rw[if_neg (λh'=>h ⟨h'.1,h'.2.1⟩)]
  rw[ht];obtain⟨a,cap,rfl,_⟩:=hr;clear ht H HI wW;rcases(om:k<1\/1<=k/\6<k)with c|⟨c,c'⟩
  .clear h;go_enter func123,ntmps123;go_wp2;go_returns;exact⟨_,rfl,Ow.lit _ _ _ _ _,kg⟩
  .have c1:¬k<1:=om;clear h;go_enter func123,ntmps123;go_wp2;go_returns;exact⟨_,rfl,Ow.lit _ _ _ _ _,kg⟩
set_option maxRecDepth 1000000
def aC2(ty t:TypeId)(z:Value)(size bytes:Nat)(JG:Tryz.prog.underlying ty=some (.slice t))(u_:(Tryz.prog.info? t).map (λi=>(i.zero,i.size,i.bytes))=some (some z,size,bytes))(Dh:bytes<=1000)(n:Nat)(hn:n<=10000000)(w:World):
  (Instr.makeSlice ty (J 0) (J (n:Int))).run Tryz.prog w=.ok (aC w.heap.size 0 n) (w.alloc (.cells (madeCells z.cells (n*size)) t)):=by
 obtain⟨i,hi,hz,hs,hb⟩:=info_parts u_;have AV:(i.bytes:Int)*(n:Int)<=281474976710656:=by
  have h:i.bytes*n<=1000*10000000:=Nat.mul_le_mul om hn;have h':((i.bytes*n:Nat):Int)<=281474976710656:=om
  rwa [Int.natCast_mul]at h'
 have hr:=run_make (P:=Tryz.prog) w ty t i z JG hi hz .i64 .i64 0 n om om AV om;simp only[Int.toNat_natCast,hs]at hr;exact hr
def Ow.aPm(w:World)(t:TypeId)(size:Nat)(z:Array Value)(k:IntKind)(g:Nat->Int)(n:Nat)(hn:n<=10000000):Ow (w.alloc (.cells (madeCells z (n*size)) t)) w.heap.size t size k (aC w.heap.size 0 n) 0 g:=by
 refine⟨by simp[uv],.inr ⟨w.heap.size,n,madeCells z (n*size),rfl,Nat.le_refl _,heap_alloc_new w _,Nat.zero_le _,by unfold maxLen;omega,size_madeCells _ _,by simp[uv]⟩⟩
def aGA:(Tryz.prog.info? 3).map (λi=>(i.zero,i.size,i.bytes))=some (some (J 0),1,8):=by kernel_rfl
def aDt(kk:Nat)(K N:Int)(n h:Nat)(hK:K=(kk:Int))(jB:1<=kk)(Z7:kk<=6)(hN2:(2:Int)^kk=N)(hN:N=(n:Int))(hn:n<=128)(hh:h<=128)(Nu:0<n)(Qv:0<h)(a0:Option Addr)(cap0:Nat)(vg:Value)(w:World)(cf cg cs tz:Nat->Int)(zf zg zp:Nat->Int × Int)(C:World->Value->Prop)(HCg:Hid (∀w w' v,C w v->Gb w w'->C w' v))
  (HL:KW 193 #[J K] (U Q))
  (HF:Hid (∀w',Gb w w'->CT 194 #[J N,.slice a0 n cap0] w' λe aT=>∃v,e=X (.tuple #[v,U Q])/\Rd aT O v n n cf/\Gb w' aT))
  (HG:Hid (∀w',Gb w w'->CT 194 #[J N,vg] w' λe aT=>∃v,e=X (.tuple #[v,U Q])/\Rd aT O v n n cg/\Gb w' aT))
  (HC:Hid (∀w',Gb w w'->CT 195 #[J K] w' λe aT=>∃v,e=X v/\C aT v/\Gb w' aT))
  (HTf:Hid (∀w' u cv,Gb w w'->C w' cv->Rd w' O u n n cf->CT 196 #[cv,u] w' λe aT=>∃v,e=X v/\Ow aT w'.heap.size 123 2 O v h (flat zf)/\Gb w' aT))
  (HTg:Hid (∀w' u cv,Gb w w'->C w' cv->Rd w' O u n n cg->CT 196 #[cv,u] w' λe aT=>∃v,e=X v/\Ow aT w'.heap.size 123 2 O v h (flat zg)/\Gb w' aT))
  (HP:Hid (∀j,j<h->∀w',Gb w w'->QR 197 #[aN ((zf j).1) ((zf j).2),aN ((zg j).1) ((zg j).2)] w' (aN ((zp j).1) ((zp j).2))))
  (HB:Hid (∀w' u cv,Gb w w'->C w' cv->Rd w' O u h (h*2) (flat zp)->CT 198 #[cv,u] w' λe aT=>∃b cap,e=X (aC b n cap)/\w'.heap.size<=b/\b<aT.heap.size/\(∀q,q<n->aA aT b q (Y O (cs q)))/\Gb w' aT))
  (HI:Hid (∀j,j<n->∀w',Gb w w'->CT 94 #[J 1,J 0,J 1,Y O (cs j)] w' λe aT=>∃fl:Int,e=X (aP (tz j) fl)/\Gr w' aT)):
  CT 103 #[J K,.slice a0 n cap0,vg] w λe w'=>∃v,e=X (.tuple #[v,U Q])/\Ow w' w.heap.size 3 1 .i64 v n (λj=>IntKind.i64.wrap (tz j))/\Gb w w':=by
 have hf:=P7;subst hK;have Pv:IntKind.i64.wrap N=N:=wi;have jA:IntKind.i64.wrap ((2:Int)^kk)=N:=by rw[hN2];exact Pv
 have hw3:IntKind.i64.wrap (1*(2:Int)^kk)=N:=by rw[Int.one_mul];exact jA
 have HNn:Hid (N=(n:Int)):=hN;clear hN hN2;go_enter func103,ntmps103;go_upto_region 4 with(first|(go_at_call 193;refine kw (HL _) ?_)|(go_at_call 194;refine(HF _ kg).mono ?_;rintro e w1 ⟨u1,rfl,tK,ak⟩))
 go_upto_region 7 with(go_at_call 194;refine(HG _ kg).mono ?_;rintro e w2 ⟨u2,rfl,qU,aB⟩);have aNh:=tK.gb aB;go_upto_region 8 with(go_at_call 195;refine(HC _ kg).mono ?_;rintro e W ⟨cv,rfl,hcv,CO⟩);have HR1:Hid (Rd W O u1 n n cf):=aNh.gb CO;have HR2:Hid (Rd W O u2 n n cg):=qU.gb CO;have HCV:Hid _:=hcv;have GW:Hid (Gb w W):=(show Gb w W from kg);clear tK aNh qU hcv ak aB CO HL HF HG HC;go_upto_region 9 with(go_at_call 196;first|(with_reducible refine(HTf.out _ _ _ GW.out HCV.out HR1.out).mono ?_;rintro e w3 ⟨va,rfl,hoa,aK⟩)|(with_reducible refine(HTg.out _ _ _ (GW.out.trans aK) (HCg.out _ _ _ HCV.out aK) (show Rd w3 O u2 n n cg from HR2.out.gb aK)).mono ?_;rintro e w4 ⟨vb,rfl,hob,aV⟩))
 obtain⟨ba,ca,rfl,a1,a2,a3,a4,ac⟩:=hoa.at Qv;obtain⟨bb,cb,rfl,b1,b2,b3,b4,bc⟩:=hob.at Qv;have s3:=aK.size;have jV:ba≠bb:=om;have HOA:Hid (Ow w4 W.heap.size 123 2 O (aC ba h ca) h (flat zf)):=hoa.gb aV;have HOB:Hid (Ow w4 W.heap.size 123 2 O (aC bb h cb) h (flat zg)):=hob.mono s3;have GG:Hid (Gb W w4):=aK.trans aV;have HNE:Hid _:=jV;clear HTf HTg HR1 HR2 hoa hob aK aV ac bc a1 a2 b1 b2 s3 jV;go_wp2;go_loopw [53] (λi wr=>∃j:Nat,j<=h/\i=J j/\Ow wr W.heap.size 123 2 O (aC ba h ca) h (λq=>if q<2*j then flat zp q else flat zf q)/\Ow wr W.heap.size 123 2 O (aC bb h cb) h (flat zg)/\Gb W wr) (λi _=>h-(intOf i).toNat)
 case atStart=>exact⟨0,Nat.zero_le _,rfl,Ow.congr HOA.out (λq hq=>by rw[if_neg (by omega)]),HOB.out,GG.out⟩
 case round=>
  obtain⟨j,hj,rfl,EO,Oy,dH⟩:=hrel;have HP1:Hid _:=EO;have HP2:Hid _:=Oy;by_cases fF:j<h
  .have jc:(j:Int)<(h:Int):=om;obtain⟨b1',cap1,e1,gU,hB1,_,_,yI⟩:=EO.at Qv;obtain⟨b2',cap2,e2,lC,hB2,_,_,w_⟩:=Oy.at Qv;simp only[Value.slice.injEq,Option.some.injEq,Addr.mk.injEq,and_true,true_and]at e1 e2;obtain⟨rfl,rfl⟩:=e1;obtain⟨rfl,rfl⟩:=e2;obtain⟨c1,z1⟩:=yI (j*2) om;obtain⟨c1',z1'⟩:=yI (j*2+1) om;obtain⟨c2,z2⟩:=w_ (j*2) om;obtain⟨c2',z2'⟩:=w_ (j*2+1) om;rw[if_neg (by omega)]at c1 c1';have HSq:Hid (∀w',Gb W w'->QR 197 #[aN ((zf j).1) ((zf j).2),aN ((zg j).1) ((zg j).2)] w' (aN ((zp j).1) ((zp j).2))):=λw' hg=>HP j fF w' (GW.out.trans hg);have f0:Hid (flat zp (j*2)=(zp j).1):=by show _=_;rw[Nat.mul_comm,eP]
   have f1:Hid (flat zp (j*2+1)=(zp j).2):=by show _=_;rw[Nat.mul_comm,eU]
   rw[show flat zf (j*2)=(zf j).1 by rw[Nat.mul_comm,eP]]at c1;rw[show flat zf (j*2+1)=(zf j).2 by rw[Nat.mul_comm,eU]]at c1';rw[show flat zg (j*2)=(zg j).1 by rw[Nat.mul_comm,eP]]at c2;rw[show flat zg (j*2+1)=(zg j).2 by rw[Nat.mul_comm,eU]]at c2';generalize(zf j).1 =x1 at*
   generalize(zf j).2 =x2 at*
   generalize(zg j).1 =y1 at*
   generalize(zg j).2 =y2 at*
   generalize(zp j).1 =t1 at*
   generalize(zp j).2 =t2 at*
   clear EO Oy yI w_;go_wp2;go_region_with
    (first|(go_at_call 197;refine ku (HSq _ kg) λw5 bJ=>?_;have hz5:=bJ.size;(try simp only[World.size_drew,World.size_alloc]at hz5);have cc0:aA w5 ba (j*2) (Y O x1):=bJ.c;have cz0:dB w5 ba (j*2):=bJ.z;have cc1:aA w5 ba (j*2+1) (Y O x2):=bJ.c;have cz1:dB w5 ba (j*2+1):=bJ.z))
   all_goals
    go_wp2;go_roundw
    case rel=>
     refine⟨j+1,om,by go_num,?_,Ow.other (Ow.other (Ow.gb (Ow.drew (Ow.alloc HP2.out _)) bJ.gb) HNE.out _) HNE.out _,kg⟩;refine Ow.congr (Ow.store (Ow.store (Ow.gb (Ow.drew (Ow.alloc HP1.out _)) bJ.gb) (j*2) t1) (j*2+1) t2) (λq hq=>?_);by_cases e1:q=j*2+1
     .rw[if_pos e1,if_pos om,e1];exact f1.out.symm
     .by_cases e0:q=j*2
      .rw[if_neg e1,if_pos e0,if_pos om,e0];exact f0.out.symm
      .by_cases e2:q<2*j
       .rw[if_neg e1,if_neg e0,if_pos e2,if_pos (by omega)]
       .rw[if_neg e1,if_neg e0,if_neg e2,if_neg (by omega)]
    case measure=>exact uz
  .obtain rfl:j=h:=om;have D6:¬(j:Int)<(j:Int):=om
   rename World=>V
   have rb:Rd V O (aC ba j ca) j (j*2) (flat zp):=(Ow.rd HP1.out).congr (λq hq=>by rw[if_pos (by omega)]);have HBk:Hid (∀w',Gb V w'->CT 198 #[cv,aC ba j ca] w' λe aT=>∃b cap,e=X (aC b n cap)/\w'.heap.size<=b/\b<aT.heap.size/\(∀q,q<n->aA aT b q (Y O (cs q)))/\Gb w' aT):=λw' hg=>HB w' _ _ (GW.out.trans (dH.trans hg)) (HCg _ _ _ HCV.out (dH.trans hg)) (rb.gb hg);have GV:Hid (Gb w V):=GW.out.trans dH;have hmk:∀w,(Instr.makeSlice 80 (J 0) (J (n:Int))).run Tryz.prog w=.ok (aC w.heap.size 0 n) (w.alloc (.cells (madeCells #[J 0] (n*1)) 3)):=λw=>aC2 80 3 (J 0) 1 8 Tryz.underlying80 aGA de n om w;clear EO Oy HP1 HP2 HOA HOB GG rb dH HNE HP HB HCV HCg GW;have HM0:Hid (Ow (V.alloc (.cells (madeCells #[J 0] n) 3)) V.heap.size 3 1 .i64 (aC V.heap.size 0 n) 0 (λj=>IntKind.i64.wrap (tz j))):=by
    have:=Ow.aPm V 3 1 #[J 0] .i64 (λj=>IntKind.i64.wrap (tz j)) n om;rw[Nat.mul_one]at this;exact this
   go_wp2_with (go_at_call 198;refine(HBk _ kg).mono ?_;rintro e V2 ⟨bc,cc,rfl,aSy,hbc,Oz,aLS⟩);rw[World.size_alloc]at aSy;have HO0:Hid _:=Ow.gb HM0.out aLS;have HCC:Hid _:=Oz;have GV2:Hid (Gb V V2):=(show Gb V V2 from kg);clear Oz aLS HM0 HBk hmk;go_loopw [17,75] (λf i wr=>∃j:Nat,j<=n/\i=J j/\Ow wr V.heap.size 3 1 .i64 f j (λj=>IntKind.i64.wrap (tz j))/\f.ownBlock≠some bc/\(∀q,q<n->aA wr bc q (Y O (cs q)))/\Gb V wr) (λ_ i _=>n-(intOf i).toNat)
   case atStart=>exact⟨0,Nat.zero_le _,rfl,HO0.out,by simp[Value.ownBlock];omega,HCC.out,GV2.out⟩
   case round=>
    obtain⟨i,hi,rfl,iU,Tf,W9,FN⟩:=hrel;have aPt:=FN.size;by_cases fF:i<n
    .have jc:(i:Int)<(n:Int):=om;have HIj:Hid _:=HI i fF;have x0:=W9 i fF;have hbs:=au x0;have HCL:Hid _:=W9;obtain⟨y,hy⟩:=dK (IntKind.i64.wrap (tz i));have e0:Hid ((λj=>IntKind.i64.wrap (tz j)) (i*1+0)=y):=by show _=_;rw[Nat.mul_one,Nat.add_zero];exact hy
     have BH:Hid (∀w2,Gb wr w2->Ow w2 V.heap.size 3 1 .i64 _ i (λj=>IntKind.i64.wrap (tz j))):=λw2 hg=>Ow.gb iU hg;have HGw:Hid (∀w2,Gb wr w2->Gb w w2):=λw2 hg=>GV.out.trans (FN.trans hg);clear iU W9;go_wp2_with (first|(go_at_call 94;refine(HIj _ (HGw _ kg)).mono ?_;rintro e w2 ⟨fl,rfl,aB⟩)|(at_builtin;refine lG rfl _ _ 80 rfl 3 (J 0) 1 8 .i64 Tryz.underlying80 aGA rfl de de V.heap.size i 1 (λj=>IntKind.i64.wrap (tz j)) _ w2.heap.size rfl (BH _ kg) rfl (Ag (g:=λj=>IntKind.i64.wrap (tz j)) (m:=i*1) (by simp[go_sem]) e0.out) om om (by have:=aB.size;rw[World.size_alloc];omega) ?_;intro v' w3 oD qm wU ho3))
     go_roundw
     case rel=>
      refine⟨i+1,om,by go_num,oD,?_,λq hq=>wU _ _ _ (by have:=aB.old (HCL q hq);exact kb) Tf,Gb.below kg qm (Nat.le_refl _)⟩;rcases ho3 with h3|h3
      .rw[h3];exact Tf
      .rw[h3,World.size_alloc];have:=aB.size;intro h;injection h;omega
     case measure=>exact uz
    .obtain rfl:i=n:=om;have jc:¬(i:Int)<(i:Int):=om;have X5:=Ow.mono iU GV.out.size;have hgE:Gb w wr:=GV.out.trans FN;clear iU;go_wp2;go_returns;exact⟨_,rfl,X5,hgE⟩
set_option maxRecDepth 1000000
def TiS(ti:Int->Int):Prop:=∀c,Wd c->Hid (∀w,CT 69 #[J 1,J 0,J 1,Y O c] w λe w'=>∃fl:Int,e=X (aP (ti c) fl)/\Gb w w')
def TiI(ti:Int->Int):Prop:=∀c,Wd c->Hid (∀w,Fm w->CT 94 #[J 1,J 0,J 1,Y O c] w λe w'=>∃fl:Int,e=X (aP (ti c) fl)/\Gr w w')
def aN9(k:Int)(L M:Nat)(f g:Nat->Int):Prop:=1<=k/\k<=6/\(L=2^k.toNat/\∀i,i<L->Ul (f i))/\(M=2^k.toNat/\∀i,i<M->Ul (g i))
def pZ(o:Ops)(k:Nat)(f g:Nat->Int)(j:Nat):Int × Int:=o.cMul (o.tr k (λj=>o.int (f j)) j) (o.tr k (λj=>o.int (g j)) j)
def pF(o:Ops)(ti:Int->Int)(k:Nat)(f g:Nat->Int)(j:Nat):Int:=IntKind.i64.wrap (ti (o.bk k (pZ o k f g) j))
def aA5{o:Ops}(HI:o.In)(k:Nat)(f g:Nat->Int)(j:Nat):rU (pZ o k f g j):=HI.cMul (HI.tr _ _ _ λ_=>HI.int _) (HI.tr _ _ _ λ_=>HI.int _)
abbrev aHX(F:Nat)(k:Int)(vf vg:Value)(w:World)(b:Bool)(n:Nat)(f:Nat->Int):Prop:=Calls Tryz.prog F #[J k,vf,vg] w λe w'=>∃v,e=X (.tuple #[v,U b])/\Ow w' w.heap.size 3 1 .i64 v n f/\Gb w w'
def aII{w':World}{b n:Nat}{t:TypeId}{v:Value}{k:IntKind}{g:Nat->Int}(ho:Ow w' b t 1 k v n g):Rd w' k v n n g:=by have:=ho.rd;rw[Nat.mul_one]at this;exact this
def aA6{k:Nat}(h:k<=6):2^k<=64:=Nat.pow_le_pow_right (show 0<2 by decide) h
def aN7{o:Ops}(H:o.S)(HI:o.In){ti:Int->Int}(HT:TiS ti)(k:Int){L M:Nat}{f g:Nat->Int}(rM:aN9 k L M f g){vf vg:Value}{w:World}(hrf:iD w vf L f)(hrg:iD w vg M g):
  aHX 53 k vf vg w Q (2^k.toNat) (pF o ti k.toNat f g):=by
 obtain⟨h1,h6,⟨hL,hf⟩,hM,hg⟩:=rM;obtain⟨n,hn⟩:=x_n (2^k.toNat);obtain⟨h,hh⟩:=x_n (2^(k.toNat-1));have aNj:n<=64:=by rw[hn];exact aA6 om
 have aSg:h<=64:=by rw[hh];exact aA6 om
 have Nu:0<n:=by rw[hn];exact Nat.pow_pos de
 have Qv:0<h:=by rw[hh];exact Nat.pow_pos de
 have tn:tN k n=h:=by unfold tN;rw[if_pos ⟨h1,h6,hn⟩,hh]
 have bn:bN k h=n:=by unfold bN;rw[if_pos ⟨h1,h6,hh⟩,hn]
 have Tc:∀(f:Nat->Int) (j:Nat),Wd (o.int (f j)):=λf j=>HI.int _;have hTr:∀(f:Nat->Int) (w':World) (u:Value),Rd w' O u n n (λj=>o.int (f j))->CT 120 #[J k,u] w' λe aT=>∃b cap,e=X (aC b h cap)/\b<aT.heap.size/\(∀q,q<h*2->aA aT b q (Y O (flat (o.tr k.toNat (λj=>o.int (f j))) q)))/\Gb w' aT:=λf w' u hr=>by
  refine(XP H HI k om hr (Tc f)).mono λe aT ⟨v,e1,e2,e3⟩=>?_;rw[tn]at e2;obtain⟨b,cap,rfl,_,c2,_,_,c3⟩:=e2.at Qv;exact⟨b,cap,e1,c2,λq hq=>(c3 q hq).1,e3⟩
 rw[<-hn]at hL hM⊢
 rw[hL]at hrf hf;rw[hM]at hrg hg;exact aBV k (n:Int) n h om om Nu Qv om om vf vg w (λj=>o.int (f j)) (λj=>o.int (g j)) (o.bk k.toNat (pZ o k.toNat f g)) (λj=>ti (o.bk k.toNat (pZ o k.toNat f g) j)) (o.tr k.toNat (λj=>o.int (f j))) (o.tr k.toNat (λj=>o.int (g j))) (pZ o k.toNat f g)
  (λw=>xG k k.toNat om om _ (by rw[hn]) w)
  (FY hrf Nu om hf _ rfl)
  (FY hrg Nu om hg _ rfl)
  (λw' dL=>(aAC H (hrf.gb dL) Nu om hf).mono λe aT ⟨v,e1,e2,e3⟩=>⟨v,e1,aII e2,e3⟩)
  (λw' dL=>(aAC H (hrg.gb dL) Nu om hg).mono λe aT ⟨v,e1,e2,e3⟩=>⟨v,e1,aII e2,e3⟩)
  (λw' u hr=>hTr f w' u hr)
  (λw' u hr=>hTr g w' u hr)
  (λj hj w'=>TP H HI (HI.tr k.toNat _ j (Tc f)).1 (HI.tr k.toNat _ j (Tc f)).2 (HI.tr k.toNat _ j (Tc g)).1 (HI.tr k.toNat _ j (Tc g)).2 w')
  (λw' u hr=>by
   show Calls _ _ _ _ _;refine(aOd H HI k om hr (aA5 HI _ f g)).mono λe aT ⟨v,e1,e2,e3⟩=>?_;rw[bn]at e2;obtain⟨b,cap,rfl,_,c2,_,_,c3⟩:=e2.at Nu;exact⟨b,cap,e1,c2,λq hq=>(c3 q om).1,e3⟩)
  (λj hj w'=>(HT _ (HI.bk _ _ _ (aA5 HI _ f g))).out w')
def aN8{o:Ops}(H:o.I)(HN:aDU o)(HI:o.In){ti:Int->Int}(HT:TiI ti)(k:Int){L M:Nat}{f g:Nat->Int}(rM:aN9 k L M f g){vf vg:Value}{w:World}(hw:Fm w)(hrf:iD w vf L f)(hrg:iD w vg M g):
  aHX 103 k vf vg w Q (2^k.toNat) (pF o ti k.toNat f g):=by
 obtain⟨h1,h6,⟨hL,hf⟩,hM,hg⟩:=rM;obtain⟨kk,hkk⟩:=x_n (k.toNat);have hk:k=(kk:Int):=om;have jB:1<=kk:=om;have Z7:kk<=6:=om;rw[<-hkk]at hL hM⊢
 obtain⟨n,hn⟩:=x_n (2^kk);obtain⟨h,hh⟩:=x_n (2^(kk-1));have aNj:n<=64:=by rw[hn];exact aA6 Z7
 have aSg:h<=64:=by rw[hh];exact aA6 om
 have Nu:0<n:=by rw[hn];exact Nat.pow_pos de
 have Qv:0<h:=by rw[hh];exact Nat.pow_pos de
 have Tc:∀(f:Nat->Int) (j:Nat),Wd (o.int (f j)):=λf j=>HI.int _;have hTr:∀(f:Nat->Int) (w':World) (u cv:Value),Gb w w'->CR o w' cv (kk+1)->Rd w' O u n n (λj=>o.int (f j))->CT 196 #[cv,u] w' λe aT=>∃v,e=X v/\Ow aT w'.heap.size 123 2 O v h (flat (o.tr kk (λj=>o.int (f j))))/\Gb w' aT:=λf w' u cv dL hc hr=>by
  rw[hh];exact UR H HI kk jB Z7 (hw.gb dL) (by rw[<-hn];exact hr) (Tc f) hc
 rw[<-hn]at hL hM⊢
 rw[hL]at hrf hf;rw[hM]at hrg hg;have aRY:=hrf;obtain⟨a0,cap0,rfl,_⟩:=aRY;exact aDt kk k (n:Int) n h hk jB Z7 (by rw[hn];simp) rfl om om Nu Qv a0 cap0 vg w (λj=>o.int (f j)) (λj=>o.int (g j)) (o.bk kk (pZ o kk f g)) (λj=>ti (o.bk kk (pZ o kk f g) j)) (o.tr kk (λj=>o.int (f j))) (o.tr kk (λj=>o.int (g j))) (pZ o kk f g) (λw cv=>CR o w cv (kk+1))
  (λw w' v h hg=>h.gb hg)
  (λw=>log_any k Q jl w)
  (λw' dL=>(Yh HN (hw.gb dL) (hrf.gb dL) Nu om hf _ rfl).mono λe aT ⟨v,e1,e2,e3⟩=>⟨v,e1,aII e2,e3⟩)
  (λw' dL=>(Yh HN (hw.gb dL) (hrg.gb dL) Nu om hg _ rfl).mono λe aT ⟨v,e1,e2,e3⟩=>⟨v,e1,aII e2,e3⟩)
  (λw' dL=>by
   show Calls _ _ _ _ _;rw[hk];exact(aAm H HI kk jB Z7 (hw.gb dL)).mono λe aT ⟨v,e1,e2,e3⟩=>⟨v,e1,e2.cr om,e3⟩)
  (hTr f) (hTr g)
  (λj hj w' dL=>NW H HI (HI.tr kk _ j (Tc f)).1 (HI.tr kk _ j (Tc f)).2 (HI.tr kk _ j (Tc g)).1 (HI.tr kk _ j (Tc g)).2 (hw.gb dL))
  (λw' u cv dL hc hr=>by
   show Calls _ _ _ _ _;refine(aN0 H HI kk jB Z7 (hw.gb dL) (by rw[<-hh];exact hr) (aA5 HI kk f g) hc).mono λe aT ⟨v,e1,e2,e3⟩=>?_;rw[<-hn]at e2;obtain⟨b,cap,rfl,c1,c2,_,_,c3⟩:=e2.at Nu;exact⟨b,cap,e1,c1,c2,λq hq=>(c3 q om).1,e3⟩)
  (λj hj w' dL=>(HT _ (HI.bk _ _ _ (aA5 HI _ f g))).out w' (hw.gb dL))
def aHt(n:Nat)(Nu:0<n){L:Nat}(hL:L<=2000000)(f:Nat->Int):∃p:Bool,(p=Q↔L=n/\∀i,i<L->Ul (f i))/\
  (∀{v:Value} {w:World},iD w v L f->QW 119 #[v,J (n:Int)] w (U p))/\
  (∀{o:Ops} {v:Value} {w:World},aDU o->Fm w->iD w v L f->CT 194 #[J (n:Int),v] w λe w'=>∃v',e=X (.tuple #[v',U p])/\Gb w w'):=by
 by_cases h:L=n
 .subst h;rcases aNb L f with hy|⟨m,hm,fF,CP⟩
  .exact⟨Q,by simp;exact hy,λhr=>FY hr Nu hL hy _ rfl,λHN hw hr=>(Yh HN hw hr Nu hL hy _ rfl).mono λe w' ⟨v,e1,_,e3⟩=>⟨v,e1,e3⟩⟩
  .exact⟨D,⟨λh=>Bool.noConfusion h,λh=>absurd (h.2 m hm) CP⟩,λhr=>aHs hr hL m hm fF CP _ rfl,λHN hw hr=>(aOg HN hw hr Nu hL m hm fF CP _ rfl).mono λe w' ⟨e1,e3⟩=>⟨_,e1,e3⟩⟩
 .exact⟨D,⟨λh=>Bool.noConfusion h,λh'=>absurd h'.1 h⟩,λhr=>aDO hr _ om,λHN hw hr=>(aMc hr _ om).mono λe w' ⟨e1,e3⟩=>⟨_,e1,e3⟩⟩
def aBH{k:Int}{L M:Nat}{f g:Nat->Int}(rM:¬aN9 k L M f g)(hL:L<=2000000)(hM:M<=2000000):
  (∀{vf vg:Value} {w:World},iD w vf L f->iD w vg M g->CW 53 k vf vg w)/\
  (∀{o:Ops} {vf vg:Value} {w:World},aDU o->Fm w->iD w vf L f->iD w vg M g->CW 103 k vf vg w):=by
 by_cases h:1<=k/\k<=6
 .obtain⟨n,hn⟩:=x_n (2^k.toNat);have Nu:0<n:=by rw[hn];exact Nat.pow_pos de
  obtain⟨p,hp,ps,pi⟩:=aHt n Nu hL f;obtain⟨q,hq,qs,qi⟩:=aHt n Nu hM g;have hpq:p=D\/p=Q/\q=D:=by
   cases p
   .exact .inl rfl
   .cases q
    .exact .inr ⟨rfl,rfl⟩
    .exact absurd ⟨h.1,h.2,by rw[<-hn];exact hp.1 rfl,by rw[<-hn];exact hq.1 rfl⟩ rM
  have hs:KW 46 #[J k] (J (n:Int)):=λw=>xG k k.toNat om om _ (by rw[hn]) w;have hkn:KN k n:=by
   unfold KN;rcases(om:k=1\/k=2\/k=3\/k=4\/k=5\/k=6)with rfl|rfl|rfl|rfl|rfl|rfl<;>simp at hn<;>simp[hn]
  refine⟨λ{vf vg w} hf hg=>?_,λ{o vf vg w} HN hw hf hg=>aGy k n hkn vf vg w (λw=>log_any k Q jl w) p q hpq (λw' dL=>pi HN (hw.gb dL) (hf.gb dL)) (λw' dL=>qi HN (hw.gb dL) (hg.gb dL))⟩;rcases hpq with rfl|⟨rfl,rfl⟩
  .exact aIk k n om om vf vg w hs (ps hf)
  .exact aIj k n om om vf vg w hs (ps hf) (qs hg)
 .exact⟨λ{vf vg w} _ _=>aIi k om vf vg w,λ{o vf vg w} _ _ _ _=>aJo k vf vg w (λw=>log_any k D jl w)⟩
