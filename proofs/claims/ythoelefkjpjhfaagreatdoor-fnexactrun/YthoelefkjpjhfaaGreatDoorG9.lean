import Derived.Test.YthoelefkjpjhfaaGreatDoorG6
import Derived.Test.YthoelefkjpjhfaaGreatDoorR3
import Derived.Test.YthoelefkjpjhfaaGreatDoorTu
set_option linter.all false
set_option maxRecDepth 1000000
set_option maxHeartbeats 40000000
open Bool renaming false → D, true → Q
open Go.Proofs.YthoelefkjpjhfaaGreatDoor renaming vI → J
open Go.Value renaming int → Y, bool → U
open Go.IntKind renaming u64 → O
open Go.Ending renaming returned → X
open Go.Proofs.Tryz
namespace Go.Proofs.YthoelefkjpjhfaaGreatDoor
open Go.RowKit
attribute [local go_sem] aB dL
def jf(c s x g:Int)(b:Bool)(hb:b=decide (3<=c))(w:ak):
  QR 140 #[fG c s x g] w (U b):=by
 have hB:Hid (b=decide (3<=c)):=hb;clear hb;go_enter func140,ntmps140;go_wp2;go_returns;exact⟨b_ (lu Value.bool (by rw[hB.out])),kr⟩
def aEG{f p mx one aN sg nan:Int}(h:bI f p mx one aN sg nan)(w:ak):
  QR 141 #[J f,U Q] w (aU nan 1):=by
 have HB:qJ f nan 1:=λw=>dA h w;clear h;go_enter func141,ntmps141;go_wp2_with (go_at_call 136;refine(HB _).mono ?_;rintro x w1 ⟨rfl,su⟩;obtain⟨iy,V_,EM,V9⟩:jX w1 w.heap.size 0 1 (Y O 0) (J 0):=⟨kq,kq,kq,kq⟩);exact cO (by simp[results,results141,go_sem,iy,EM])
def aHN{f p mx one aN sg nan:Int}(h:bI f p mx one aN sg nan)(w:ak):
  QR 141 #[J f,U D] w (aU nan 0):=by
 have HB:KW 114 #[J f] (Y O nan):=λw=>yQ h w;clear h;go_enter func141,ntmps141;go_wp2_with (go_at_call 114;refine kw (HB _) ?_);go_returns;exact⟨rfl,kr⟩
def nZ{f p mx one aN sg nan:Int}(h:bI f p mx one aN sg nan)(b:Bool)(fl:Int)(hb:fl=if b then 1 else 0)(w:ak):
  QR 141 #[J f,U b] w (aU nan fl):=by
 cases b
 .subst hb;exact aHN h w
 .subst hb;exact aEG h w
def kY{f p mx one aN sg nan:Int}(h:bI f p mx one aN sg nan)(aP:Int)(hs:aP=0\/aP=1)(w:ak):
  QR 137 #[J f,J aP] w (aU (sw aP sg 0) 0):=by
 have hb:=h.bounds;have wV:Af f aP 0 (sw aP sg 0):=λw'=>yP h aP 0 _ (by
  unfold sw;rcases hs with rfl|rfl
  .exact .inl ⟨rfl,by simp⟩
  .exact .inr ⟨rfl,by simp⟩) om om w'
 clear h hb;generalize sw aP sg 0=Z at*
 go_enter func137,ntmps137;go_wp2_with (go_at_call 118;refine kw (wV _) ?_);go_returns;exact⟨rfl,kr⟩
def eH{f p mx one aN sg nan:Int}(h:bI f p mx one aN sg nan)(aP:Int)(hs:aP=0\/aP=1)(w:ak):
  QR 142 #[J f,J aP] w (aU (sw aP sg aN) 0):=by
 have hb:=h.bounds;have wV:Af f aP aN (sw aP sg aN):=λw'=>yP h aP aN _ (by
  unfold sw;rcases hs with rfl|rfl
  .exact .inl ⟨rfl,by simp⟩
  .exact .inr ⟨rfl,by simp⟩) om om w'
 have HI:KW 148 #[J f] (Y O aN):=λw=>og h w;clear h hb;generalize sw aP sg aN=Z at*
 go_enter func142,ntmps142;go_wp2_with (first|(go_at_call 148;refine kw (HI _) ?_)|(go_at_call 118;refine kw (wV _) ?_))
 go_returns;exact⟨rfl,kr⟩
def Wu{P:Prop}(h:P:=by
 go_enter func139,ntmps139;go_wp2_with (first|(go_at_call 135;refine kw (HW _) ?_)|(go_at_call 61;first|(with_reducible refine kw (HF.out _ _ om om) ?_)|(with_reducible refine kw (HA.out _) ?_)|(with_reducible refine kw (HB.out _) ?_)|(with_reducible refine kw (HA'.out _) ?_)|(with_reducible refine kw (HA.out _) ?_)))
 go_returns;exact⟨rfl,rfl⟩):P:=h
def kZ{f p mx one aN sg nan:Int}(h:bI f p mx one aN sg nan)(aj a b:Int)(m0:0<=aj)(m1:aj<=4)(a0:0<=a)(a1:a<2*sg)(b0:0<=b)(b1:b<2*sg)(w:ak):
  QW 139 #[J f,J aj,Y O a,Y O b] w (U Q):=by
 have HW:nV aj Q:=λw=>n_ aj Q (h_ ⟨m0,m1⟩).symm w;have HF:Hid (∀v w,0<=v->v<2*sg->pO f v w Q):=λv w v0 v1=>gJ h v v0 v1 w;clear h;exact Wu
def aJi(f aj a b:Int):Prop:=(aj<0\/4<aj)\/¬(f=0\/f=1)\/f=0/\4294967296<=a\/f=0/\4294967296<=b
def fK(f aj a b:Int)(a0:0<=a)(a1:aI a)(b0:0<=b)(b1:aI b)(h:aJi f aj a b)(w:ak):
  QW 139 #[J f,J aj,Y O a,Y O b] w (U D):=by
 have HFt:∀v,0<=v->aI v->fF f v Q\/fF f v D/\(¬(f=0\/f=1)\/(f=0/\4294967296<=v)):=by
  intro v v0 v1;rcases aPk f v v0 v1 with⟨p,mx,one,aN,sg,nan,hF,hv⟩|hn
  .exact .inl (λw=>gJ hF v v0 hv w)
  .exact .inr ⟨λw=>jH f v v0 hn w,hn⟩
 have hFf:∀v,0<=v->(¬(f=0\/f=1)\/(f=0/\4294967296<=v))->fF f v D:=λv v0 hn w=>jH f v v0 hn w;by_cases hm:0<=aj/\aj<=4
 .have HW:nV aj Q:=λw=>n_ aj Q (h_ hm).symm w;rcases HFt a a0 a1 with HA|⟨HA,_⟩
  .have Vo:¬(f=0\/f=1)\/(f=0/\4294967296<=b)\/(f=0/\4294967296<=a):=by
    rcases h with h|h|h|h
    .omega
    .exact .inl h
    .exact .inr (.inr h)
    .exact .inr (.inl h)
   by_cases hb:¬(f=0\/f=1)\/(f=0/\4294967296<=b)
   .have HB:=hFf b b0 hb;clear HFt hFf h Vo hb;exact Wu
   .have HA':=hFf a a0 om;clear HFt hFf h Vo hb HA;exact Wu
  .clear HFt hFf h;exact Wu
 .have HW:nV aj D:=λw=>n_ aj D (gV hm).symm w;clear HFt hFf h;exact Wu
set_option maxRecDepth 1000000
def fE{K:Nat}{F:Nat}{args:Array Value}{w:ak}{N:Nat}(h:Calls prog F args w λe w'=>∃v' k,e=X v'/\Big w' v' k N/\k<=K/\Gb w w'):
  Calls prog F args w (vO K N w):=h.mono (λx w' ⟨v',k,a1,a2,a3,a4⟩=>by
 obtain⟨b,c,rfl,_⟩:=Big.shape a2;exact⟨b,k,c,⟨k,a3,a2⟩,a1,a4⟩)
def aK.le{K L:Nat}{w:ak}{v:Value}{N:Nat}(h:aK K w v N)(k:K<=L):aK L w v N:=by
 obtain⟨n,a,b⟩:=h;exact⟨n,om,b⟩
def aK.st{K:Nat}{w:ak}{v:Value}{N:Nat}(h:aK K w v N){r o:Nat}{u0:Value}(u:Value)(h0:aB w r o u0)(hu:∀d,u0≠Y .u32 d):aK K (w.setCell ⟨r,o,none⟩ u) v N:=by
 obtain⟨n,hn,xk,hN,b,cap,rfl,l7,Dz,aW⟩:=h;refine⟨n,hn,xk,hN,b,cap,rfl,l7,Dz,λj hj=>?_⟩;have:=aW j hj;by_cases e:r=b/\o=j
 .obtain⟨rfl,rfl⟩:=e;rw[h0]at this;exact bG (Option.some.inj this) (hu _)
 .rw[World.cell?_setCell_other]
  .exact this
  .intro e';injection e' with e1 e2 e3;exact e ⟨om,om⟩
def aK.st4{K:Nat}{w:ak}{v:Value}{N:Nat}(h:aK K w v N){r:Nat}{x0 x2:Int}{x3:Bool}{u0 u1 u2 u3:Value}(h0:aB w r 0 (J x0))(h1:aB w r 1 (.slice none 0 0))(h2:aB w r 2 (J x2))(h3:aB w r 3 (U x3)):
  aK K ((((w.setCell ⟨r,0,none⟩ u0).setCell ⟨r,1,none⟩ u1).setCell ⟨r,2,none⟩ u2).setCell ⟨r,3,none⟩ u3) v N:=
 (((h.st u0 h0 (λd e=>by cases e)).st u1 (bQ om h1) (λd e=>by cases e)).st u2 (bQ om (bQ om h2)) (λd e=>by cases e)).st u3 (bQ om (bQ om (bQ om h3))) (λd e=>by cases e)
def nY(c s x:Int)(G:Nat)(hG:aI G)(w:ak):
  CT 144 #[fG c s x ((G:Nat))] w λe w'=>∃b k cc,aK 2 w' (aF b k cc) G/\e=X (.agg #[J s,aF b k cc,J x,U D])/\Gb w w':=by
 have HB:Hid (∀w,CT 132 #[Y O (G:Nat)] w (vO 2 G w)):=λw=>fE (iO G hG w);generalize((G:Nat):Int)=g at*
 go_enter func144,ntmps144;go_wp2;go_region_held3 (λw'=>pG w' w.heap.size 0 1 2 3 (J c) (J s) (J x) (Y O g))(exact qj)(first|(go_at_call 132;refine(HB _).mono ?_;rintro e w1 ⟨b,k,cc,oz,rfl,au⟩;have iy:=au.Y41 w))
 all_goals go_wp2
 all_goals
  refine gY (v:=.agg #[J s,aF b k cc,J x,U D]) (by simp[results,results144,go_sem,iy]) rfl ⟨b,k,cc,?_,rfl,?_⟩
  .exact oz.st4 iy.1 iy.2.2.1 iy.2.2.2.2.1 iy.2.2.2.2.2.2.1
  .exact Gb.g
set_option maxRecDepth 1000000
def aMU{P:Prop}(h:P:=by
 have HF:Hid (∀w',Gr w w'->KP f w' p mn mx Q):=λw' hg=>oD h hm (hw.gr hg);clear h hm hw;go_enter func170,ntmps170;go_wp2_with (first|(go_at_call 168;refine ku (HF _ Gr.g) λw1 au=>?_;have:=au.Y50 w)|(go_at_call 237;refine ku (HR _) λw2 aC=>?_;have lJ:=aC.Y50 w;have:=aC.C30 w1))
 exact cO (by simp[results,results170,go_sem,lJ])):P:=h
def m64:zo 53 (-1022) 1023 52 63 4503599627370496 9218868437227405312 9223372036854775808 9221120237041090560:=.inr ⟨rfl,rfl,rfl,rfl,rfl,rfl,rfl,rfl,rfl⟩
def eG(f aj:Int)(hf:¬(f=0\/f=1)){w:ak}(hw:Fm w):
  QR 170 #[J f,J aj] w (.tuple #[.agg #[J 53,J (-1022),J 1023,J 0,Value.nilFunc],U D]):=by
 have HF:KR 168 #[J f] (.tuple #[lT 0 0 0,U D]):=λw'=>pK f hf w';have HW:Hid (∀w',Gr w w'->Fm w'):=λw' hg=>hw.gr hg;clear hf hw;go_enter func170,ntmps170;go_wp2_with (go_at_call 168;refine ku (HF _) λw1 au=>?_;obtain⟨a0,a1,a2,a3,a4,a5⟩:=HW w1 Gr.g;have A3:=eU a3;have A4:=eU a4;have A5:=eU a5;obtain⟨iy,aI5,EM,aI4,ar2,aI3,ar3,aI2,ar4,aI1⟩:=au.y5 w.heap.size 0 1 2 3 4 (J 0) (J 0) (J 0) (J 0) (Value.nilFunc);have aJa:=eU iy;have aSa:=SN aI5;have aI9:=eU EM;have aR9:=SN aI4;have aI8:=eU ar2;have aR8:=SN aI3;have aI7:=eU ar3;have aR7:=SN aI2;have aI6:=eU ar4;have aR6:=SN aI1);exact cO (by simp[results,results170,go_sem,aJa,aI9,aI8,aI7,aI6])
def eX{f p mx one aN sg nan mn fb sp:Int}(h:bI f p mx one aN sg nan)(hm:zo p mn mx fb sp one aN sg nan)(aj:Int)(k:Nat)(HR:KR 237 #[J aj] (.tuple #[.func (.func k) #[] #[],U Q])){w:ak}(hw:Fm w):
  uO f aj w p mn mx k Q:=by
 exact aMU
def iC{f p mx one aN sg nan mn fb sp:Int}(h:bI f p mx one aN sg nan)(hm:zo p mn mx fb sp one aN sg nan)(aj:Int)(HR:KR 237 #[J aj] (.tuple #[Value.nilFunc,U D])){w:ak}(hw:Fm w):
  QR 170 #[J f,J aj] w (.tuple #[.agg #[J p,J mn,J mx,J aj,Value.nilFunc],U D]):=by
 exact aMU
def aGW(p mn mx one aN aj aP:Int)(M:Nat)(e:Int)(rest:Bool):∃z fl,bM p mn mx one aN aj aP M e rest z fl:=by
 obtain⟨dh,jF⟩:=x_n (nb M+e-1:Int);obtain⟨E,hE⟩:∃E:Int,dh<mn/\E=mn\/mn<=dh/\E=dh:=by
  by_cases c:dh<mn
  .exact⟨mn,.inl ⟨c,rfl⟩⟩
  .exact⟨dh,.inr ⟨om,rfl⟩⟩
 obtain⟨hf,hhf⟩:=x_n (bH M e (E-p+1) rest);obtain⟨r,hr⟩:=x_n (chosen aj aP (dH M e (E-p+1)) hf);obtain⟨r2,tY⟩:=x_n (chosen aj aP (dH M e (dh-p+1)) (bH M e (dh-p+1) rest));by_cases c1:mx<dh
 .exact⟨_,_,dh,E,r,r2,hf,jF,hE,hhf,hr,tY,.inl ⟨c1,rfl,rfl⟩⟩
 .by_cases c2:aN<=r+one*(E-mn)
  .exact⟨_,_,dh,E,r,r2,hf,jF,hE,hhf,hr,tY,.inr (.inl ⟨om,c2,rfl,rfl⟩)⟩
  .rcases jL hf with c3|c3
   .exact⟨_,_,dh,E,r,r2,hf,jF,hE,hhf,hr,tY,.inr (.inr ⟨om,om,rfl,.inl ⟨c3,rfl⟩⟩)⟩
   .by_cases c4:dh<mn-1\/dh=mn-1/\(r2:Int)<2*one
    .exact⟨_,_,dh,E,r,r2,hf,jF,hE,hhf,hr,tY,.inr (.inr ⟨om,om,rfl,.inr (.inl ⟨c3,c4,rfl⟩)⟩)⟩
    .exact⟨_,_,dh,E,r,r2,hf,jF,hE,hhf,hr,tY,.inr (.inr ⟨om,om,rfl,.inr (.inr ⟨c3,om,rfl⟩)⟩)⟩
def mP(aj:Int)(m0:0<=aj)(m1:aj<=4):∃k,zT aj k:=by
 unfold zT;rcases(om:aj=0\/aj=1\/aj=2\/aj=3\/aj=4)with rfl|rfl|rfl|rfl|rfl
 .exact⟨_,.inl ⟨rfl,rfl⟩⟩
 .exact⟨_,.inr (.inl ⟨rfl,rfl⟩)⟩
 .exact⟨_,.inr (.inr (.inl ⟨rfl,rfl⟩))⟩
 .exact⟨_,.inr (.inr (.inr (.inl ⟨rfl,rfl⟩)))⟩
 .exact⟨_,.inr (.inr (.inr (.inr ⟨rfl,rfl⟩)))⟩
def aCj(aP sg z:Int):sv aP sg z=sw aP sg z:=by unfold sv sw;split<;>omega
set_option maxRecDepth 1000000
def aF9{P:Prop}(h:P:=by
 go_enter func146,ntmps146;go_wp2;all_goals go_returns
 all_goals exact⟨b_ (lu Value.bool (by rw[hB.out,Bool.eq_iff_iff];simp<;>omega)),kr⟩):P:=h
def zZ(c s x g c' s' x' g':Int)(b:Bool)(hb:b=decide (c=2/\c'=0\/c=0/\c'=2))(w:ak):
  QR 146 #[fG c s x g,fG c' s' x' g'] w (U b):=by
 have hB:Hid (b=decide (c=2/\c'=0\/c=0/\c'=2)):=hb;clear hb;rcases(om:c=2\/c=0\/(c≠2/\c≠0))with rfl|rfl|⟨h1,h2⟩
 .exact aF9
 .exact aF9
 .have e1:(c==2)=D:=jA;have e2:(c==0)=D:=jA;exact aF9
set_option maxRecDepth 1000000
def aMT{P:Prop}(h:P:=by
 have a0:=ha.1;have a1:=ha.2;have b0:=hb.1;have b1:=hb.2;unfold Ai;rw[aQg ha,aQg hb];simp only[ne_eq,decide_eq_decide]
 (repeat' split)<;>omega):P:=h
def aQg{a:Int}(h:Wo a):a.tmod 9223372036854775808=a%9223372036854775808:=Int.tmod_eq_emod_of_nonneg h.1
def aA1{a b:Int}(ha:Wo a)(hb:Wo b):0<=Ai a b↔(a%9223372036854775808=0/\b%9223372036854775808=0)\/(a<9223372036854775808/\b<9223372036854775808/\b<=a)\/(a<9223372036854775808/\9223372036854775808<=b)\/(9223372036854775808<=a/\9223372036854775808<=b/\a<=b):=by
 exact aMT
def aA0{a b:Int}(ha:Wo a)(hb:Wo b):Ai a b<=0↔(a%9223372036854775808=0/\b%9223372036854775808=0)\/(a<9223372036854775808/\b<9223372036854775808/\a<=b)\/(9223372036854775808<=a/\b<9223372036854775808)\/(9223372036854775808<=a/\9223372036854775808<=b/\b<=a):=by
 exact aMT
def P9{b:Bool}{P:Prop}[Decidable P](h:b=Q↔P):b=decide P:=by
 by_cases p:P
 .rw[h_ p];exact h.mpr p
 .rw[gV p];cases b
  .rfl
  .exact bG (h.mp rfl) p
def aR5{a c s:Int}(ha:Wo a)(hu:Unp a c s):(!decide (1<c)&&(decide (0<=Ai a 14010698440749613056)&&decide (Ai a 4787326403894837248<=0)))=decide (a%9223372036854775808<=4787326403894837248):=by
 refine P9 ?_;have a0:=ha.1;have a1:=ha.2;have h:=hu.2.1;rw[Bool.and_eq_true,Bool.and_eq_true,Bool.not_eq_true',decide_eq_false_iff_not,decide_eq_true_eq,decide_eq_true_eq,aA1 ha (Wo.c _),aA0 ha (Wo.c _),h];omega
def aNA{a c s:Int}(ha:Wo a)(hu:Unp a c s):(!decide (1<c)&&(decide (0<=Ai a yu)&&decide (Ai a 4607182418800017408<=0)))=(decide (yu<=a)&&decide (a<=4607182418800017408)):=by
 refine(P9 (P:=yu<=a/\a<=4607182418800017408) ?_).trans (Bool.decide_and _ _);have a0:=ha.1;have a1:=ha.2;have h:=hu.2.1;rw[Bool.and_eq_true,Bool.and_eq_true,Bool.not_eq_true',decide_eq_false_iff_not,decide_eq_true_eq,decide_eq_true_eq,aA1 ha (Wo.c _),aA0 ha (Wo.c _),h];unfold yu;omega
def aR4{a c s:Int}(ha:Wo a)(hu:Unp a c s):((!decide (1<c)&&(decide (0<=Ai a 0)&&decide (Ai a 4607182418800017408<=0)))&& !decide (c=0))=(decide (0<a)&&decide (a<=4607182418800017408)):=by
 refine(P9 (P:=0<a/\a<=4607182418800017408) ?_).trans (Bool.decide_and _ _);have a0:=ha.1;have a1:=ha.2;have h:=hu.2.1;have h2:=hu.2.2.1;rw[Bool.and_eq_true,Bool.and_eq_true,Bool.and_eq_true,Bool.not_eq_true',Bool.not_eq_true',decide_eq_false_iff_not,decide_eq_false_iff_not,decide_eq_true_eq,decide_eq_true_eq,aA1 ha (Wo.c _),aA0 ha (Wo.c _),h,h2];omega
structure Smp where
 st:Int
 z:Int
 us:Int
 tr:Int
def Tried(a:Nat->Bool)(Z:Nat->Int)(n:Nat)(r:Smp):Prop:=
 (∃k,17*k+17<=n/\a k=Q/\(∀j,j<k->a j=D)/\r=⟨0,Z k,17*(k:Int)+17,(k:Int)+1⟩)\/
 (∃k,n<17*k+17/\17*k<=n/\(∀j,j<k->a j=D)/\r=⟨2,0,17*(k:Int),(k:Int)⟩)
def Tried.one{a:Nat->Bool}{Z:Nat->Int}{n:Nat}{r r':Smp}(h:Tried a Z n r)(h':Tried a Z n r'):r=r':=by
 rcases h with⟨k,k1,k2,k3,rfl⟩|⟨k,k1,k2,k3,rfl⟩<;>rcases h' with⟨j,j1,j2,j3,rfl⟩|⟨j,j1,j2,j3,rfl⟩
 .obtain rfl:k=j:=by
   rcases Oz k j with h|h|h
   .rw[j3 k h]at k2;cases k2
   .exact h
   .rw[k3 j h]at j2;cases j2
  rfl
 .have:k<j:=om;rw[j3 k this]at k2;cases k2
 .have:j<k:=om;rw[k3 j this]at j2;cases j2
 .obtain rfl:k=j:=om;rfl
namespace O7
variable (o:O7)
def KJ(mu inv scale:Int)(s:aJ)(k:Nat):Bool:=o.acc (Wi (lK (num s (17*k) 8)) (iJ s (17*k+8))) (lK (num s (17*k) 8)) (o.above mu) (o.narrow inv) (o.shr scale) (num s (17*k+9) 8)
def zAt(mu:Int)(s:aJ)(k:Nat):Int:=wrap64 (Wi (lK (num s (17*k) 8)) (iJ s (17*k+8))+wrap64 (o.whole (o.lN mu)))
def nT(mu inv scale:Int)(s:aJ)(r:Smp):Prop:=
 if s.size<=20000/\isC mu inv scale=Q then Tried (o.KJ mu inv scale s) (o.zAt mu s) s.size r else r=⟨1,0,0,0⟩
def nT.one{o:O7}{mu inv scale:Int}{s:aJ}{r r':Smp}(h:o.nT mu inv scale s r)(h':o.nT mu inv scale s r'):r=r':=by
 unfold nT at h h';split at h
 .rename_i c
  rw[aQ c]at h';exact h.one h'
 .rename_i c
  rw[aH c]at h';rw[h,h']
end O7
abbrev QV(r:Smp):Value:=.agg #[J r.st,J r.z,J r.us,J r.tr]
def Xl{o:O7}(H:o.S)(HI:o.In){mu inv scale:Int}(hm:Wo mu)(hi:Wo inv)(hs:Wo scale)(s:aJ)(hz:s.size<=1048576)(hn:¬(s.size<=20000/\isC mu inv scale=Q))(w:ak):
  QB 56 #[Y O mu,Y O inv,Y O scale,.string s] w (QV ⟨1,0,0,0⟩):=by
 obtain⟨c1,s1,x1,g1,u1,U1⟩:=H.unp hm;obtain⟨c2,s2,x2,g2,u2,U2⟩:=H.unp hi;obtain⟨c3,s3,x3,g3,u3,U3⟩:=H.unp hs;have e1:=aR5 hm u1;have e2:=aNA hi u2;have e3:=aR4 hs u3;have hf3:∀w,(Instr.field 129 (fG c3 s3 x3 g3) 0).run prog w=.ok (J c3) w:=λw=>by kernel_rfl
 have B1:KB 125 #[Y O mu,J (-2199023255552),J 2199023255552] (U (decide (mu%9223372036854775808<=4787326403894837248))):=vF H HI hm _ _ _ _ om om om om H.k1 H.k2 U1 _ e1.symm;have B2:KB 125 #[Y O inv,J 1,J 2] (U (decide (yu<=inv)&&decide (inv<=4607182418800017408))):=vF H HI hi _ _ _ _ om om om om H.k3 H.k4 U2 _ e2.symm;obtain⟨b3,nO⟩:=dP (!decide (1<c3)&&(decide (0<=Ai scale 0)&&decide (Ai scale 4607182418800017408<=0)));have B3:KB 125 #[Y O scale,J 0,J 2] (U b3):=vF H HI hs _ _ _ _ om om om om H.k5 H.k4 U3 _ nO.symm;rw[nO]at e3;unfold isC at hn;rw[<-e3]at hn;clear e1 e2 e3 nO u1 u2 u3 U1 U2 H HI;generalize decide (mu%9223372036854775808<=4787326403894837248)=b1 at*
 generalize(decide (yu<=inv)&&decide (inv<=4607182418800017408))=b2 at*
 rcases(show((20000:Int)<s.size\/(¬(20000:Int)<s.size/\b1=D)\/(¬(20000:Int)<s.size/\b1=Q/\b2=D)\/(¬(20000:Int)<s.size/\b1=Q/\b2=Q/\b3=D)\/(¬(20000:Int)<s.size/\b1=Q/\b2=Q/\b3=Q/\c3=0)) by
  rcases(om:(20000:Int)<s.size\/¬(20000:Int)<s.size)with h|h
  .exact .inl h
  .refine .inr ?_;have h':s.size<=20000:=om;cases b1
   .exact .inl ⟨h,rfl⟩
   .cases b2
    .exact .inr (.inl ⟨h,rfl,rfl⟩)
    .cases b3
     .exact .inr (.inr (.inl ⟨h,rfl,rfl,rfl⟩))
     .refine .inr (.inr (.inr ⟨h,rfl,rfl,rfl,?_⟩));by_cases hc:c3=0
      .exact hc
      .exact bG ⟨h',by simp[hc]⟩ hn)with h|⟨h,rfl⟩|⟨h,rfl,rfl⟩|⟨h,rfl,rfl,rfl⟩|⟨h,rfl,rfl,rfl,rfl⟩
 .clear hn;go_enter func56,ntmps56;go_wp2;go_returns;exact⟨rfl,kg⟩
 all_goals
  clear hn;go_enter func56,ntmps56;go_wp2_with (first|(go_at_call 125;first|(with_reducible refine ku (B1.out _) λw1 au=>?_;have qN:=au.Qz w)|(with_reducible refine ku (B2.out _) λw2 aC=>?_;have qN:=aC.Qz w)|(with_reducible refine ku (B3.out _) λw3 aO=>?_;have qN:=aO.Qz w))|(go_at_call 126;refine ku (U3 _) λw4 bg=>?_;have qN:=bg.Qz w))
  exact dX (by simp[results,results56,go_sem,qN])
set_option maxRecDepth 1000000
def aF8{P:Prop}(h:P:=by
 clear hb;go_enter func193,ntmps193;go_wp2;go_returns;exact⟨rfl,rfl⟩):P:=h
def tN(k:Int)(n:Nat):Nat:=if 1<=k/\k<=6/\n=2^k.toNat then 2^(k.toNat-1)else 0
abbrev aJl(F:Nat)(args:Array Value)(w:ak)(n:Nat)(f:Nat->Int × Int):Prop:=Calls prog F args w λe w'=>∃v,e=X v/\Ow w' w.heap.size 123 2 O v n (flat f)/\Gb w w'
def log_any(k:Int)(b:Bool)(hb:b=decide (1<=k/\k<=6))(w:ak):
  QW 193 #[J k] w (U b):=by
 rcases(om:(k<1\/1<=k/\6<k\/1<=k/\k<=6))with c|⟨c,c'⟩|⟨c,c'⟩
 .obtain rfl:b=D:=by rw[hb];simp;omega
  have c1:¬1<=k:=om;exact aF8
 .obtain rfl:b=D:=by rw[hb];simp;omega
  have c1:¬k<=6:=om;exact aF8
 .obtain rfl:b=Q:=by rw[hb];simp;omega
  exact aF8
def WT{o:Ops}(H:o.I)(HI:o.In)(k:Nat)(kF:1<=k)(hk6:k<=6){w:ak}{v cv:Value}{cs:Nat->Int}(hw:Fm w)(hr:Rd w O v (2^k) (2^k) cs)(wM:∀j,Wd (cs j))(hc:CR o w cv (k+1)):
  aJl 196 #[cv,v] w (2^(k-1)) (o.tr k cs):=by
 have HW:Hid (CT 264 #[J (k:Int),v,.func (.func 265) #[] #[],.func (.func 266) #[] #[],.func (.func 267) #[cv] #[]] w λe w'=>∃v',e=X v'/\Ow w' w.heap.size 123 2 O v' (2^(k-1)) (flat (o.tr k cs))/\Gb w w'):=aB1 H HI k kF k w v cv (k+1) cs rfl hw hr wM hc om om;obtain⟨g,cap,rfl,_⟩:=hc;obtain⟨n,hn⟩:=x_n (k+1);rw[<-hn]at HW⊢
 have u:IntKind.i64.wrap ((n:Int)-1)=(k:Int):=by rw[dI];omega
 clear hw hr wM H HI hn;go_enter func196,ntmps196;go_wp2_with (go_at_call 264;refine HW.out.mono ?_;rintro e w1 ⟨v',rfl,GN,au⟩);go_returns;exact⟨_,rfl,GN,au⟩
def Zr{o:Ops}(H:o.S)(HI:o.In)(k:Int){w:ak}{v:Value}{n:Nat}{cs:Nat->Int}(hn:n<=2000000)(hr:Rd w O v n n cs)(wM:∀j,Wd (cs j)):
  aJl 120 #[J k,v] w (tN k n) (o.tr k.toNat cs):=by
 by_cases h:1<=k/\k<=6
 .by_cases hk:n=2^k.toNat
  .have ht:tN k n=2^(k.toNat-1):=by unfold tN;rw[aQ ⟨h.1,h.2,hk⟩]
   rw[ht];rw[hk]at hr;exact WU H HI k.toNat om om k w v cs om hr wM
  .have ht:tN k n=0:=by unfold tN;rw[aH (λh'=>hk h'.2.2)]
   rw[ht];obtain⟨a,cap,rfl,_⟩:=hr;obtain⟨L,hL⟩:=x_n (2^k.toNat);have HS:KW 46 #[J k] (J (L:Int)):=λw=>xI k k.toNat om om L (by rw[hL]) w;have hq:((n:Int)==(L:Int))=D:=jA;have k1:¬k<1:=om;have k2:¬(6:Int)<k:=om;clear hk ht H HI wM h hL;go_enter func120,ntmps120;go_wp2_with (go_at_call 46;refine kw (HS _) ?_);go_returns;exact⟨_,rfl,Ow.lit _ _ _ _ _,kg⟩
 .have ht:tN k n=0:=by unfold tN;rw[aH (λh'=>h ⟨h'.1,h'.2.1⟩)]
  rw[ht];obtain⟨a,cap,rfl,_⟩:=hr;clear ht H HI wM;rcases(om:k<1\/1<=k/\6<k)with c|⟨c,c'⟩
  .clear h;go_enter func120,ntmps120;go_wp2;go_returns;exact⟨_,rfl,Ow.lit _ _ _ _ _,kg⟩
  .have c1:¬k<1:=om;clear h;go_enter func120,ntmps120;go_wp2;go_returns;exact⟨_,rfl,Ow.lit _ _ _ _ _,kg⟩
set_option maxRecDepth 1000000
def bN(k:Int)(n:Nat):Nat:=if 1<=k/\k<=6/\n=2^(k.toNat-1)then 2^k.toNat else 0
abbrev aJj(F:Nat)(args:Array Value)(w:ak)(n:Nat)(f:Nat->Int):Prop:=Calls prog F args w λe w'=>∃v,e=X v/\Ow w' w.heap.size 71 1 O v n f/\Gb w w'
def aPH{o:Ops}(H:o.I)(HI:o.In)(k:Nat)(kF:1<=k)(hk6:k<=6){w:ak}{v cv:Value}{zs:Nat->Int × Int}(hw:Fm w)(hr:Rd w O v (2^(k-1)) (2^(k-1)*2) (flat zs))(wM:∀j,uN (zs j))(hc:CR o w cv (k+1)):
  aJj 198 #[cv,v] w (2^k) (o.bk k zs):=by
 have HW:Hid (CT 269 #[J (k:Int),v,.func (.func 270) #[cv] #[],.func (.func 271) #[] #[],.func (.func 265) #[] #[]] w λe w'=>∃v',e=X v'/\Ow w' w.heap.size 71 1 O v' (2^k) (o.bk k zs)/\Gb w w'):=aB2 H HI k kF k w v cv (k+1) zs rfl hw hr wM hc om om;obtain⟨g,cap,rfl,_⟩:=hc;obtain⟨n,hn⟩:=x_n (k+1);rw[<-hn]at HW⊢
 have u:IntKind.i64.wrap ((n:Int)-1)=(k:Int):=by rw[dI];omega
 clear hw hr wM H HI hn;go_enter func198,ntmps198;go_wp2_with (go_at_call 269;refine HW.out.mono ?_;rintro e w1 ⟨v',rfl,GN,au⟩);go_returns;exact⟨_,rfl,GN,au⟩
def aPU{o:Ops}(H:o.S)(HI:o.In)(k:Int){w:ak}{v:Value}{n:Nat}{zs:Nat->Int × Int}(hn:n<=2000000)(hr:Rd w O v n (n*2) (flat zs))(wM:∀j,uN (zs j)):
  aJj 123 #[J k,v] w (bN k n) (o.bk k.toNat zs):=by
 by_cases h:1<=k/\k<=6
 .by_cases hk:n=2^(k.toNat-1)
  .have ht:bN k n=2^k.toNat:=by unfold bN;rw[aQ ⟨h.1,h.2,hk⟩]
   rw[ht];rw[hk]at hr;exact aC4 H HI k.toNat om om k w v zs om hr wM
  .have ht:bN k n=0:=by unfold bN;rw[aH (λh'=>hk h'.2.2)]
   rw[ht];obtain⟨a,cap,rfl,_⟩:=hr;obtain⟨L,hL⟩:=x_n (2^k.toNat);have L6:L=2*2^(k.toNat-1):=by rw[hL,dM,<-jE];congr 1;omega
   have HS:KW 46 #[J k] (J (L:Int)):=λw=>xI k k.toNat om om L (by rw[hL]) w;obtain⟨M,hM⟩:=x_n (n*2);have u:IntKind.i64.wrap ((n:Int)*2)=(M:Int):=by rw[dI];omega
   have hq:((M:Int)==(L:Int))=D:=jA;have k1:¬k<1:=om;have k2:¬(6:Int)<k:=om;clear hk ht H HI wM h hL L6 hM;go_enter func123,ntmps123;go_wp2_with (go_at_call 46;refine kw (HS _) ?_);go_returns;exact⟨_,rfl,Ow.lit _ _ _ _ _,kg⟩
 .have ht:bN k n=0:=by unfold bN;rw[aH (λh'=>h ⟨h'.1,h'.2.1⟩)]
  rw[ht];obtain⟨a,cap,rfl,_⟩:=hr;clear ht H HI wM;rcases(om:k<1\/1<=k/\6<k)with c|⟨c,c'⟩
  .clear h;go_enter func123,ntmps123;go_wp2;go_returns;exact⟨_,rfl,Ow.lit _ _ _ _ _,kg⟩
  .have c1:¬k<1:=om;clear h;go_enter func123,ntmps123;go_wp2;go_returns;exact⟨_,rfl,Ow.lit _ _ _ _ _,kg⟩
set_option maxRecDepth 1000000
def aEs(ty t:TypeId)(z:Value)(size bytes:Nat)(LW:prog.underlying ty=some (.slice t))(xY:(prog.info? t).map (λi=>(i.zero,i.size,i.bytes))=some (some z,size,bytes))(EL:bytes<=1000)(n:Nat)(hn:n<=10000000)(w:ak):
  (Instr.makeSlice ty (J 0) (J (n:Int))).run prog w=.ok (aF w.heap.size 0 n) (w.alloc (.cells (madeCells z.cells (n*size)) t)):=by
 obtain⟨i,hi,hz,hs,hb⟩:=info_parts xY;have Dq:(i.bytes:Int)*(n:Int)<=281474976710656:=by
  have h:i.bytes*n<=1000*10000000:=Nat.mul_le_mul om hn;have h':((i.bytes*n:Nat):Int)<=281474976710656:=om
  rwa [FI]at h'
 have hr:=run_make (P:=prog) w ty t i z LW hi hz .i64 .i64 0 n om om Dq om;simp only[Int.toNat_natCast,hs]at hr;exact hr
def Ow.aQ6(w:ak)(t:TypeId)(size:Nat)(z:Array Value)(k:IntKind)(g:Nat->Int)(n:Nat)(hn:n<=10000000):Ow (w.alloc (.cells (madeCells z (n*size)) t)) w.heap.size t size k (aF w.heap.size 0 n) 0 g:=by
 refine⟨by simp[uv],.inr ⟨w.heap.size,n,madeCells z (n*size),rfl,dJ _,heap_alloc_new w _,fV _,by unfold maxLen;omega,size_madeCells _ _,by simp[uv]⟩⟩
def aHY:(prog.info? 3).map (λi=>(i.zero,i.size,i.bytes))=some (some (J 0),1,8):=by kernel_rfl
def aET(kk:Nat)(K N:Int)(n h:Nat)(hK:K=(kk:Int))(kF:1<=kk)(hk6:kk<=6)(hN2:(2:Int)^kk=N)(hN:N=(n:Int))(hn:n<=128)(hh:h<=128)(Ip:0<n)(Tc:0<h)(a0:Option Addr)(cap0:Nat)(vg:Value)(w:ak)(cf cg cs tz:Nat->Int)(zf zg zp:Nat->Int × Int)(C:ak->Value->Prop)(HCg:Hid (∀w w' v,C w v->Gb w w'->C w' v))
  (HL:KW 193 #[J K] (U Q))
  (HF:Hid (∀w',Gb w w'->CT 194 #[J N,.slice a0 n cap0] w' λe bf=>∃v,e=X (.tuple #[v,U Q])/\Rd bf O v n n cf/\Gb w' bf))
  (HG:Hid (∀w',Gb w w'->CT 194 #[J N,vg] w' λe bf=>∃v,e=X (.tuple #[v,U Q])/\Rd bf O v n n cg/\Gb w' bf))
  (HC:Hid (∀w',Gb w w'->CT 195 #[J K] w' λe bf=>∃v,e=X v/\C bf v/\Gb w' bf))
  (HTf:Hid (∀w' u cv,Gb w w'->C w' cv->Rd w' O u n n cf->CT 196 #[cv,u] w' λe bf=>∃v,e=X v/\Ow bf w'.heap.size 123 2 O v h (flat zf)/\Gb w' bf))
  (HTg:Hid (∀w' u cv,Gb w w'->C w' cv->Rd w' O u n n cg->CT 196 #[cv,u] w' λe bf=>∃v,e=X v/\Ow bf w'.heap.size 123 2 O v h (flat zg)/\Gb w' bf))
  (HP:Hid (∀j,j<h->∀w',Gb w w'->QR 197 #[aS ((zf j).1) ((zf j).2),aS ((zg j).1) ((zg j).2)] w' (aS ((zp j).1) ((zp j).2))))
  (HB:Hid (∀w' u cv,Gb w w'->C w' cv->Rd w' O u h (h*2) (flat zp)->CT 198 #[cv,u] w' λe bf=>∃b cap,e=X (aF b n cap)/\w'.heap.size<=b/\b<bf.heap.size/\(∀q,q<n->aB bf b q (Y O (cs q)))/\Gb w' bf))
  (HI:Hid (∀j,j<n->∀w',Gb w w'->CT 94 #[J 1,J 0,J 1,Y O (cs j)] w' λe bf=>∃fl:Int,e=X (aU (tz j) fl)/\Gr w' bf)):
  CT 103 #[J K,.slice a0 n cap0,vg] w λe w'=>∃v,e=X (.tuple #[v,U Q])/\Ow w' w.heap.size 3 1 .i64 v n (λj=>IntKind.i64.wrap (tz j))/\Gb w w':=by
 have hf:=Sj;subst hK;have Qu:IntKind.i64.wrap N=N:=by rw[dI];omega
 have kK:IntKind.i64.wrap ((2:Int)^kk)=N:=by rw[hN2];exact Qu
 have hw3:IntKind.i64.wrap (1*(2:Int)^kk)=N:=by rw[Int.one_mul];exact kK
 have HNn:Hid (N=(n:Int)):=hN;clear hN hN2;go_enter func103,ntmps103;go_upto_region 4 with(first|(go_at_call 193;refine kw (HL _) ?_)|(go_at_call 194;refine(HF _ kg).mono ?_;rintro e w1 ⟨u1,rfl,wz,au⟩))
 go_upto_region 7 with(go_at_call 194;refine(HG _ kg).mono ?_;rintro e w2 ⟨u2,rfl,tY,aC⟩);have aOU:=wz.gb aC;go_upto_region 8 with(go_at_call 195;refine(HC _ kg).mono ?_;rintro e W ⟨cv,rfl,hcv,Et⟩);have HR1:Hid (Rd W O u1 n n cf):=aOU.gb Et;have HR2:Hid (Rd W O u2 n n cg):=tY.gb Et;have HCV:Hid _:=hcv;have GW:Hid (Gb w W):=(show Gb w W from kg);clear wz aOU tY hcv au aC Et HL HF HG HC;go_upto_region 9 with(go_at_call 196;first|(with_reducible refine(HTf.out _ _ _ GW.out HCV.out HR1.out).mono ?_;rintro e w3 ⟨va,rfl,hoa,aO⟩)|(with_reducible refine(HTg.out _ _ _ (GW.out.trans aO) (HCg.out _ _ _ HCV.out aO) (show Rd w3 O u2 n n cg from HR2.out.gb aO)).mono ?_;rintro e w4 ⟨vb,rfl,hob,bg⟩))
 obtain⟨ba,ca,rfl,a1,a2,a3,a4,ac⟩:=hoa.at Tc;obtain⟨bb,cb,rfl,b1,b2,b3,b4,bc⟩:=hob.at Tc;have s3:=aO.size;have lM:ba≠bb:=om;have HOA:Hid (Ow w4 W.heap.size 123 2 O (aF ba h ca) h (flat zf)):=hoa.gb bg;have HOB:Hid (Ow w4 W.heap.size 123 2 O (aF bb h cb) h (flat zg)):=hob.mono s3;have GG:Hid (Gb W w4):=aO.trans bg;have HNE:Hid _:=lM;clear HTf HTg HR1 HR2 hoa hob aO bg ac bc a1 a2 b1 b2 s3 lM;go_wp2;go_loopw [53] (λi wr=>∃j:Nat,j<=h/\i=J j/\Ow wr W.heap.size 123 2 O (aF ba h ca) h (λq=>if q<2*j then flat zp q else flat zf q)/\Ow wr W.heap.size 123 2 O (aF bb h cb) h (flat zg)/\Gb W wr) (λi _=>h-(intOf i).toNat)
 case atStart=>exact⟨0,fV _,rfl,Ow.congr HOA.out (λq hq=>by rw[aH (by omega)]),HOB.out,GG.out⟩
 case round=>
  obtain⟨j,hj,rfl,GN,Qw,dQ⟩:=hrel;have HP1:Hid _:=GN;have HP2:Hid _:=Qw;by_cases fJ:j<h
  .have iV:(j:Int)<(h:Int):=om;obtain⟨b1',cap1,e1,iF,hB1,_,_,AA⟩:=GN.at Tc;obtain⟨b2',cap2,e2,mY,hB2,_,_,zA⟩:=Qw.at Tc;simp only[Value.slice.injEq,Option.some.injEq,Addr.mk.injEq,and_true,true_and]at e1 e2;obtain⟨rfl,rfl⟩:=e1;obtain⟨rfl,rfl⟩:=e2;obtain⟨c1,z1⟩:=AA (j*2) om;obtain⟨c1',z1'⟩:=AA (j*2+1) om;obtain⟨c2,z2⟩:=zA (j*2) om;obtain⟨c2',z2'⟩:=zA (j*2+1) om;rw[aH (by omega)]at c1 c1';have HSq:Hid (∀w',Gb W w'->QR 197 #[aS ((zf j).1) ((zf j).2),aS ((zg j).1) ((zg j).2)] w' (aS ((zp j).1) ((zp j).2))):=λw' hg=>HP j fJ w' (GW.out.trans hg);have f0:Hid (flat zp (j*2)=(zp j).1):=by show _=_;rw[dM,fO]
   have f1:Hid (flat zp (j*2+1)=(zp j).2):=by show _=_;rw[dM,fP]
   rw[show flat zf (j*2)=(zf j).1 by rw[dM,fO]]at c1;rw[show flat zf (j*2+1)=(zf j).2 by rw[dM,fP]]at c1';rw[show flat zg (j*2)=(zg j).1 by rw[dM,fO]]at c2;rw[show flat zg (j*2+1)=(zg j).2 by rw[dM,fP]]at c2';generalize(zf j).1 =x1 at*
   generalize(zf j).2 =x2 at*
   generalize(zg j).1 =y1 at*
   generalize(zg j).2 =y2 at*
   generalize(zp j).1 =t1 at*
   generalize(zp j).2 =t2 at*
   clear GN Qw AA zA;go_wp2;go_region_with
    (first|(go_at_call 197;refine ku (HSq _ kg) λw5 bT=>?_;have hz5:=bT.size;(try simp only[jg,dV]at hz5);have cc0:aB w5 ba (j*2) (Y O x1):=bT.c;have cz0:dL w5 ba (j*2):=bT.z;have cc1:aB w5 ba (j*2+1) (Y O x2):=bT.c;have cz1:dL w5 ba (j*2+1):=bT.z))
   all_goals
    go_wp2;go_roundw
    case rel=>
     refine⟨j+1,om,jS,?_,Ow.other (Ow.other (Ow.gb (Ow.drew (Ow.alloc HP2.out _)) bT.gb) HNE.out _) HNE.out _,kg⟩;refine Ow.congr (Ow.store (Ow.store (Ow.gb (Ow.drew (Ow.alloc HP1.out _)) bT.gb) (j*2) t1) (j*2+1) t2) (λq hq=>?_);by_cases e1:q=j*2+1
     .rw[aQ e1,aQ om,e1];exact f1.out.symm
     .by_cases e0:q=j*2
      .rw[aH e1,aQ e0,aQ om,e0];exact f0.out.symm
      .by_cases e2:q<2*j
       .rw[aH e1,aH e0,aQ e2,aQ (by omega)]
       .rw[aH e1,aH e0,aH e2,aH (by omega)]
    case measure=>exact qL
  .obtain rfl:j=h:=om;have FN:¬(j:Int)<(j:Int):=om
   rename World=>V
   have rb:Rd V O (aF ba j ca) j (j*2) (flat zp):=(Ow.rd HP1.out).congr (λq hq=>by rw[aQ (by omega)]);have HBk:Hid (∀w',Gb V w'->CT 198 #[cv,aF ba j ca] w' λe bf=>∃b cap,e=X (aF b n cap)/\w'.heap.size<=b/\b<bf.heap.size/\(∀q,q<n->aB bf b q (Y O (cs q)))/\Gb w' bf):=λw' hg=>HB w' _ _ (GW.out.trans (dQ.trans hg)) (HCg _ _ _ HCV.out (dQ.trans hg)) (rb.gb hg);have GV:Hid (Gb w V):=GW.out.trans dQ;have hmk:∀w,(Instr.makeSlice 80 (J 0) (J (n:Int))).run prog w=.ok (aF w.heap.size 0 n) (w.alloc (.cells (madeCells #[J 0] (n*1)) 3)):=λw=>aEs 80 3 (J 0) 1 8 underlying80 aHY de n om w;clear GN Qw HP1 HP2 HOA HOB GG rb dQ HNE HP HB HCV HCg GW;have HM0:Hid (Ow (V.alloc (.cells (madeCells #[J 0] n) 3)) V.heap.size 3 1 .i64 (aF V.heap.size 0 n) 0 (λj=>IntKind.i64.wrap (tz j))):=by
    have:=Ow.aQ6 V 3 1 #[J 0] .i64 (λj=>IntKind.i64.wrap (tz j)) n om;rw[kW]at this;exact this
   go_wp2_with (go_at_call 198;refine(HBk _ kg).mono ?_;rintro e V2 ⟨bc,cc,rfl,aUb,hbc,Qx,aNq⟩);rw[dV]at aUb;have HO0:Hid _:=Ow.gb HM0.out aNq;have HCC:Hid _:=Qx;have GV2:Hid (Gb V V2):=(show Gb V V2 from kg);clear Qx aNq HM0 HBk hmk;go_loopw [17,75] (λf i wr=>∃j:Nat,j<=n/\i=J j/\Ow wr V.heap.size 3 1 .i64 f j (λj=>IntKind.i64.wrap (tz j))/\f.ownBlock≠some bc/\(∀q,q<n->aB wr bc q (Y O (cs q)))/\Gb V wr) (λ_ i _=>n-(intOf i).toNat)
   case atStart=>exact⟨0,fV _,rfl,HO0.out,by simp[Value.ownBlock];omega,HCC.out,GV2.out⟩
   case round=>
    obtain⟨i,hi,rfl,jv,Vo,YI,Ir⟩:=hrel;have aRc:=Ir.size;by_cases fJ:i<n
    .have iV:(i:Int)<(n:Int):=om;have HIj:Hid _:=HI i fJ;have x0:=YI i fJ;have hbs:=aA x0;have HCL:Hid _:=YI;obtain⟨y,hy⟩:=dP (IntKind.i64.wrap (tz i));have e0:Hid ((λj=>IntKind.i64.wrap (tz j)) (i*1+0)=y):=by show _=_;rw[kW,Nat.add_zero];exact hy
     have Au:Hid (∀w2,Gb wr w2->Ow w2 V.heap.size 3 1 .i64 _ i (λj=>IntKind.i64.wrap (tz j))):=λw2 hg=>Ow.gb jv hg;have HGw:Hid (∀w2,Gb wr w2->Gb w w2):=λw2 hg=>GV.out.trans (Ir.trans hg);clear jv YI;go_wp2_with (first|(go_at_call 94;refine(HIj _ (HGw _ kg)).mono ?_;rintro e w2 ⟨fl,rfl,aC⟩)|(at_builtin;refine nC rfl _ _ 80 rfl 3 (J 0) 1 8 .i64 underlying80 aHY rfl de de V.heap.size i 1 (λj=>IntKind.i64.wrap (tz j)) _ w2.heap.size rfl (Au _ kg) rfl (CS (g:=λj=>IntKind.i64.wrap (tz j)) (m:=i*1) j_ e0.out) om om (by have:=aC.size;rw[dV];omega) ?_;intro v' w3 nM nO zu ho3))
     go_roundw
     case rel=>
      refine⟨i+1,om,jS,nM,?_,λq hq=>zu _ _ _ (by have:=aC.old (HCL q hq);exact kb) Vo,Gb.below kg nO (dJ _)⟩;rcases ho3 with h3|h3
      .rw[h3];exact Vo
      .rw[h3,dV];have:=aC.size;intro h;injection h;omega
     case measure=>exact qL
    .obtain rfl:i=n:=om;have iV:¬(i:Int)<(i:Int):=om;have ZG:=Ow.mono jv GV.out.size;have hgE:Gb w wr:=GV.out.trans Ir;clear jv;go_wp2;go_returns;exact⟨_,rfl,ZG,hgE⟩
set_option maxRecDepth 1000000
def TiS(ti:Int->Int):Prop:=∀c,Wd c->Hid (∀w,CT 69 #[J 1,J 0,J 1,Y O c] w λe w'=>∃fl:Int,e=X (aU (ti c) fl)/\Gb w w')
def TiI(ti:Int->Int):Prop:=∀c,Wd c->Hid (∀w,Fm w->CT 94 #[J 1,J 0,J 1,Y O c] w λe w'=>∃fl:Int,e=X (aU (ti c) fl)/\Gr w w')
def aPQ(k:Int)(L M:Nat)(f g:Nat->Int):Prop:=1<=k/\k<=6/\(L=2^k.toNat/\∀i,i<L->Wh (f i))/\(M=2^k.toNat/\∀i,i<M->Wh (g i))
def pZ(o:Ops)(k:Nat)(f g:Nat->Int)(j:Nat):Int × Int:=o.cMul (o.tr k (λj=>o.int (f j)) j) (o.tr k (λj=>o.int (g j)) j)
def pF(o:Ops)(ti:Int->Int)(k:Nat)(f g:Nat->Int)(j:Nat):Int:=IntKind.i64.wrap (ti (o.bk k (pZ o k f g) j))
def aCv{o:Ops}(HI:o.In)(k:Nat)(f g:Nat->Int)(j:Nat):uN (pZ o k f g j):=HI.cMul (HI.tr _ _ _ λ_=>HI.int _) (HI.tr _ _ _ λ_=>HI.int _)
abbrev aJk(F:Nat)(k:Int)(vf vg:Value)(w:ak)(b:Bool)(n:Nat)(f:Nat->Int):Prop:=Calls prog F #[J k,vf,vg] w λe w'=>∃v,e=X (.tuple #[v,U b])/\Ow w' w.heap.size 3 1 .i64 v n f/\Gb w w'
def aJ7{w':ak}{b n:Nat}{t:TypeId}{v:Value}{k:IntKind}{g:Nat->Int}(ho:Ow w' b t 1 k v n g):Rd w' k v n n g:=by have:=ho.rd;rw[kW]at this;exact this
def aCw{k:Nat}(h:k<=6):2^k<=64:=pU (show 0<2 by decide) h
def aPO{o:Ops}(H:o.S)(HI:o.In){ti:Int->Int}(HT:TiS ti)(k:Int){L M:Nat}{f g:Nat->Int}(uF:aPQ k L M f g){vf vg:Value}{w:ak}(hrf:jd w vf L f)(hrg:jd w vg M g):
  aJk 53 k vf vg w Q (2^k.toNat) (pF o ti k.toNat f g):=by
 obtain⟨h1,h6,⟨hL,hf⟩,hM,hg⟩:=uF;obtain⟨n,hn⟩:=x_n (2^k.toNat);obtain⟨h,hh⟩:=x_n (2^(k.toNat-1));have aOW:n<=64:=by rw[hn];exact aCw om
 have aTU:h<=64:=by rw[hh];exact aCw om
 have Ip:0<n:=by rw[hn];exact iQ de
 have Tc:0<h:=by rw[hh];exact iQ de
 have tn:tN k n=h:=by unfold tN;rw[aQ ⟨h1,h6,hn⟩,hh]
 have bn:bN k h=n:=by unfold bN;rw[aQ ⟨h1,h6,hh⟩,hn]
 have Vl:∀(f:Nat->Int) (j:Nat),Wd (o.int (f j)):=λf j=>HI.int _;have hTr:∀(f:Nat->Int) (w':ak) (u:Value),Rd w' O u n n (λj=>o.int (f j))->CT 120 #[J k,u] w' λe bf=>∃b cap,e=X (aF b h cap)/\b<bf.heap.size/\(∀q,q<h*2->aB bf b q (Y O (flat (o.tr k.toNat (λj=>o.int (f j))) q)))/\Gb w' bf:=λf w' u hr=>by
  refine(Zr H HI k om hr (Vl f)).mono λe bf ⟨v,e1,e2,e3⟩=>?_;rw[tn]at e2;obtain⟨b,cap,rfl,_,c2,_,_,c3⟩:=e2.at Tc;exact⟨b,cap,e1,c2,λq hq=>(c3 q hq).1,e3⟩
 rw[<-hn]at hL hM⊢
 rw[hL]at hrf hf;rw[hM]at hrg hg;exact aDk k (n:Int) n h om om Ip Tc om om vf vg w (λj=>o.int (f j)) (λj=>o.int (g j)) (o.bk k.toNat (pZ o k.toNat f g)) (λj=>ti (o.bk k.toNat (pZ o k.toNat f g) j)) (o.tr k.toNat (λj=>o.int (f j))) (o.tr k.toNat (λj=>o.int (g j))) (pZ o k.toNat f g)
  (λw=>xI k k.toNat om om _ (by rw[hn]) w)
  (IG hrf Ip om hf _ rfl)
  (IG hrg Ip om hg _ rfl)
  (λw' dY=>(aBZ H (hrf.gb dY) Ip om hf).mono λe bf ⟨v,e1,e2,e3⟩=>⟨v,e1,aJ7 e2,e3⟩)
  (λw' dY=>(aBZ H (hrg.gb dY) Ip om hg).mono λe bf ⟨v,e1,e2,e3⟩=>⟨v,e1,aJ7 e2,e3⟩)
  (λw' u hr=>hTr f w' u hr)
  (λw' u hr=>hTr g w' u hr)
  (λj hj w'=>VJ H HI (HI.tr k.toNat _ j (Vl f)).1 (HI.tr k.toNat _ j (Vl f)).2 (HI.tr k.toNat _ j (Vl g)).1 (HI.tr k.toNat _ j (Vl g)).2 w')
  (λw' u hr=>by
   show Calls _ _ _ _ _;refine(aPU H HI k om hr (aCv HI _ f g)).mono λe bf ⟨v,e1,e2,e3⟩=>?_;rw[bn]at e2;obtain⟨b,cap,rfl,_,c2,_,_,c3⟩:=e2.at Ip;exact⟨b,cap,e1,c2,λq hq=>(c3 q om).1,e3⟩)
  (λj hj w'=>(HT _ (HI.bk _ _ _ (aCv HI _ f g))).out w')
def aPP{o:Ops}(H:o.I)(HN:aFi o)(HI:o.In){ti:Int->Int}(HT:TiI ti)(k:Int){L M:Nat}{f g:Nat->Int}(uF:aPQ k L M f g){vf vg:Value}{w:ak}(hw:Fm w)(hrf:jd w vf L f)(hrg:jd w vg M g):
  aJk 103 k vf vg w Q (2^k.toNat) (pF o ti k.toNat f g):=by
 obtain⟨h1,h6,⟨hL,hf⟩,hM,hg⟩:=uF;obtain⟨kk,hkk⟩:=x_n (k.toNat);have hk:k=(kk:Int):=om;have kF:1<=kk:=om;have hk6:kk<=6:=om;rw[<-hkk]at hL hM⊢
 obtain⟨n,hn⟩:=x_n (2^kk);obtain⟨h,hh⟩:=x_n (2^(kk-1));have aOW:n<=64:=by rw[hn];exact aCw hk6
 have aTU:h<=64:=by rw[hh];exact aCw om
 have Ip:0<n:=by rw[hn];exact iQ de
 have Tc:0<h:=by rw[hh];exact iQ de
 have Vl:∀(f:Nat->Int) (j:Nat),Wd (o.int (f j)):=λf j=>HI.int _;have hTr:∀(f:Nat->Int) (w':ak) (u cv:Value),Gb w w'->CR o w' cv (kk+1)->Rd w' O u n n (λj=>o.int (f j))->CT 196 #[cv,u] w' λe bf=>∃v,e=X v/\Ow bf w'.heap.size 123 2 O v h (flat (o.tr kk (λj=>o.int (f j))))/\Gb w' bf:=λf w' u cv dY hc hr=>by
  rw[hh];exact WT H HI kk kF hk6 (hw.gb dY) (by rw[<-hn];exact hr) (Vl f) hc
 rw[<-hn]at hL hM⊢
 rw[hL]at hrf hf;rw[hM]at hrg hg;have aTC:=hrf;obtain⟨a0,cap0,rfl,_⟩:=aTC;exact aET kk k (n:Int) n h hk kF hk6 (by rw[hn];simp) rfl om om Ip Tc a0 cap0 vg w (λj=>o.int (f j)) (λj=>o.int (g j)) (o.bk kk (pZ o kk f g)) (λj=>ti (o.bk kk (pZ o kk f g) j)) (o.tr kk (λj=>o.int (f j))) (o.tr kk (λj=>o.int (g j))) (pZ o kk f g) (λw cv=>CR o w cv (kk+1))
  (λw w' v h hg=>h.gb hg)
  (λw=>log_any k Q jA w)
  (λw' dY=>(ZV HN (hw.gb dY) (hrf.gb dY) Ip om hf _ rfl).mono λe bf ⟨v,e1,e2,e3⟩=>⟨v,e1,aJ7 e2,e3⟩)
  (λw' dY=>(ZV HN (hw.gb dY) (hrg.gb dY) Ip om hg _ rfl).mono λe bf ⟨v,e1,e2,e3⟩=>⟨v,e1,aJ7 e2,e3⟩)
  (λw' dY=>by
   show Calls _ _ _ _ _;rw[hk];exact(aBJ H HI kk kF hk6 (hw.gb dY)).mono λe bf ⟨v,e1,e2,e3⟩=>⟨v,e1,e2.cr om,e3⟩)
  (hTr f) (hTr g)
  (λj hj w' dY=>PW H HI (HI.tr kk _ j (Vl f)).1 (HI.tr kk _ j (Vl f)).2 (HI.tr kk _ j (Vl g)).1 (HI.tr kk _ j (Vl g)).2 (hw.gb dY))
  (λw' u cv dY hc hr=>by
   show Calls _ _ _ _ _;refine(aPH H HI kk kF hk6 (hw.gb dY) (by rw[<-hh];exact hr) (aCv HI kk f g) hc).mono λe bf ⟨v,e1,e2,e3⟩=>?_;rw[<-hn]at e2;obtain⟨b,cap,rfl,c1,c2,_,_,c3⟩:=e2.at Ip;exact⟨b,cap,e1,c1,c2,λq hq=>(c3 q om).1,e3⟩)
  (λj hj w' dY=>(HT _ (HI.bk _ _ _ (aCv HI _ f g))).out w' (hw.gb dY))
def aIR(n:Nat)(Ip:0<n){L:Nat}(hL:L<=2000000)(f:Nat->Int):∃p:Bool,(p=Q↔L=n/\∀i,i<L->Wh (f i))/\
  (∀{v:Value} {w:ak},jd w v L f->QW 119 #[v,J (n:Int)] w (U p))/\
  (∀{o:Ops} {v:Value} {w:ak},aFi o->Fm w->jd w v L f->CT 194 #[J (n:Int),v] w λe w'=>∃v',e=X (.tuple #[v',U p])/\Gb w w'):=by
 by_cases h:L=n
 .subst h;rcases aOO L f with hy|⟨m,hm,fJ,Eu⟩
  .exact⟨Q,by simp;exact hy,λhr=>IG hr Ip hL hy _ rfl,λHN hw hr=>(ZV HN hw hr Ip hL hy _ rfl).mono λe w' ⟨v,e1,_,e3⟩=>⟨v,e1,e3⟩⟩
  .exact⟨D,⟨λh=>Bool.noConfusion h,λh=>bG (h.2 m hm) Eu⟩,λhr=>aIQ hr hL m hm fJ Eu _ rfl,λHN hw hr=>(aPX HN hw hr Ip hL m hm fJ Eu _ rfl).mono λe w' ⟨e1,e3⟩=>⟨_,e1,e3⟩⟩
 .exact⟨D,⟨λh=>Bool.noConfusion h,λh'=>bG h'.1 h⟩,λhr=>aFb hr _ om,λHN hw hr=>(aNM hr _ om).mono λe w' ⟨e1,e3⟩=>⟨_,e1,e3⟩⟩
def aC7{k:Int}{L M:Nat}{f g:Nat->Int}(uF:¬aPQ k L M f g)(hL:L<=2000000)(hM:M<=2000000):
  (∀{vf vg:Value} {w:ak},jd w vf L f->jd w vg M g->EC 53 k vf vg w)/\
  (∀{o:Ops} {vf vg:Value} {w:ak},aFi o->Fm w->jd w vf L f->jd w vg M g->EC 103 k vf vg w):=by
 by_cases h:1<=k/\k<=6
 .obtain⟨n,hn⟩:=x_n (2^k.toNat);have Ip:0<n:=by rw[hn];exact iQ de
  obtain⟨p,hp,ps,pi⟩:=aIR n Ip hL f;obtain⟨q,hq,qs,qi⟩:=aIR n Ip hM g;have hpq:p=D\/p=Q/\q=D:=by
   cases p
   .exact .inl rfl
   .cases q
    .exact .inr ⟨rfl,rfl⟩
    .exact bG ⟨h.1,h.2,by rw[<-hn];exact hp.1 rfl,by rw[<-hn];exact hq.1 rfl⟩ uF
  have hs:KW 46 #[J k] (J (n:Int)):=λw=>xI k k.toNat om om _ (by rw[hn]) w;have hkn:KN k n:=by
   unfold KN;rcases(om:k=1\/k=2\/k=3\/k=4\/k=5\/k=6)with rfl|rfl|rfl|rfl|rfl|rfl<;>simp at hn<;>simp[hn]
  refine⟨λ{vf vg w} hf hg=>?_,λ{o vf vg w} HN hw hf hg=>aHW k n hkn vf vg w (λw=>log_any k Q jA w) p q hpq (λw' dY=>pi HN (hw.gb dY) (hf.gb dY)) (λw' dY=>qi HN (hw.gb dY) (hg.gb dY))⟩;rcases hpq with rfl|⟨rfl,rfl⟩
  .exact aJK k n om om vf vg w hs (ps hf)
  .exact aJJ k n om om vf vg w hs (ps hf) (qs hg)
 .exact⟨λ{vf vg w} _ _=>aJI k om vf vg w,λ{o vf vg w} _ _ _ _=>aKQ k vf vg w (λw=>log_any k D jA w)⟩
