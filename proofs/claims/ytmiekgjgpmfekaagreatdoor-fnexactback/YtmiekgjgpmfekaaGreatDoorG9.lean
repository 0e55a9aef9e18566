import Derived.Test.YtmiekgjgpmfekaaGreatDoorG6
import Derived.Test.YtmiekgjgpmfekaaGreatDoorR3
set_option linter.all false
set_option maxRecDepth 1000000
set_option maxHeartbeats 40000000
open Bool renaming false → O, true → X
open Go.Proofs.YtmiekgjgpmfekaaGreatDoor renaming vI → J
open Go.Value renaming bool → Y
open Go.Proofs.Tryz
namespace Go.Proofs.YtmiekgjgpmfekaaGreatDoor
open Go.RowKit
attribute [local go_sem] aj
theorem fU(c s x g:Int)(b:Bool)(hb:b=decide (3<=c))(w:World):
  QR 95 #[eX c s x g] w (Y b):=by
 have hB:Hid (b=decide (3<=c)):=hb;clear hb;go_enter func95,ntmps95;go_wp2;go_returns;exact⟨bC (congrArg Value.bool (by rw[hB.out])),kr⟩
theorem WQ{f p mx one inf sg nan:Int}(h:aQ f p mx one inf sg nan)(w:World):
  QR 96 #[J f,Y X] w (aK nan 1):=by
 have HB:nY f nan 1:=fun w=>dJ h w;clear h;go_enter func96,ntmps96;go_wp2_with (go_at_call 83;refine(HB _).mono ?_;rintro x w1 ⟨rfl,hg1⟩;obtain⟨fP,Hq,xU,Ho⟩:iH w1 w.heap.size 0 1 (.int .u64 0) (J 0):=⟨kq,kq,kq,kq⟩);exact bH (by simp[results,Tryz.results96,go_sem,fP,xU])
theorem Z4{f p mx one inf sg nan:Int}(h:aQ f p mx one inf sg nan)(w:World):
  QR 96 #[J f,Y O] w (aK nan 0):=by
 have HB:KW 119 #[J f] (.int .u64 nan):=fun w=>rX h w;clear h;go_enter func96,ntmps96;go_wp2_with (go_at_call 119;refine kw (HB _) ?_);go_returns;exact⟨rfl,kr⟩
theorem mD{f p mx one inf sg nan:Int}(h:aQ f p mx one inf sg nan)(b:Bool)(fl:Int)(hb:fl=if b then 1 else 0)(w:World):
  QR 96 #[J f,Y b] w (aK nan fl):=by
 cases b
 ·subst hb;exact Z4 h w
 ·subst hb;exact WQ h w
theorem iF{f p mx one inf sg nan:Int}(h:aQ f p mx one inf sg nan)(sign:Int)(hs:sign=0\/sign=1)(w:World):
  QR 84 #[J f,J sign] w (aK (sw sign sg 0) 0):=by
 have hb:=h.bounds;have ou:uT f sign 0 (sw sign sg 0):=fun w'=>oC h sign 0 _ (by
  unfold sw;rcases hs with rfl|rfl
  ·exact .inl ⟨rfl,by simp⟩
  ·exact .inr ⟨rfl,by simp⟩) om om w'
 clear h hb;generalize sw sign sg 0=Z at*
 go_enter func84,ntmps84;go_wp2_with (go_at_call 106;refine kw (ou _) ?_);go_returns;exact⟨rfl,kr⟩
theorem fB{f p mx one inf sg nan:Int}(h:aQ f p mx one inf sg nan)(sign:Int)(hs:sign=0\/sign=1)(w:World):
  QR 97 #[J f,J sign] w (aK (sw sign sg inf) 0):=by
 have hb:=h.bounds;have ou:uT f sign inf (sw sign sg inf):=fun w'=>oC h sign inf _ (by
  unfold sw;rcases hs with rfl|rfl
  ·exact .inl ⟨rfl,by simp⟩
  ·exact .inr ⟨rfl,by simp⟩) om om w'
 have HI:KW 107 #[J f] (.int .u64 inf):=fun w=>jv h w;clear h hb;generalize sw sign sg inf=Z at*
 go_enter func97,ntmps97;go_wp2_with (first
  |(go_at_call 107;refine kw (HI _) ?_)
  |(go_at_call 106;refine kw (ou _) ?_))
 go_returns;exact⟨rfl,kr⟩
theorem LJ{P:Prop}(h:P:=by
 go_enter func94,ntmps94;go_wp2_with (first
   |(go_at_call 82;refine kw (HW _) ?_)
   |(go_at_call 117;first|(with_reducible refine kw (HF.out _ _ om om) ?_)|(with_reducible refine kw (HA.out _) ?_)|(with_reducible refine kw (HB.out _) ?_)|(with_reducible refine kw (HA'.out _) ?_)|(with_reducible refine kw (HA.out _) ?_)))
 go_returns;exact⟨rfl,rfl⟩):P:=h
theorem jd{f p mx one inf sg nan:Int}(h:aQ f p mx one inf sg nan)(mode a b:Int)(m0:0<=mode)(m1:mode<=4)(a0:0<=a)(a1:a<2*sg)(b0:0<=b)(b1:b<2*sg)(w:World):
  QW 94 #[J f,J mode,.int .u64 a,.int .u64 b] w (Y X):=by
 have HW:KW 82 #[J mode] (Y X):=fun w=>jS mode X (decide_eq_true ⟨m0,m1⟩).symm w;have HF:Hid (∀v w,0<=v->v<2*sg->QW 117 #[J f,.int .u64 v] w (Y X)):=fun v w v0 v1=>jf h v v0 v1 w;clear h;exact LJ
def aBm(f mode a b:Int):Prop:=(mode<0\/4<mode)\/¬(f=0\/f=1)\/f=0/\4294967296<=a\/f=0/\4294967296<=b
theorem eH(f mode a b:Int)(a0:0<=a)(a1:a<18446744073709551616)(b0:0<=b)(b1:b<18446744073709551616)(h:aBm f mode a b)(w:World):
  QW 94 #[J f,J mode,.int .u64 a,.int .u64 b] w (Y O):=by
 have Xv:∀v,0<=v->v<18446744073709551616->KW 117 #[J f,.int .u64 v] (Y X)\/KW 117 #[J f,.int .u64 v] (Y O)/\(¬(f=0\/f=1)\/(f=0/\4294967296<=v)):=by
  intro v v0 v1;rcases aGu f v v0 v1 with⟨p,mx,one,inf,sg,nan,hF,hv⟩|hn
  ·exact .inl (fun w=>jf hF v v0 hv w)
  ·exact .inr ⟨fun w=>r_ f v v0 hn w,hn⟩
 have hFf:∀v,0<=v->(¬(f=0\/f=1)\/(f=0/\4294967296<=v))->KW 117 #[J f,.int .u64 v] (Y O):=fun v v0 hn w=>r_ f v v0 hn w;by_cases hm:0<=mode/\mode<=4
 ·have HW:KW 82 #[J mode] (Y X):=fun w=>jS mode X (decide_eq_true hm).symm w;rcases Xv a a0 a1 with HA|⟨HA,_⟩
  ·have hnb:¬(f=0\/f=1)\/(f=0/\4294967296<=b)\/(f=0/\4294967296<=a):=by
    rcases h with h|h|h|h
    ·omega
    ·exact .inl h
    ·exact .inr (.inr h)
    ·exact .inr (.inl h)
   by_cases hb:¬(f=0\/f=1)\/(f=0/\4294967296<=b)
   ·have HB:=hFf b b0 hb;clear Xv hFf h hnb hb;exact LJ
   ·have HA':=hFf a a0 om;clear Xv hFf h hnb hb HA;exact LJ
  ·clear Xv hFf h;exact LJ
 ·have HW:KW 82 #[J mode] (Y O):=fun w=>jS mode O (decide_eq_false hm).symm w;clear Xv hFf h;exact LJ
set_option maxRecDepth 1000000
theorem dV{K:Nat}{F:Nat}{args:Array Value}{w:World}{N:Nat}(h:Calls Tryz.prog F args w fun e w'=>∃v' k,e=.returned v'/\Big w' v' k N/\k<=K/\Gb w w'):
  Calls Tryz.prog F args w (qK K N w):=h.mono (fun x w' ⟨v',k,a1,a2,a3,a4⟩=>by
 obtain⟨b,c,rfl,_⟩:=Big.shape a2;exact⟨b,k,c,⟨k,a3,a2⟩,a1,a4⟩)
theorem aF.le{K L:Nat}{w:World}{v:Value}{N:Nat}(h:aF K w v N)(k:K<=L):aF L w v N:=by
 obtain⟨n,a,b⟩:=h;exact⟨n,om,b⟩
theorem aF.st{K:Nat}{w:World}{v:Value}{N:Nat}(h:aF K w v N){r o:Nat}{u0:Value}(u:Value)(h0:aj w r o u0)(hu:∀d,u0≠ .int .u32 d):aF K (w.setCell ⟨r,o,none⟩ u) v N:=by
 obtain⟨n,hn,hnm,hN,b,cap,rfl,hcap,hmx,hcell⟩:=h;refine⟨n,hn,hnm,hN,b,cap,rfl,hcap,hmx,fun j hj=>?_⟩;have:=hcell j hj;by_cases e:r=b/\o=j
 ·obtain⟨rfl,rfl⟩:=e;rw[h0]at this;exact absurd (Option.some.inj this) (hu _)
 ·rw[World.cell?_setCell_other]
  ·exact this
  ·intro e';injection e' with e1 e2 e3;exact e ⟨om,om⟩
theorem aF.Vj{K:Nat}{w:World}{v:Value}{N:Nat}(h:aF K w v N){r:Nat}{x0 x2:Int}{x3:Bool}{u0 u1 u2 u3:Value}(h0:aj w r 0 (J x0))(h1:aj w r 1 (.slice none 0 0))(h2:aj w r 2 (J x2))(h3:aj w r 3 (Y x3)):
  aF K ((((w.setCell ⟨r,0,none⟩ u0).setCell ⟨r,1,none⟩ u1).setCell ⟨r,2,none⟩ u2).setCell ⟨r,3,none⟩ u3) v N:=
 (((h.st u0 h0 (fun d e=>by cases e)).st u1 (aS om h1) (fun d e=>by cases e)).st u2 (aS om (aS om h2)) (fun d e=>by cases e)).st u3 (aS om (aS om (aS om h3))) (fun d e=>by cases e)
theorem lC(c s x:Int)(G:Nat)(hG:G<18446744073709551616)(w:World):
  CT 123 #[eX c s x ((G:Nat))] w fun e w'=>∃b k cc,aF 2 w' (aB b k cc) G/\e=.returned (.agg #[J s,aB b k cc,J x,Y O])/\Gb w w':=by
 have HB:Hid (∀w,CT 100 #[.int .u64 (G:Nat)] w (qK 2 G w)):=fun w=>dV (fE G hG w);generalize((G:Nat):Int)=g at*
 go_enter func123,ntmps123;go_wp2;go_region_held3 (fun w'=>aj w' w.heap.size 0 (J c)/\aj w' w.heap.size 1 (J s)/\aj w' w.heap.size 2 (J x)/\aj w' w.heap.size 3 (.int .u64 g))
  (exact kX)
  (first|(go_at_call 100;refine(HB _).mono ?_;rintro e w1 ⟨b,k,cc,hbig,rfl,ak⟩;have fP:=ak.Y41 w))
 all_goals go_wp2
 all_goals
  refine bodyPost_ret (v:=.agg #[J s,aB b k cc,J x,Y O]) (by simp[results,Tryz.results123,go_sem,fP]) rfl ⟨b,k,cc,?_,rfl,?_⟩
  ·exact hbig.Vj fP.1 fP.2.2.1 fP.2.2.2.2.1 fP.2.2.2.2.2.2.1
  ·exact Gb.g
set_option maxRecDepth 1000000
theorem aEs{P:Prop}(h:P:=by
 have HF:Hid (∀w',Gr w w'->QR 153 #[J f] w' (.tuple #[iW p mn mx,Y X])):=fun w' hg=>Kq h hm (hw.gr hg);clear h hm hw;go_enter func86,ntmps86;go_wp2_with (first
  |(go_at_call 153;refine ku (HF _ Gr.g) fun w1 ak=>?_;have:=ak.Y50 w)
  |(go_at_call 154;refine ku (HR _) fun w2 aA=>?_;have jy:=aA.Y50 w;have:=aA.C30 w1))
 exact bH (by simp[results,Tryz.results86,go_sem,jy])):P:=h
theorem m64:qH 53 (-1022) 1023 52 63 4503599627370496 9218868437227405312 9223372036854775808 9221120237041090560:=.inr ⟨rfl,rfl,rfl,rfl,rfl,rfl,rfl,rfl,rfl⟩
theorem fV(f mode:Int)(hf:¬(f=0\/f=1)){w:World}(hw:Fm w):
  QR 86 #[J f,J mode] w (.tuple #[.agg #[J 53,J (-1022),J 1023,J 0,Value.nilFunc],Y O]):=by
 have HF:KR 153 #[J f] (.tuple #[iW 0 0 0,Y O]):=fun w'=>Oz f hf w';have HW:Hid (∀w',Gr w w'->Fm w'):=fun w' hg=>hw.gr hg;clear hf hw;go_enter func86,ntmps86;go_wp2_with (go_at_call 153;refine ku (HF _) fun w1 ak=>?_;obtain⟨a0,a1,a2,a3,a4,a5⟩:=HW w1 Gr.g;have A3:=oD a3;have A4:=oD a4;have A5:=oD a5;obtain⟨fP,aA7,xU,aA6,XM,aA5,ar3,aA4,ar4,aA3⟩:=ak.y5 w.heap.size 0 1 2 3 4 (J 0) (J 0) (J 0) (J 0) (Value.nilFunc);have aBe:=oD fP;have aIz:=Iq aA7;have aBd:=oD xU;have aIy:=Iq aA6;have aBb:=oD XM;have aIx:=Iq aA5;have aBa:=oD ar3;have aIw:=Iq aA4;have aA9:=oD ar4;have aIv:=Iq aA3);exact bH (by simp[results,Tryz.results86,go_sem,aBe,aBd,aBb,aBa,aA9])
theorem eY{f p mx one inf sg nan mn fb sp:Int}(h:aQ f p mx one inf sg nan)(hm:qH p mn mx fb sp one inf sg nan)(mode:Int)(k:Nat)(HR:KR 154 #[J mode] (.tuple #[.func (.func k) #[] #[],Y X])){w:World}(hw:Fm w):
  nP f mode w p mn mx k X:=by
 exact aEs
theorem gV{f p mx one inf sg nan mn fb sp:Int}(h:aQ f p mx one inf sg nan)(hm:qH p mn mx fb sp one inf sg nan)(mode:Int)(HR:KR 154 #[J mode] (.tuple #[Value.nilFunc,Y O])){w:World}(hw:Fm w):
  QR 86 #[J f,J mode] w (.tuple #[.agg #[J p,J mn,J mx,J mode,Value.nilFunc],Y O]):=by
 exact aEs
theorem Za(p mn mx one inf mode sign:Int)(M:Nat)(e:Int)(rest:Bool):∃z fl,aP p mn mx one inf mode sign M e rest z fl:=by
 obtain⟨top,htop⟩:∃top:Int,top=nb M+e-1:=⟨_,rfl⟩;obtain⟨E,hE⟩:∃E:Int,top<mn/\E=mn\/mn<=top/\E=top:=by
  by_cases c:top<mn
  ·exact⟨mn,.inl ⟨c,rfl⟩⟩
  ·exact⟨top,.inr ⟨om,rfl⟩⟩
 obtain⟨hf,XF⟩:∃hf,hf=aJ M e (E-p+1) rest:=⟨_,rfl⟩;obtain⟨r,hr⟩:∃r,r=chosen mode sign (aZ M e (E-p+1)) hf:=⟨_,rfl⟩;obtain⟨r2,hr2⟩:∃r2,r2=chosen mode sign (aZ M e (top-p+1)) (aJ M e (top-p+1) rest):=⟨_,rfl⟩;by_cases c1:mx<top
 ·exact⟨_,_,top,E,r,r2,hf,htop,hE,XF,hr,hr2,.inl ⟨c1,rfl,rfl⟩⟩
 ·by_cases c2:inf<=r+one*(E-mn)
  ·exact⟨_,_,top,E,r,r2,hf,htop,hE,XF,hr,hr2,.inr (.inl ⟨om,c2,rfl,rfl⟩)⟩
  ·rcases Nat.eq_zero_or_pos hf with c3|c3
   ·exact⟨_,_,top,E,r,r2,hf,htop,hE,XF,hr,hr2,.inr (.inr ⟨om,om,rfl,.inl ⟨c3,rfl⟩⟩)⟩
   ·by_cases c4:top<mn-1\/top=mn-1/\(r2:Int)<2*one
    ·exact⟨_,_,top,E,r,r2,hf,htop,hE,XF,hr,hr2,.inr (.inr ⟨om,om,rfl,.inr (.inl ⟨c3,c4,rfl⟩)⟩)⟩
    ·exact⟨_,_,top,E,r,r2,hf,htop,hE,XF,hr,hr2,.inr (.inr ⟨om,om,rfl,.inr (.inr ⟨c3,om,rfl⟩)⟩)⟩
theorem lq(mode:Int)(m0:0<=mode)(m1:mode<=4):∃k,qX mode k:=by
 unfold qX;rcases(show mode=0\/mode=1\/mode=2\/mode=3\/mode=4 by omega)with rfl|rfl|rfl|rfl|rfl
 ·exact⟨_,.inl ⟨rfl,rfl⟩⟩
 ·exact⟨_,.inr (.inl ⟨rfl,rfl⟩)⟩
 ·exact⟨_,.inr (.inr (.inl ⟨rfl,rfl⟩))⟩
 ·exact⟨_,.inr (.inr (.inr (.inl ⟨rfl,rfl⟩)))⟩
 ·exact⟨_,.inr (.inr (.inr (.inr ⟨rfl,rfl⟩)))⟩
theorem MI(sign sg z:Int):sv sign sg z=sw sign sg z:=by unfold sv sw;split<;>omega
set_option maxRecDepth 1000000
theorem Ym{P:Prop}(h:P:=by
 go_enter func164,ntmps164;go_wp2;all_goals go_returns
 all_goals exact⟨bC (congrArg Value.bool (by rw[hB.out,Bool.eq_iff_iff];simp<;>omega)),kr⟩):P:=h
theorem uO(c s x g c' s' x' g':Int)(b:Bool)(hb:b=decide (c=2/\c'=0\/c=0/\c'=2))(w:World):
  QR 164 #[eX c s x g,eX c' s' x' g'] w (Y b):=by
 have hB:Hid (b=decide (c=2/\c'=0\/c=0/\c'=2)):=hb;clear hb;rcases(show c=2\/c=0\/(c≠2/\c≠0) by omega)with rfl|rfl|⟨h1,h2⟩
 ·exact Ym
 ·exact Ym
 ·have e1:(c==2)=O:=by simp;omega
  have e2:(c==0)=O:=by simp;omega
  exact Ym
set_option maxRecDepth 1000000
theorem aEr{P:Prop}(h:P:=by
 have a0:=ha.1;have a1:=ha.2;have b0:=hb.1;have b1:=hb.2;unfold uU;rw[aHe ha,aHe hb];simp only[ne_eq,decide_eq_decide]
 (repeat' split)<;>omega):P:=h
theorem aHe{a:Int}(h:Wo a):a.tmod 9223372036854775808=a%9223372036854775808:=Int.tmod_eq_emod_of_nonneg h.1
theorem Rh{a b:Int}(ha:Wo a)(hb:Wo b):0<=uU a b↔(a%9223372036854775808=0/\b%9223372036854775808=0)\/(a<9223372036854775808/\b<9223372036854775808/\b<=a)\/(a<9223372036854775808/\9223372036854775808<=b)\/(9223372036854775808<=a/\9223372036854775808<=b/\a<=b):=by
 exact aEr
theorem Rf{a b:Int}(ha:Wo a)(hb:Wo b):uU a b<=0↔(a%9223372036854775808=0/\b%9223372036854775808=0)\/(a<9223372036854775808/\b<9223372036854775808/\a<=b)\/(9223372036854775808<=a/\b<9223372036854775808)\/(9223372036854775808<=a/\9223372036854775808<=b/\b<=a):=by
 exact aEr
theorem F7{b:Bool}{P:Prop}[Decidable P](h:b=X↔P):b=decide P:=by
 by_cases p:P
 ·rw[decide_eq_true p];exact h.mpr p
 ·rw[decide_eq_false p];cases b
  ·rfl
  ·exact absurd (h.mp rfl) p
theorem aIs{a c s:Int}(ha:Wo a)(hu:Unp a c s):(!decide (1<c)&&(decide (0<=uU a 14010698440749613056)&&decide (uU a 4787326403894837248<=0)))=decide (a%9223372036854775808<=4787326403894837248):=by
 refine F7 ?_;have a0:=ha.1;have a1:=ha.2;have h:=hu.2.1;rw[Bool.and_eq_true,Bool.and_eq_true,Bool.not_eq_true',decide_eq_false_iff_not,decide_eq_true_eq,decide_eq_true_eq,Rh ha (Wo.c _),Rf ha (Wo.c _),h];omega
theorem aFe{a c s:Int}(ha:Wo a)(hu:Unp a c s):(!decide (1<c)&&(decide (0<=uU a qR)&&decide (uU a 4607182418800017408<=0)))=(decide (qR<=a)&&decide (a<=4607182418800017408)):=by
 refine(F7 (P:=qR<=a/\a<=4607182418800017408) ?_).trans (Bool.decide_and _ _);have a0:=ha.1;have a1:=ha.2;have h:=hu.2.1;rw[Bool.and_eq_true,Bool.and_eq_true,Bool.not_eq_true',decide_eq_false_iff_not,decide_eq_true_eq,decide_eq_true_eq,Rh ha (Wo.c _),Rf ha (Wo.c _),h];unfold qR;omega
theorem aIr{a c s:Int}(ha:Wo a)(hu:Unp a c s):((!decide (1<c)&&(decide (0<=uU a 0)&&decide (uU a 4607182418800017408<=0)))&& !decide (c=0))=(decide (0<a)&&decide (a<=4607182418800017408)):=by
 refine(F7 (P:=0<a/\a<=4607182418800017408) ?_).trans (Bool.decide_and _ _);have a0:=ha.1;have a1:=ha.2;have h:=hu.2.1;have h2:=hu.2.2.1;rw[Bool.and_eq_true,Bool.and_eq_true,Bool.and_eq_true,Bool.not_eq_true',Bool.not_eq_true',decide_eq_false_iff_not,decide_eq_false_iff_not,decide_eq_true_eq,decide_eq_true_eq,Rh ha (Wo.c _),Rf ha (Wo.c _),h,h2];omega
structure Smp where
 st:Int
 z:Int
 us:Int
 tr:Int
def Tried(a:Nat->Bool)(Z:Nat->Int)(n:Nat)(r:Smp):Prop:=
 (∃k,17*k+17<=n/\a k=X/\(∀j,j<k->a j=O)/\r=⟨0,Z k,17*(k:Int)+17,(k:Int)+1⟩)\/
 (∃k,n<17*k+17/\17*k<=n/\(∀j,j<k->a j=O)/\r=⟨2,0,17*(k:Int),(k:Int)⟩)
theorem Tried.one{a:Nat->Bool}{Z:Nat->Int}{n:Nat}{r r':Smp}(h:Tried a Z n r)(h':Tried a Z n r'):r=r':=by
 rcases h with⟨k,k1,k2,k3,rfl⟩|⟨k,k1,k2,k3,rfl⟩<;>rcases h' with⟨j,j1,j2,j3,rfl⟩|⟨j,j1,j2,j3,rfl⟩
 ·obtain rfl:k=j:=by
   rcases Nat.lt_trichotomy k j with h|h|h
   ·rw[j3 k h]at k2;cases k2
   ·exact h
   ·rw[k3 j h]at j2;cases j2
  rfl
 ·have:k<j:=om;rw[j3 k this]at k2;cases k2
 ·have:j<k:=om;rw[k3 j this]at j2;cases j2
 ·obtain rfl:k=j:=om;rfl
namespace O7
variable (o:O7)
def oZ(mu inv scale:Int)(s:ByteArray)(k:Nat):Bool:=o.acc (PI (iU (num s (17*k) 8)) (kS s (17*k+8))) (iU (num s (17*k) 8)) (o.above mu) (o.narrow inv) (o.shr scale) (num s (17*k+9) 8)
def PK(mu:Int)(s:ByteArray)(k:Nat):Int:=wrap64 (PI (iU (num s (17*k) 8)) (kS s (17*k+8))+wrap64 (o.whole (o.jc mu)))
def gG(mu inv scale:Int)(s:ByteArray)(r:Smp):Prop:=
 if s.size<=20000/\isC mu inv scale=X then Tried (o.oZ mu inv scale s) (o.PK mu s) s.size r else r=⟨1,0,0,0⟩
theorem gG.one{o:O7}{mu inv scale:Int}{s:ByteArray}{r r':Smp}(h:o.gG mu inv scale s r)(h':o.gG mu inv scale s r'):r=r':=by
 unfold gG at h h';split at h
 ·rename_i c
  rw[if_pos c]at h';exact h.one h'
 ·rename_i c
  rw[if_neg c]at h';rw[h,h']
end O7
abbrev pJ(r:Smp):Value:=.agg #[J r.st,J r.z,J r.us,J r.tr]
theorem MV{o:O7}(H:o.S)(HI:o.In){mu inv scale:Int}(hm:Wo mu)(hi:Wo inv)(hs:Wo scale)(s:ByteArray)(hz:s.size<=1048576)(hn:¬(s.size<=20000/\isC mu inv scale=X))(w:World):
  QB 21 #[.int .u64 mu,.int .u64 inv,.int .u64 scale,.string s] w (pJ ⟨1,0,0,0⟩):=by
 obtain⟨c1,s1,x1,g1,u1,U1⟩:=H.unp hm;obtain⟨c2,s2,x2,g2,u2,U2⟩:=H.unp hi;obtain⟨c3,s3,x3,g3,u3,U3⟩:=H.unp hs;have e1:=aIs hm u1;have e2:=aFe hi u2;have e3:=aIr hs u3;have hf3:∀w,(Instr.field 80 (eX c3 s3 x3 g3) 0).run Tryz.prog w=.ok (J c3) w:=fun w=>by kernel_rfl
 have B1:KB 56 #[.int .u64 mu,J (-2199023255552),J 2199023255552] (Y (decide (mu%9223372036854775808<=4787326403894837248))):=oI H HI hm _ _ _ _ om om om om H.k1 H.k2 U1 _ e1.symm;have B2:KB 56 #[.int .u64 inv,J 1,J 2] (Y (decide (qR<=inv)&&decide (inv<=4607182418800017408))):=oI H HI hi _ _ _ _ om om om om H.k3 H.k4 U2 _ e2.symm;obtain⟨b3,hb3⟩:∃b,(!decide (1<c3)&&(decide (0<=uU scale 0)&&decide (uU scale 4607182418800017408<=0)))=b:=⟨_,rfl⟩;have B3:KB 56 #[.int .u64 scale,J 0,J 2] (Y b3):=oI H HI hs _ _ _ _ om om om om H.k5 H.k4 U3 _ hb3.symm;rw[hb3]at e3;unfold isC at hn;rw[<-e3]at hn;clear e1 e2 e3 hb3 u1 u2 u3 U1 U2 H HI;generalize decide (mu%9223372036854775808<=4787326403894837248)=b1 at*
 generalize(decide (qR<=inv)&&decide (inv<=4607182418800017408))=b2 at*
 rcases(show((20000:Int)<s.size\/(¬(20000:Int)<s.size/\b1=O)\/(¬(20000:Int)<s.size/\b1=X/\b2=O)\/(¬(20000:Int)<s.size/\b1=X/\b2=X/\b3=O)\/(¬(20000:Int)<s.size/\b1=X/\b2=X/\b3=X/\c3=0)) by
  rcases(show(20000:Int)<s.size\/¬(20000:Int)<s.size by omega)with h|h
  ·exact .inl h
  ·refine .inr ?_;have h':s.size<=20000:=om;cases b1
   ·exact .inl ⟨h,rfl⟩
   ·cases b2
    ·exact .inr (.inl ⟨h,rfl,rfl⟩)
    ·cases b3
     ·exact .inr (.inr (.inl ⟨h,rfl,rfl,rfl⟩))
     ·refine .inr (.inr (.inr ⟨h,rfl,rfl,rfl,?_⟩));by_cases hc:c3=0
      ·exact hc
      ·exact absurd ⟨h',by simp[hc]⟩ hn)with h|⟨h,rfl⟩|⟨h,rfl,rfl⟩|⟨h,rfl,rfl,rfl⟩|⟨h,rfl,rfl,rfl,rfl⟩
 ·clear hn;go_enter func21,ntmps21;go_wp2;go_returns;exact⟨rfl,kg⟩
 all_goals
  clear hn;go_enter func21,ntmps21;go_wp2_with (first
   |(go_at_call 56;first|(with_reducible refine ku (B1.out _) fun w1 ak=>?_;have jY:=ak.Gs w)|(with_reducible refine ku (B2.out _) fun w2 aA=>?_;have jY:=aA.Gs w)|(with_reducible refine ku (B3.out _) fun w3 aC=>?_;have jY:=aC.Gs w))
   |(go_at_call 57;refine ku (U3 _) fun w4 aH=>?_;have jY:=aH.Gs w))
  exact dB (by simp[results,Tryz.results21,go_sem,jY])
