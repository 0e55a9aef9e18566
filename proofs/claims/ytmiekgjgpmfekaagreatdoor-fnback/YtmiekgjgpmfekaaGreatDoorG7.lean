import Derived.Test.YtmiekgjgpmfekaaGreatDoorG2
import Derived.Deep.LoopGhost
import Derived.Test.YtmiekgjgpmfekaaGreatDoorG8
set_option linter.all false
set_option maxHeartbeats 40000000
open Go.Proofs.YtmiekgjgpmfekaaGreatDoor renaming vI → J
open Go.Proofs.Tryz
namespace Go.Proofs.YtmiekgjgpmfekaaGreatDoor
open Go.RowKit
attribute [local go_sem] aj
variable{p mx f inf sg nan e g e' g' m v W c s c' s':Int}{a b:Nat}
def jE(p mx one v e g:Int):Prop:=
 ∃(k:Nat) (m e0:Int),(v<one/\m=v/\e0=2-mx-p\/one<=v/\m=v%one+one/\e0=1-mx-p+v/one)/\g=m*2^k/\e=e0-k/\one<=g/\g<2*one
def dY(p mx one inf sg nan W c s e g:Int):Prop:=
 ∃v:Int,(s=0/\v=W/\W<sg\/s=1/\v=W-sg/\sg<=W)/\
  (v=0/\c=0/\e=0/\g=0\/inf<v/\v<nan/\c=4/\e=0/\g=0\/nan<=v/\c=3/\e=0/\g=0\/v=inf/\c=2/\e=0/\g=0\/0<v/\v<inf/\c=1/\jE p mx one v e g)
theorem yN{P:Prop}(h:P:=by
 go_enter func57,ntmps57;go_wp2_with (first
   |(go_at_call 117;first|(refine(iW HE.out _ om om _).mono ?_;rintro e w' ⟨rfl,hw⟩;subst hw)|(refine(rD _ _ v0 HE.out _).mono ?_;rintro e w' ⟨rfl,hw⟩;subst hw))
   |(go_at_call 107;refine(jh HE.out _).mono ?_;rintro e w' ⟨rfl,hw⟩;subst hw)
   |(go_at_call 119;refine(qY HE.out _).mono ?_;rintro e w' ⟨rfl,hw⟩;subst hw)
   |(go_at_call 118;refine(iV HE.out _).mono ?_;rintro e w' ⟨rfl,hw⟩;subst hw))
 first
   |(go_returns;exact⟨0,0,0,0,⟨0,.inl ⟨rfl,rfl,om⟩,.inl ⟨rfl,rfl,rfl,rfl⟩⟩,rfl,kr⟩)
   |(go_returns;exact⟨0,1,0,0,⟨0,.inr ⟨rfl,om,om⟩,.inl ⟨rfl,rfl,rfl,rfl⟩⟩,rfl,kr⟩)
   |(go_returns;exact⟨4,0,0,0,⟨W,.inl ⟨rfl,rfl,om⟩,.inr (.inl ⟨c1,c2,rfl,rfl,rfl⟩)⟩,rfl,kr⟩)
   |(go_returns;exact⟨3,0,0,0,⟨W,.inl ⟨rfl,rfl,om⟩,.inr (.inr (.inl ⟨c1,rfl,rfl,rfl⟩))⟩,rfl,kr⟩)
   |(go_returns;exact⟨2,0,0,0,⟨_,.inl ⟨rfl,rfl,om⟩,.inr (.inr (.inr (.inl ⟨rfl,rfl,rfl,rfl⟩)))⟩,rfl,kr⟩)
   |(go_returns;exact⟨4,1,0,0,⟨v,.inr ⟨rfl,om,om⟩,.inr (.inl ⟨c1,c2,rfl,rfl,rfl⟩)⟩,rfl,kr⟩)
   |(go_returns;exact⟨3,1,0,0,⟨v,.inr ⟨rfl,om,om⟩,.inr (.inr (.inl ⟨c1,rfl,rfl,rfl⟩))⟩,rfl,kr⟩)
   |(go_returns;exact⟨2,1,0,0,⟨inf,.inr ⟨rfl,om,om⟩,.inr (.inr (.inr (.inl ⟨rfl,rfl,rfl,rfl⟩)))⟩,rfl,kr⟩)
   |(go_returns;exact⟨rfl,kr⟩)):P:=h
theorem CJ{one:Int}(h:aP f p mx one inf sg nan)(W:Int)(v0:0<=W)(v1:W<2*sg)(hn:W=0\/W=sg\/(inf<=W/\W<sg)\/sg+inf<=W)(w:World):
  CT 57 #[J f,.int .u64 W] w fun e w'=>∃c s x g:Int,dY p mx one inf sg nan W c s x g/\e=.returned (eH c s x g)/\Gr w w':=by
 obtain⟨b1,b2,b3,b4,b5,b6,b7,b8,b9,b10,b11,b12⟩:=h.bounds;have HE:Hid _:=h;clear h;rcases(show W=0\/W=sg\/(inf<W/\W<nan)\/(nan<=W/\W<sg)\/W=inf\/(∃v,W=v+sg/\inf<v/\v<nan)\/(∃v,W=v+sg/\nan<=v)\/W=inf+sg by
  rcases hn with h|h|h|h
  ·exact .inl h
  ·exact .inr (.inl h)
  ·omega
  ·by_cases a:W=inf+sg
   ·simp[a]
   ·by_cases b:W-sg<nan
    ·exact .inr (.inr (.inr (.inr (.inr (.inl ⟨W-sg,om,om,b⟩)))))
    ·exact .inr (.inr (.inr (.inr (.inr (.inr (.inl ⟨W-sg,om,om⟩)))))))with rfl|rfl|⟨c1,c2⟩|⟨c1,c2⟩|rfl|⟨v,rfl,c1,c2⟩|⟨v,rfl,c1⟩|rfl
 ·exact yN
 ·exact yN
 ·exact yN
 ·exact yN
 ·exact yN
 ·exact yN
 ·exact yN
 ·exact yN
theorem aDz{P:Prop}(h:P:=by
 go_wp2;go_roundg (gk-g.toNat)
 case measure=>omega
 case rel=>exact⟨j+1,g*2,by show _=_;rw[Int.pow_succ,<-Int.mul_assoc,<-HG.out],om,om,om,om,by rw[show 1-mx-p+1-((j+1:Nat):Int)=1-mx-p+1-j-1 by omega]⟩):P:=h
theorem aP.quot{one:Int}(h:aP f p mx one inf sg nan)(v:Int)(v0:one<=v)(v1:v<inf):
  0<=v%one/\v%one<one/\1<=v/one/\v/one<=2*mx:=by
 rcases h with⟨rfl,rfl,rfl,rfl,rfl,rfl,rfl⟩|⟨rfl,rfl,rfl,rfl,rfl,rfl,rfl⟩<;>omega
theorem CP{one:Int}(h:aP f p mx one inf sg nan)(W:Int)(v0:one<=W)(v1:W<inf)(w:World):
  CT 57 #[J f,.int .u64 W] w fun e w'=>∃c s x g:Int,dY p mx one inf sg nan W c s x g/\e=.returned (eH c s x g)/\Gr w w':=by
 obtain⟨b1,b2,b3,b4,b5,b6,b7,b8,b9,b10,b11,b12⟩:=h.bounds;obtain⟨q1,q2,q3,q4⟩:=h.quot W v0 v1;have HE:Hid _:=h;have HF:Hid (dY p mx one inf sg nan W 1 0 (1-mx-p+1+W/one-1) (W%one+one)):=
  ⟨W,.inl ⟨rfl,rfl,om⟩,.inr (.inr (.inr (.inr ⟨om,v1,rfl,0,W%one+one,_,.inr ⟨v0,rfl,rfl⟩,om,om,om,om⟩)))⟩
 clear h;generalize hm:W%one=m at*
 generalize hq:W/one=q at*
 go_enter func57,ntmps57;go_wp2_with (first
   |(go_at_call 117;refine(iW HE.out _ om om _).mono ?_;rintro e w' ⟨rfl,hw⟩;subst hw)
   |(go_at_call 107;refine(jh HE.out _).mono ?_;rintro e w' ⟨rfl,hw⟩;subst hw)
   |(go_at_call 98;refine(jL HE.out _).mono ?_;rintro e w' ⟨rfl,hw⟩;subst hw)
   |(go_at_call 121;refine(qZ HE.out _).mono ?_;rintro e w' ⟨rfl,hw⟩;subst hw)
   |(go_at_call 120;refine(lM HE.out _).mono ?_;rintro e w' ⟨rfl,hw⟩;subst hw)
   |(go_at_call 118;refine(iV HE.out _).mono ?_;rintro e w' ⟨rfl,hw⟩;subst hw))
 go_region;go_wp2;go_loopg [] 1 (fun k wr=>wr=(((w.alloc (.cells #[J 0,J 0,J 0,.int .u64 0] 80)).alloc (.cells #[J 1,J 0,J (1-mx-p+1+q-1),.int .u64 (m+one)] 80))).drew)
 case atStart=>rfl
 case round=>
  subst hrel;go_wp2;go_returns;exact⟨1,0,_,_,HF.out,rfl,kr⟩
theorem yU{one:Int}(h:aP f p mx one inf sg nan)(W:Int)(v0:0<W)(v1:W<one)(w:World):
  CT 57 #[J f,.int .u64 W] w fun e w'=>∃c s x g:Int,dY p mx one inf sg nan W c s x g/\e=.returned (eH c s x g)/\Gr w w':=by
 obtain⟨b1,b2,b3,b4,b5,b6,b7,b8,b9,b10,b11,b12⟩:=h.bounds;have HE:Hid _:=h;have hm:W%one=W:=Int.emod_eq_of_lt om v1;clear h;go_enter func57,ntmps57;go_wp2_with (first
   |(go_at_call 117;refine(iW HE.out _ om om _).mono ?_;rintro e w' ⟨rfl,hw⟩;subst hw)
   |(go_at_call 107;refine(jh HE.out _).mono ?_;rintro e w' ⟨rfl,hw⟩;subst hw)
   |(go_at_call 98;refine(jL HE.out _).mono ?_;rintro e w' ⟨rfl,hw⟩;subst hw)
   |(go_at_call 121;refine(qZ HE.out _).mono ?_;rintro e w' ⟨rfl,hw⟩;subst hw)
   |(go_at_call 120;refine(lM HE.out _).mono ?_;rintro e w' ⟨rfl,hw⟩;subst hw)
   |(go_at_call 118;refine(iV HE.out _).mono ?_;rintro e w' ⟨rfl,hw⟩;subst hw))
 go_loopg [] (one.toNat) (fun k wr=>∃(j:Nat) (g:Int),Hid (g=W*2^j)/\0<g/\g<2*one/\j<g/\one<=k+g/\wr=((w.alloc (.cells #[J 0,J 0,J 0,.int .u64 0] 80)).alloc (.cells #[J 1,J 0,J (1-mx-p+1-j),.int .u64 (g)] 80)))
 case atStart=>exact⟨0,W,by show _=_;omega,v0,om,om,om,by simp⟩
 case round=>
  obtain⟨j,g,HG,g0,g1,g2,g3,rfl⟩:=hrel;by_cases hg:g<one
  ·exact aDz
  ·have HF:Hid (dY p mx one inf sg nan W 1 0 (1-mx-p+1-j) g):=
    ⟨W,.inl ⟨rfl,rfl,om⟩,.inr (.inr (.inr (.inr ⟨om,om,rfl,j,W,_,.inl ⟨v1,rfl,rfl⟩,HG.out,om,om,g1⟩)))⟩
   go_wp2;go_returns;exact⟨1,0,_,_,HF.out,rfl,kr⟩
theorem CO{one:Int}(h:aP f p mx one inf sg nan)(W:Int)(v0:one<=W)(v1:W<inf)(w:World):
  CT 57 #[J f,.int .u64 (W+sg)] w fun e w'=>∃c s x g:Int,dY p mx one inf sg nan (W+sg) c s x g/\e=.returned (eH c s x g)/\Gr w w':=by
 obtain⟨b1,b2,b3,b4,b5,b6,b7,b8,b9,b10,b11,b12⟩:=h.bounds;obtain⟨q1,q2,q3,q4⟩:=h.quot W v0 v1;have HE:Hid _:=h;have HF:Hid (dY p mx one inf sg nan (W+sg) 1 1 (1-mx-p+1+W/one-1) (W%one+one)):=
  ⟨W,.inr ⟨rfl,om,om⟩,.inr (.inr (.inr (.inr ⟨om,v1,rfl,0,W%one+one,_,.inr ⟨v0,rfl,rfl⟩,om,om,om,om⟩)))⟩
 clear h;generalize hm:W%one=m at*
 generalize hq:W/one=q at*
 go_enter func57,ntmps57;go_wp2_with (first
   |(go_at_call 117;refine(iW HE.out _ om om _).mono ?_;rintro e w' ⟨rfl,hw⟩;subst hw)
   |(go_at_call 107;refine(jh HE.out _).mono ?_;rintro e w' ⟨rfl,hw⟩;subst hw)
   |(go_at_call 98;refine(jL HE.out _).mono ?_;rintro e w' ⟨rfl,hw⟩;subst hw)
   |(go_at_call 121;refine(qZ HE.out _).mono ?_;rintro e w' ⟨rfl,hw⟩;subst hw)
   |(go_at_call 120;refine(lM HE.out _).mono ?_;rintro e w' ⟨rfl,hw⟩;subst hw)
   |(go_at_call 118;refine(iV HE.out _).mono ?_;rintro e w' ⟨rfl,hw⟩;subst hw))
 go_region;go_wp2;go_loopg [] 1 (fun k wr=>wr=(((w.alloc (.cells #[J 0,J 0,J 0,.int .u64 0] 80)).alloc (.cells #[J 1,J 1,J (1-mx-p+1+q-1),.int .u64 (m+one)] 80))).drew)
 case atStart=>rfl
 case round=>
  subst hrel;go_wp2;go_returns;exact⟨1,1,_,_,HF.out,rfl,kr⟩
theorem yT{one:Int}(h:aP f p mx one inf sg nan)(W:Int)(v0:0<W)(v1:W<one)(w:World):
  CT 57 #[J f,.int .u64 (W+sg)] w fun e w'=>∃c s x g:Int,dY p mx one inf sg nan (W+sg) c s x g/\e=.returned (eH c s x g)/\Gr w w':=by
 obtain⟨b1,b2,b3,b4,b5,b6,b7,b8,b9,b10,b11,b12⟩:=h.bounds;have HE:Hid _:=h;have hm:W%one=W:=Int.emod_eq_of_lt om v1;clear h;go_enter func57,ntmps57;go_wp2_with (first
   |(go_at_call 117;refine(iW HE.out _ om om _).mono ?_;rintro e w' ⟨rfl,hw⟩;subst hw)
   |(go_at_call 107;refine(jh HE.out _).mono ?_;rintro e w' ⟨rfl,hw⟩;subst hw)
   |(go_at_call 98;refine(jL HE.out _).mono ?_;rintro e w' ⟨rfl,hw⟩;subst hw)
   |(go_at_call 121;refine(qZ HE.out _).mono ?_;rintro e w' ⟨rfl,hw⟩;subst hw)
   |(go_at_call 120;refine(lM HE.out _).mono ?_;rintro e w' ⟨rfl,hw⟩;subst hw)
   |(go_at_call 118;refine(iV HE.out _).mono ?_;rintro e w' ⟨rfl,hw⟩;subst hw))
 go_loopg [] (one.toNat) (fun k wr=>∃(j:Nat) (g:Int),Hid (g=W*2^j)/\0<g/\g<2*one/\j<g/\one<=k+g/\wr=((w.alloc (.cells #[J 0,J 0,J 0,.int .u64 0] 80)).alloc (.cells #[J 1,J 1,J (1-mx-p+1-j),.int .u64 (g)] 80)))
 case atStart=>exact⟨0,W,by show _=_;omega,v0,om,om,om,by simp⟩
 case round=>
  obtain⟨j,g,HG,g0,g1,g2,g3,rfl⟩:=hrel;by_cases hg:g<one
  ·exact aDz
  ·have HF:Hid (dY p mx one inf sg nan (W+sg) 1 1 (1-mx-p+1-j) g):=
    ⟨W,.inr ⟨rfl,om,om⟩,.inr (.inr (.inr (.inr ⟨om,om,rfl,j,W,_,.inl ⟨v1,rfl,rfl⟩,HG.out,om,om,g1⟩)))⟩
   go_wp2;go_returns;exact⟨1,1,_,_,HF.out,rfl,kr⟩
theorem Tn{one:Int}(h:a<b)(m0:0<m)(h1:one<=m*2^a)(h2:m*2^b<2*one):False:=by
 obtain⟨d,rfl⟩:∃d,b=a+1+d:=⟨b-(a+1),om⟩;have e:m*(2:Int)^(a+1+d)=m*2^a*2*2^d:=by
  rw[Int.pow_add,Int.pow_succ];simp[Int.mul_assoc]
 rw[e]at h2;have p1:(1:Int)<=2^d:=by
  have h0:(0:Int)<2^d:=Int.pow_pos de;exact h0
 have p2:(0:Int)<2^a:=Int.pow_pos de;have p3:0<m*2^a:=Int.mul_pos m0 p2;have:=Int.mul_le_mul_of_nonneg_left p1 (show 0<=m*2^a*2 by omega);omega
theorem jE.one{one:Int}(v0:0<v)(aKb:0<one)(h:jE p mx one v e g)(h':jE p mx one v e' g'):e=e'/\g=g':=by
 obtain⟨k,m,e0,hm,hg,he,h1,h2⟩:=h;obtain⟨k',m',e0',hm',hg',he',h1',h2'⟩:=h';have hmm:m=m'/\e0=e0'/\0<m:=by
  have:=Int.emod_nonneg v (show one≠0 by omega);omega
 obtain⟨rfl,rfl,m0⟩:=hmm;have hk:k=k':=by
  subst hg hg';rcases Nat.lt_trichotomy k k' with c|c|c
  ·exact(Tn c m0 h1 h2').elim
  ·exact c
  ·exact(Tn c m0 h1' h2).elim
 subst hk;exact⟨om,by rw[hg,hg']⟩
theorem dY.one{one:Int}(hf:aP f p mx one inf sg nan)(h:dY p mx one inf sg nan W c s e g)(h':dY p mx one inf sg nan W c' s' e' g'):c=c'/\s=s'/\e=e'/\g=g':=by
 obtain⟨b1,b2,b3,b4,b5,b6,b7,b8,b9,b10,b11,b12⟩:=hf.bounds;obtain⟨v,hv,hc⟩:=h;obtain⟨v',hv',hc'⟩:=h';have hvv:v=v'/\s=s':=om;obtain⟨rfl,rfl⟩:=hvv;rcases hc with hc|hc|hc|hc|⟨a1,a2,rfl,a3⟩
 ·rcases hc' with h|h|h|h|h<;>omega
 ·rcases hc' with h|h|h|h|h<;>omega
 ·rcases hc' with h|h|h|h|h<;>omega
 ·rcases hc' with h|h|h|h|h<;>omega
 ·rcases hc' with h|h|h|h|⟨_,_,rfl,a3'⟩
  ·omega
  ·omega
  ·omega
  ·omega
  ·obtain⟨rfl,rfl⟩:=jE.one a1 om a3 a3';exact⟨rfl,rfl,rfl,rfl⟩
theorem D6{one:Int}(h:aP f p mx one inf sg nan)(W:Int)(v0:0<=W)(v1:W<2*sg)(w:World):
  CT 57 #[J f,.int .u64 W] w fun e w'=>∃c s x g:Int,dY p mx one inf sg nan W c s x g/\e=.returned (eH c s x g)/\Gr w w':=by
 obtain⟨b1,b2,b3,b4,b5,b6,b7,b8,b9,b10,b11,b12⟩:=h.bounds;by_cases hn:W=0\/W=sg\/(inf<=W/\W<sg)\/sg+inf<=W
 ·exact CJ h W v0 v1 hn w
 ·by_cases hs:W<sg
  ·by_cases ho:one<=W
   ·exact CP h W ho om w
   ·exact yU h W om om w
  ·obtain⟨v,rfl⟩:∃v,W=v+sg:=⟨W-sg,om⟩;by_cases ho:one<=v
   ·exact CO h v ho om w
   ·exact yT h v om om w
theorem aAF(f v:Int)(v0:0<=v)(h:¬(f=0\/f=1)\/(f=0/\4294967296<=v))(w:World):
  QR 57 #[J f,.int .u64 v] w (eH 4 0 0 0):=by
 have HE:Hid _:=h;clear h;exact yN
theorem aFq(f v:Int)(v0:0<=v)(v1:v<18446744073709551616):(∃p mx one inf sg nan,aP f p mx one inf sg nan/\v<2*sg)\/(¬(f=0\/f=1)\/(f=0/\4294967296<=v)):=by
 by_cases h0:f=0
 ·by_cases hv:v<4294967296
  ·exact .inl ⟨_,_,_,_,_,_,.inl ⟨h0,rfl,rfl,rfl,rfl,rfl,rfl⟩,om⟩
  ·exact .inr (.inr ⟨h0,om⟩)
 ·by_cases h1:f=1
  ·exact .inl ⟨_,_,_,_,_,_,.inr ⟨h1,rfl,rfl,rfl,rfl,rfl,rfl⟩,om⟩
  ·exact .inr (.inl om)
theorem lX(h l n:Int)(hh0:0<=h)(hl0:0<=l)(hh1:h<18446744073709551616)(hl1:l<18446744073709551616)(w:World):
  QR 158 #[aG h l,J n] w (aG (lu h l (bnd n).toNat) (lq h l (bnd n).toNat)):=by
 go_enter func158,ntmps158;go_wp2_with (first
  |(go_at_call 200;refine(mD _ _ _).mono ?_;rintro e w1 ⟨rfl,c1,c2,rfl⟩)
  |(go_at_call 201;refine(MV l h n hl0 hh0 hl1 hh1 _).mono ?_;rintro e w2 ⟨rfl,aA⟩)
  |(go_at_call 202;refine(RV _ _ _).mono ?_;rintro e w3 ⟨rfl,aF⟩;have hf3:=aF.dK;have hf2:=aA.dK;obtain⟨q0,q1⟩:yB w3 (w.heap.size+1) 0 1 (.int .u64 0) (.int .u64 0):=⟨kl,kl⟩))
 exact bI (by simp[results,Tryz.results158,go_sem,q0,q1])
theorem Vy(h l:Int)(k:Nat)(h0:0<=h)(l0:0<=l)(h1:h<18446744073709551616)(l1:l<18446744073709551616):
  (lu (je h l k) (iF h l k) k=h/\lq (je h l k) (iF h l k) k=l↔iR h l k=false)/\(0<=je h l k/\je h l k<18446744073709551616/\0<=iF h l k/\iF h l k<18446744073709551616):=by
 have hp:(0:Int)<2^k:=Int.pow_pos de;unfold lu lq je iF iR;have hV0:0<=h*18446744073709551616+l:=om;have hV1:h*18446744073709551616+l<340282366920938463463374607431768211456:=om;have eh:h=(h*18446744073709551616+l)/18446744073709551616:=om;have el:l=(h*18446744073709551616+l)%18446744073709551616:=om;generalize h*18446744073709551616+l=V at*
 subst eh el;have e1:V/2^k/18446744073709551616*18446744073709551616+V/2^k%18446744073709551616=V/2^k:=om;rw[e1];have e2:V/2^k*2^k+V%2^k=V:=Int.ediv_mul_add_emod V (2^k);have e3:0<=V%2^k:=Int.emod_nonneg _ om;have e4:0<=V/2^k:=Int.ediv_nonneg hV0 om;have e5:V/2^k<=V:=Int.ediv_le_self _ hV0;have e6:0<=V/2^k*2^k:=Int.mul_nonneg e4 om;generalize V/2^k*2^k=T at*
 generalize V/2^k=D at*
 generalize V%2^k=R at*
 refine⟨?_,om,om,om,om⟩;simp only[decide_eq_false_iff_not,Classical.not_not];omega
def zer(h l:Int):Int:=if h=0 then 128-(Go.Lib.bitLen l.toNat:Int)else 64-(Go.Lib.bitLen h.toNat:Int)
theorem Uh(a0 a1:Int)(ha0:0<=a0)(ha1:0<=a1)(CW:a0<18446744073709551616)(E_:a1<18446744073709551616)(w:World):
  QR 227 #[aG a0 a1] w (J (zer a1 a0)):=by
 have hl0:=Go.Lib.bitLen_le a0.toNat 64 om om;have hl1:=Go.Lib.bitLen_le a1.toNat 64 om om;by_cases z1:a1=0
 ·subst z1;by_cases z0:a0=0
  ·subst z0;go_enter func227,ntmps227;go_wp2;refine wp_loop_rounds 3 ?_;rw[rounds_succ];go_wp2;rw[rounds_succ];go_wp2;rw[rounds_succ];go_wp2;go_returns;exact⟨bJ (congrArg (Value.int IntKind.i64) (by decide+kernel)),⟨by go_grown,by go_grown⟩⟩
  ·have e0:(a0==0)=false:=by simp[z0]
   clear z0;go_enter func227,ntmps227;go_wp2;refine wp_loop_rounds 3 ?_;rw[rounds_succ];go_wp2;rw[rounds_succ];go_wp2_with (go_at_call 237;refine(MR _ ha0 CW _).mono ?_;rintro e w' ⟨rfl,rfl⟩);go_returns;exact⟨bJ (congrArg (Value.int IntKind.i64) (by unfold zer;rw[if_pos rfl];omega)),⟨by go_grown,by go_grown⟩⟩
 ·have e1:(a1==0)=false:=by simp[z1]
  have Z1:Hid _:=z1;clear z1;go_enter func227,ntmps227;go_wp2;refine wp_loop_rounds 3 ?_;rw[rounds_succ];go_wp2_with (go_at_call 237;refine(MR _ ha1 E_ _).mono ?_;rintro e w' ⟨rfl,rfl⟩);go_returns;exact⟨bJ (congrArg (Value.int IntKind.i64) (by unfold zer;rw[if_neg Z1.out];try omega)),⟨by go_grown,by go_grown⟩⟩
def bl(X:Int):Int:=if X/18446744073709551616=0 then(Go.Lib.bitLen (X%18446744073709551616).toNat :Int)else 64+(Go.Lib.bitLen (X/18446744073709551616).toNat :Int)
theorem aFz(h l:Int)(h0:0<=h)(l0:0<=l)(h1:h<18446744073709551616)(l1:l<18446744073709551616):zer h l=128-bl (h*18446744073709551616+l):=by
 have e1:(h*18446744073709551616+l)/18446744073709551616=h:=om;have e2:(h*18446744073709551616+l)%18446744073709551616=l:=om;unfold zer bl;rw[e1,e2];split<;>omega
theorem aJJ(X:Int)(x0:0<=X)(x1:X<340282366920938463463374607431768211456):bl X<=128:=by
 unfold bl;have a:=Go.Lib.bitLen_le (X%18446744073709551616).toNat 64 om om;have b:=Go.Lib.bitLen_le (X/18446744073709551616).toNat 64 om om;split<;>omega
theorem aFT(X:Int):0<=bl X:=by
 unfold bl;split<;>omega
theorem aHI:bl 0=0:=by decide+kernel
theorem aHJ(X:Int)(x0:0<X)(x1:X<340282366920938463463374607431768211456):bl X=1+bl (X/2):=by
 unfold bl;by_cases h:X/18446744073709551616=0
 ·have h2:X/2/18446744073709551616=0:=om;rw[if_pos h,if_pos h2];have e:=Go.Lib.bitLen_half (X%18446744073709551616).toNat om om;have e2:(X%18446744073709551616).toNat /2=(X/2%18446744073709551616).toNat :=om;rw[e,e2];omega
 ·by_cases h1:X/18446744073709551616=1
  ·have h2:X/2/18446744073709551616=0:=om;rw[if_neg h,if_pos h2,h1];have e:=Go.Lib.bitLen_shift 63 (X/2%18446744073709551616).toNat (by simp only[Nat.reducePow];omega) om;have e2:(X/2%18446744073709551616).toNat /2^63=1:=by simp only[Nat.reducePow];omega
   have e3:Go.Lib.bitLen 1=1:=by decide+kernel
   rw[e2,e3]at e;rw[e];have e4:(1:Int).toNat =1:=rfl;rw[e4,e3];omega
  ·have h2:¬X/2/18446744073709551616=0:=om;rw[if_neg h,if_neg h2];have e:=Go.Lib.bitLen_half (X/18446744073709551616).toNat om om;have e2:(X/18446744073709551616).toNat /2=(X/2/18446744073709551616).toNat :=om;rw[e,e2];omega
theorem Gu(h l:Int)(h0:0<=h)(l0:0<=l)(h1:h<18446744073709551616)(l1:l<18446744073709551616)(w:World):
  QR 215 #[aG h l] w (J (zer h l)):=by
 go_enter func215,ntmps215;go_wp2_with (first
  |(go_at_call 200;refine(mD _ _ _).mono ?_;rintro e w1 ⟨rfl,c1,c2,rfl⟩)
  |(go_at_call 227;refine(Uh l h l0 h0 l1 h1 _).mono ?_;rintro e w2 ⟨rfl,aA⟩))
 go_returns;exact⟨rfl,kr⟩
theorem BD(ah al bh bl:Int)(ha0:0<=ah)(ha1:ah<18446744073709551616)(hb0:0<=al)(hb1:al<18446744073709551616)(hc0:0<=bh)(hc1:bh<18446744073709551616)(hd0:0<=bl)(hd1:bl<18446744073709551616)(w:World):
  CT 235 #[aG ah al,aG bh bl] w fun e w'=>
   e=.returned (.tuple #[aG ((ah-bh-Kr al bl)%18446744073709551616) ((al-bl)%18446744073709551616),.bool (lt2 ah al bh bl)])/\Gr w w':=by
 have HL:Hid (lt2 ah al bh bl=(Kr ah (bh+Kr al bl) != 0)):=rfl;go_enter func235,ntmps235;go_wp2;go_region_held3 (fun w'=>aj w' w.heap.size 0 (.int .u64 ah)/\aj w' w.heap.size 1 (.int .u64 al)/\aj w' (w.heap.size+1) 0 (.int .u64 bh)/\aj w' (w.heap.size+1) 1 (.int .u64 bl))
  (simp[go_sem,World.cell?_alloc_past])
  (first
   |(go_at_call 200;refine(mD _ _ _).mono ?_;rintro e w1 ⟨rfl,c1,c2,rfl⟩)
   |(go_at_call 242;refine(Vt al ah bl bh hb0 ha0 hd0 hc0 hd1 hc1 _).mono ?_;rintro e w2 ⟨rfl,d1,d2,d3,d4,rfl⟩))
 all_goals go_wp2_with (go_at_call 202;refine(yH _ _ _).mono ?_;rintro e w1 ⟨rfl,f1,f2,rfl⟩)
 all_goals go_returns
 all_goals exact⟨Eu rfl rfl HL.out.symm,⟨by go_grown,by go_grown⟩⟩
