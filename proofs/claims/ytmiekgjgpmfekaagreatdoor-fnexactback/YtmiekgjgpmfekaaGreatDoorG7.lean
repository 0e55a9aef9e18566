import Derived.Test.YtmiekgjgpmfekaaGreatDoorG2
import Derived.Deep.LoopGhost
import Derived.Test.YtmiekgjgpmfekaaGreatDoorG8
set_option linter.all false
set_option maxHeartbeats 40000000
open Go.Proofs.YtmiekgjgpmfekaaGreatDoor renaming vI → J, vU → Y
open Go.Proofs.Tryz
namespace Go.Proofs.YtmiekgjgpmfekaaGreatDoor
open Go.RowKit
attribute [local go_sem] aj
variable{p mx f inf sg nan e g e' g' c a b m v W s c' s':Int}{w w':World}{t:TypeId}{n k:Nat}{cs:Array Value}
def jJ(p mx one v e g:Int):Prop:=
 ∃(k:Nat) (m e0:Int),(v<one/\m=v/\e0=2-mx-p\/one<=v/\m=v%one+one/\e0=1-mx-p+v/one)/\g=m*2^k/\e=e0-k/\one<=g/\g<2*one
def dY(p mx one inf sg nan W c s e g:Int):Prop:=
 ∃v:Int,(s=0/\v=W/\W<sg\/s=1/\v=W-sg/\sg<=W)/\
  (v=0/\c=0/\e=0/\g=0\/inf<v/\v<nan/\c=4/\e=0/\g=0\/nan<=v/\c=3/\e=0/\g=0\/v=inf/\c=2/\e=0/\g=0\/0<v/\v<inf/\c=1/\jJ p mx one v e g)
theorem zB{P:Prop}(h:P:=by
 go_enter func57,ntmps57;go_wp2_with (first
   |(go_at_call 117;first|(refine(jf HE.out _ om om _).mono ?_;rintro e w' ⟨rfl,hw⟩;subst hw)|(refine(r_ _ _ v0 HE.out _).mono ?_;rintro e w' ⟨rfl,hw⟩;subst hw))
   |(go_at_call 107;refine(jv HE.out _).mono ?_;rintro e w' ⟨rfl,hw⟩;subst hw)
   |(go_at_call 119;refine(rX HE.out _).mono ?_;rintro e w' ⟨rfl,hw⟩;subst hw)
   |(go_at_call 118;refine(je HE.out _).mono ?_;rintro e w' ⟨rfl,hw⟩;subst hw))
 first
   |(go_returns;exact⟨0,0,0,0,⟨0,.inl ⟨rfl,rfl,om⟩,.inl ⟨rfl,rfl,rfl,rfl⟩⟩,rfl,kr⟩)
   |(go_returns;exact⟨0,1,0,0,⟨0,.inr ⟨rfl,om,om⟩,.inl ⟨rfl,rfl,rfl,rfl⟩⟩,rfl,kr⟩)
   |(go_returns;exact⟨4,0,0,0,⟨W,.inl ⟨rfl,rfl,om⟩,.inr (.inl ⟨c1,c2,rfl,rfl,rfl⟩)⟩,rfl,kr⟩)
   |(go_returns;exact⟨3,0,0,0,⟨W,.inl ⟨rfl,rfl,om⟩,.inr (.inr (.inl ⟨c1,rfl,rfl,rfl⟩))⟩,rfl,kr⟩)
   |(go_returns;exact⟨2,0,0,0,⟨_,.inl ⟨rfl,rfl,om⟩,.inr (.inr (.inr (.inl ⟨rfl,rfl,rfl,rfl⟩)))⟩,rfl,kr⟩)
   |(go_returns;exact⟨4,1,0,0,⟨v,.inr ⟨rfl,om,om⟩,.inr (.inl ⟨c1,c2,rfl,rfl,rfl⟩)⟩,rfl,kr⟩)
   |(go_returns;exact⟨3,1,0,0,⟨v,.inr ⟨rfl,om,om⟩,.inr (.inr (.inl ⟨c1,rfl,rfl,rfl⟩))⟩,rfl,kr⟩)
   |(go_returns;exact⟨2,1,0,0,⟨inf,.inr ⟨rfl,om,om⟩,.inr (.inr (.inr (.inl ⟨rfl,rfl,rfl,rfl⟩)))⟩,rfl,kr⟩)
   |(go_returns;exact⟨rfl,kr⟩)):P:=h
theorem Dn{one:Int}(h:aQ f p mx one inf sg nan)(W:Int)(v0:0<=W)(v1:W<2*sg)(hn:W=0\/W=sg\/(inf<=W/\W<sg)\/sg+inf<=W)(w:World):
  CT 57 #[J f,Y W] w fun e w'=>∃c s x g:Int,dY p mx one inf sg nan W c s x g/\e=.returned (eX c s x g)/\Gr w w':=by
 obtain⟨b1,b2,b3,b4,b5,b6,b7,b8,b9,b10,b11,b12⟩:=h.bounds;have HE:Hid _:=h;clear h;rcases(show W=0\/W=sg\/(inf<W/\W<nan)\/(nan<=W/\W<sg)\/W=inf\/(∃v,W=v+sg/\inf<v/\v<nan)\/(∃v,W=v+sg/\nan<=v)\/W=inf+sg by
  rcases hn with h|h|h|h
  ·exact .inl h
  ·exact .inr (.inl h)
  ·omega
  ·by_cases a:W=inf+sg
   ·simp[a]
   ·by_cases b:W-sg<nan
    ·exact .inr (.inr (.inr (.inr (.inr (.inl ⟨W-sg,om,om,b⟩)))))
    ·exact .inr (.inr (.inr (.inr (.inr (.inr (.inl ⟨W-sg,om,om⟩)))))))with rfl|rfl|⟨c1,c2⟩|⟨c1,c2⟩|rfl|⟨v,rfl,c1,c2⟩|⟨v,rfl,c1⟩|rfl
 ·exact zB
 ·exact zB
 ·exact zB
 ·exact zB
 ·exact zB
 ·exact zB
 ·exact zB
 ·exact zB
theorem aEv{P:Prop}(h:P:=by
 go_wp2;go_roundg (gk-g.toNat)
 case measure=>omega
 case rel=>exact⟨j+1,g*2,by show _=_;rw[Int.pow_succ,<-Int.mul_assoc,<-HG.out],om,om,om,om,by rw[show 1-mx-p+1-((j+1:Nat):Int)=1-mx-p+1-j-1 by omega]⟩):P:=h
theorem aQ.quot{one:Int}(h:aQ f p mx one inf sg nan)(v:Int)(v0:one<=v)(v1:v<inf):
  0<=v%one/\v%one<one/\1<=v/one/\v/one<=2*mx:=by
 rcases h with⟨rfl,rfl,rfl,rfl,rfl,rfl,rfl⟩|⟨rfl,rfl,rfl,rfl,rfl,rfl,rfl⟩<;>omega
theorem Dq{one:Int}(h:aQ f p mx one inf sg nan)(W:Int)(v0:one<=W)(v1:W<inf)(w:World):
  CT 57 #[J f,Y W] w fun e w'=>∃c s x g:Int,dY p mx one inf sg nan W c s x g/\e=.returned (eX c s x g)/\Gr w w':=by
 obtain⟨b1,b2,b3,b4,b5,b6,b7,b8,b9,b10,b11,b12⟩:=h.bounds;obtain⟨q1,q2,q3,q4⟩:=h.quot W v0 v1;have HE:Hid _:=h;have HF:Hid (dY p mx one inf sg nan W 1 0 (1-mx-p+1+W/one-1) (W%one+one)):=
  ⟨W,.inl ⟨rfl,rfl,om⟩,.inr (.inr (.inr (.inr ⟨om,v1,rfl,0,W%one+one,_,.inr ⟨v0,rfl,rfl⟩,om,om,om,om⟩)))⟩
 clear h;generalize hm:W%one=m at*
 generalize hq:W/one=q at*
 go_enter func57,ntmps57;go_wp2_with (first
   |(go_at_call 117;refine(jf HE.out _ om om _).mono ?_;rintro e w' ⟨rfl,hw⟩;subst hw)
   |(go_at_call 107;refine(jv HE.out _).mono ?_;rintro e w' ⟨rfl,hw⟩;subst hw)
   |(go_at_call 98;refine(jT HE.out _).mono ?_;rintro e w' ⟨rfl,hw⟩;subst hw)
   |(go_at_call 121;refine(rY HE.out _).mono ?_;rintro e w' ⟨rfl,hw⟩;subst hw)
   |(go_at_call 120;refine(mG HE.out _).mono ?_;rintro e w' ⟨rfl,hw⟩;subst hw)
   |(go_at_call 118;refine(je HE.out _).mono ?_;rintro e w' ⟨rfl,hw⟩;subst hw))
 go_region;go_wp2;go_loopg [] 1 (fun k wr=>wr=(((w.alloc (.cells #[J 0,J 0,J 0,Y 0] 80)).alloc (.cells #[J 1,J 0,J (1-mx-p+1+q-1),Y (m+one)] 80))).drew)
 case atStart=>rfl
 case round=>
  subst hrel;go_wp2;go_returns;exact⟨1,0,_,_,HF.out,rfl,kr⟩
theorem zJ{one:Int}(h:aQ f p mx one inf sg nan)(W:Int)(v0:0<W)(v1:W<one)(w:World):
  CT 57 #[J f,Y W] w fun e w'=>∃c s x g:Int,dY p mx one inf sg nan W c s x g/\e=.returned (eX c s x g)/\Gr w w':=by
 obtain⟨b1,b2,b3,b4,b5,b6,b7,b8,b9,b10,b11,b12⟩:=h.bounds;have HE:Hid _:=h;have hm:W%one=W:=Int.emod_eq_of_lt om v1;clear h;go_enter func57,ntmps57;go_wp2_with (first
   |(go_at_call 117;refine(jf HE.out _ om om _).mono ?_;rintro e w' ⟨rfl,hw⟩;subst hw)
   |(go_at_call 107;refine(jv HE.out _).mono ?_;rintro e w' ⟨rfl,hw⟩;subst hw)
   |(go_at_call 98;refine(jT HE.out _).mono ?_;rintro e w' ⟨rfl,hw⟩;subst hw)
   |(go_at_call 121;refine(rY HE.out _).mono ?_;rintro e w' ⟨rfl,hw⟩;subst hw)
   |(go_at_call 120;refine(mG HE.out _).mono ?_;rintro e w' ⟨rfl,hw⟩;subst hw)
   |(go_at_call 118;refine(je HE.out _).mono ?_;rintro e w' ⟨rfl,hw⟩;subst hw))
 go_loopg [] (one.toNat) (fun k wr=>∃(j:Nat) (g:Int),Hid (g=W*2^j)/\0<g/\g<2*one/\j<g/\one<=k+g/\wr=((w.alloc (.cells #[J 0,J 0,J 0,Y 0] 80)).alloc (.cells #[J 1,J 0,J (1-mx-p+1-j),Y (g)] 80)))
 case atStart=>exact⟨0,W,by show _=_;omega,v0,om,om,om,by simp⟩
 case round=>
  obtain⟨j,g,HG,g0,g1,g2,g3,rfl⟩:=hrel;by_cases hg:g<one
  ·exact aEv
  ·have HF:Hid (dY p mx one inf sg nan W 1 0 (1-mx-p+1-j) g):=
    ⟨W,.inl ⟨rfl,rfl,om⟩,.inr (.inr (.inr (.inr ⟨om,om,rfl,j,W,_,.inl ⟨v1,rfl,rfl⟩,HG.out,om,om,g1⟩)))⟩
   go_wp2;go_returns;exact⟨1,0,_,_,HF.out,rfl,kr⟩
theorem Dp{one:Int}(h:aQ f p mx one inf sg nan)(W:Int)(v0:one<=W)(v1:W<inf)(w:World):
  CT 57 #[J f,Y (W+sg)] w fun e w'=>∃c s x g:Int,dY p mx one inf sg nan (W+sg) c s x g/\e=.returned (eX c s x g)/\Gr w w':=by
 obtain⟨b1,b2,b3,b4,b5,b6,b7,b8,b9,b10,b11,b12⟩:=h.bounds;obtain⟨q1,q2,q3,q4⟩:=h.quot W v0 v1;have HE:Hid _:=h;have HF:Hid (dY p mx one inf sg nan (W+sg) 1 1 (1-mx-p+1+W/one-1) (W%one+one)):=
  ⟨W,.inr ⟨rfl,om,om⟩,.inr (.inr (.inr (.inr ⟨om,v1,rfl,0,W%one+one,_,.inr ⟨v0,rfl,rfl⟩,om,om,om,om⟩)))⟩
 clear h;generalize hm:W%one=m at*
 generalize hq:W/one=q at*
 go_enter func57,ntmps57;go_wp2_with (first
   |(go_at_call 117;refine(jf HE.out _ om om _).mono ?_;rintro e w' ⟨rfl,hw⟩;subst hw)
   |(go_at_call 107;refine(jv HE.out _).mono ?_;rintro e w' ⟨rfl,hw⟩;subst hw)
   |(go_at_call 98;refine(jT HE.out _).mono ?_;rintro e w' ⟨rfl,hw⟩;subst hw)
   |(go_at_call 121;refine(rY HE.out _).mono ?_;rintro e w' ⟨rfl,hw⟩;subst hw)
   |(go_at_call 120;refine(mG HE.out _).mono ?_;rintro e w' ⟨rfl,hw⟩;subst hw)
   |(go_at_call 118;refine(je HE.out _).mono ?_;rintro e w' ⟨rfl,hw⟩;subst hw))
 go_region;go_wp2;go_loopg [] 1 (fun k wr=>wr=(((w.alloc (.cells #[J 0,J 0,J 0,Y 0] 80)).alloc (.cells #[J 1,J 1,J (1-mx-p+1+q-1),Y (m+one)] 80))).drew)
 case atStart=>rfl
 case round=>
  subst hrel;go_wp2;go_returns;exact⟨1,1,_,_,HF.out,rfl,kr⟩
theorem zI{one:Int}(h:aQ f p mx one inf sg nan)(W:Int)(v0:0<W)(v1:W<one)(w:World):
  CT 57 #[J f,Y (W+sg)] w fun e w'=>∃c s x g:Int,dY p mx one inf sg nan (W+sg) c s x g/\e=.returned (eX c s x g)/\Gr w w':=by
 obtain⟨b1,b2,b3,b4,b5,b6,b7,b8,b9,b10,b11,b12⟩:=h.bounds;have HE:Hid _:=h;have hm:W%one=W:=Int.emod_eq_of_lt om v1;clear h;go_enter func57,ntmps57;go_wp2_with (first
   |(go_at_call 117;refine(jf HE.out _ om om _).mono ?_;rintro e w' ⟨rfl,hw⟩;subst hw)
   |(go_at_call 107;refine(jv HE.out _).mono ?_;rintro e w' ⟨rfl,hw⟩;subst hw)
   |(go_at_call 98;refine(jT HE.out _).mono ?_;rintro e w' ⟨rfl,hw⟩;subst hw)
   |(go_at_call 121;refine(rY HE.out _).mono ?_;rintro e w' ⟨rfl,hw⟩;subst hw)
   |(go_at_call 120;refine(mG HE.out _).mono ?_;rintro e w' ⟨rfl,hw⟩;subst hw)
   |(go_at_call 118;refine(je HE.out _).mono ?_;rintro e w' ⟨rfl,hw⟩;subst hw))
 go_loopg [] (one.toNat) (fun k wr=>∃(j:Nat) (g:Int),Hid (g=W*2^j)/\0<g/\g<2*one/\j<g/\one<=k+g/\wr=((w.alloc (.cells #[J 0,J 0,J 0,Y 0] 80)).alloc (.cells #[J 1,J 1,J (1-mx-p+1-j),Y (g)] 80)))
 case atStart=>exact⟨0,W,by show _=_;omega,v0,om,om,om,by simp⟩
 case round=>
  obtain⟨j,g,HG,g0,g1,g2,g3,rfl⟩:=hrel;by_cases hg:g<one
  ·exact aEv
  ·have HF:Hid (dY p mx one inf sg nan (W+sg) 1 1 (1-mx-p+1-j) g):=
    ⟨W,.inr ⟨rfl,om,om⟩,.inr (.inr (.inr (.inr ⟨om,om,rfl,j,W,_,.inl ⟨v1,rfl,rfl⟩,HG.out,om,om,g1⟩)))⟩
   go_wp2;go_returns;exact⟨1,1,_,_,HF.out,rfl,kr⟩
theorem Um{one:Int}{a b:Nat}(h:a<b)(m0:0<m)(h1:one<=m*2^a)(h2:m*2^b<2*one):False:=by
 obtain⟨d,rfl⟩:∃d,b=a+1+d:=⟨b-(a+1),om⟩;have e:m*(2:Int)^(a+1+d)=m*2^a*2*2^d:=by
  rw[Int.pow_add,Int.pow_succ];simp[Int.mul_assoc]
 rw[e]at h2;have p1:(1:Int)<=2^d:=by
  have h0:(0:Int)<2^d:=Int.pow_pos de;exact h0
 have p2:(0:Int)<2^a:=Int.pow_pos de;have p3:0<m*2^a:=Int.mul_pos m0 p2;have:=Int.mul_le_mul_of_nonneg_left p1 (show 0<=m*2^a*2 by omega);omega
theorem jJ.one{one:Int}(v0:0<v)(aK2:0<one)(h:jJ p mx one v e g)(h':jJ p mx one v e' g'):e=e'/\g=g':=by
 obtain⟨k,m,e0,hm,hg,he,h1,h2⟩:=h;obtain⟨k',m',e0',hm',hg',he',h1',h2'⟩:=h';have hmm:m=m'/\e0=e0'/\0<m:=by
  have:=Int.emod_nonneg v (show one≠0 by omega);omega
 obtain⟨rfl,rfl,m0⟩:=hmm;have hk:k=k':=by
  subst hg hg';rcases Nat.lt_trichotomy k k' with c|c|c
  ·exact(Um c m0 h1 h2').elim
  ·exact c
  ·exact(Um c m0 h1' h2).elim
 subst hk;exact⟨om,by rw[hg,hg']⟩
theorem dY.one{one:Int}(hf:aQ f p mx one inf sg nan)(h:dY p mx one inf sg nan W c s e g)(h':dY p mx one inf sg nan W c' s' e' g'):c=c'/\s=s'/\e=e'/\g=g':=by
 obtain⟨b1,b2,b3,b4,b5,b6,b7,b8,b9,b10,b11,b12⟩:=hf.bounds;obtain⟨v,hv,hc⟩:=h;obtain⟨v',hv',hc'⟩:=h';have hvv:v=v'/\s=s':=om;obtain⟨rfl,rfl⟩:=hvv;rcases hc with hc|hc|hc|hc|⟨a1,a2,rfl,a3⟩
 ·rcases hc' with h|h|h|h|h<;>omega
 ·rcases hc' with h|h|h|h|h<;>omega
 ·rcases hc' with h|h|h|h|h<;>omega
 ·rcases hc' with h|h|h|h|h<;>omega
 ·rcases hc' with h|h|h|h|⟨_,_,rfl,a3'⟩
  ·omega
  ·omega
  ·omega
  ·omega
  ·obtain⟨rfl,rfl⟩:=jJ.one a1 om a3 a3';exact⟨rfl,rfl,rfl,rfl⟩
theorem Eu{one:Int}(h:aQ f p mx one inf sg nan)(W:Int)(v0:0<=W)(v1:W<2*sg)(w:World):
  CT 57 #[J f,Y W] w fun e w'=>∃c s x g:Int,dY p mx one inf sg nan W c s x g/\e=.returned (eX c s x g)/\Gr w w':=by
 obtain⟨b1,b2,b3,b4,b5,b6,b7,b8,b9,b10,b11,b12⟩:=h.bounds;by_cases hn:W=0\/W=sg\/(inf<=W/\W<sg)\/sg+inf<=W
 ·exact Dn h W v0 v1 hn w
 ·by_cases hs:W<sg
  ·by_cases ho:one<=W
   ·exact Dq h W ho om w
   ·exact zJ h W om om w
  ·obtain⟨v,rfl⟩:∃v,W=v+sg:=⟨W-sg,om⟩;by_cases ho:one<=v
   ·exact Dp h v ho om w
   ·exact zI h v om om w
theorem aBn(f v:Int)(v0:0<=v)(h:¬(f=0\/f=1)\/(f=0/\4294967296<=v))(w:World):
  QR 57 #[J f,Y v] w (eX 4 0 0 0):=by
 have HE:Hid _:=h;clear h;exact zB
theorem aGu(f v:Int)(v0:0<=v)(v1:v<18446744073709551616):(∃p mx one inf sg nan,aQ f p mx one inf sg nan/\v<2*sg)\/(¬(f=0\/f=1)\/(f=0/\4294967296<=v)):=by
 by_cases h0:f=0
 ·by_cases hv:v<4294967296
  ·exact .inl ⟨_,_,_,_,_,_,.inl ⟨h0,rfl,rfl,rfl,rfl,rfl,rfl⟩,om⟩
  ·exact .inr (.inr ⟨h0,om⟩)
 ·by_cases h1:f=1
  ·exact .inl ⟨_,_,_,_,_,_,.inr ⟨h1,rfl,rfl,rfl,rfl,rfl,rfl⟩,om⟩
  ·exact .inr (.inl om)
theorem mW(h l n:Int)(hh0:0<=h)(hl0:0<=l)(hh1:h<18446744073709551616)(hl1:l<18446744073709551616)(w:World):
  QR 158 #[aG h l,J n] w (aG (lU h l (bnd n).toNat) (lT h l (bnd n).toNat)):=by
 go_enter func158,ntmps158;go_wp2_with (first
  |(go_at_call 200;refine(m_ _ _ _).mono ?_;rintro e w1 ⟨rfl,c1,c2,rfl⟩)
  |(go_at_call 201;refine(NS l h n hl0 hh0 hl1 hh1 _).mono ?_;rintro e w2 ⟨rfl,aA⟩)
  |(go_at_call 202;refine(Tt _ _ _).mono ?_;rintro e w3 ⟨rfl,aC⟩;have hf3:=aC.bU;have hf2:=aA.bU;obtain⟨q0,q1⟩:tH w3 (w.heap.size+1) 0 1 (Y 0) (Y 0):=⟨kl,kl⟩))
 exact bH (by simp[results,Tryz.results158,go_sem,q0,q1])
theorem Ws(h l:Int)(k:Nat)(h0:0<=h)(l0:0<=l)(h1:h<18446744073709551616)(l1:l<18446744073709551616):
  (lU (jk h l k) (iJ h l k) k=h/\lT (jk h l k) (iJ h l k) k=l↔iY h l k=false)/\(0<=jk h l k/\jk h l k<18446744073709551616/\0<=iJ h l k/\iJ h l k<18446744073709551616):=by
 have hp:(0:Int)<2^k:=Int.pow_pos de;unfold lU lT jk iJ iY;have hV0:0<=h*18446744073709551616+l:=om;have hV1:h*18446744073709551616+l<340282366920938463463374607431768211456:=om;have eh:h=(h*18446744073709551616+l)/18446744073709551616:=om;have el:l=(h*18446744073709551616+l)%18446744073709551616:=om;generalize h*18446744073709551616+l=V at*
 subst eh el;have e1:V/2^k/18446744073709551616*18446744073709551616+V/2^k%18446744073709551616=V/2^k:=om;rw[e1];have e2:V/2^k*2^k+V%2^k=V:=Int.ediv_mul_add_emod V (2^k);have e3:0<=V%2^k:=Int.emod_nonneg _ om;have e4:0<=V/2^k:=Int.ediv_nonneg hV0 om;have e5:V/2^k<=V:=Int.ediv_le_self _ hV0;have e6:0<=V/2^k*2^k:=Int.mul_nonneg e4 om;generalize V/2^k*2^k=T at*
 generalize V/2^k=D at*
 generalize V%2^k=R at*
 refine⟨?_,om,om,om,om⟩;simp only[decide_eq_false_iff_not,Classical.not_not];omega
def zer(h l:Int):Int:=if h=0 then 128-(Go.Lib.bitLen l.toNat:Int)else 64-(Go.Lib.bitLen h.toNat:Int)
theorem U7(a0 a1:Int)(ha0:0<=a0)(ha1:0<=a1)(Dy:a0<18446744073709551616)(FK:a1<18446744073709551616)(w:World):
  QR 227 #[aG a0 a1] w (J (zer a1 a0)):=by
 have hl0:=Go.Lib.bitLen_le a0.toNat 64 om om;have hl1:=Go.Lib.bitLen_le a1.toNat 64 om om;by_cases z1:a1=0
 ·subst z1;by_cases z0:a0=0
  ·subst z0;go_enter func227,ntmps227;go_wp2;refine wp_loop_rounds 3 ?_;rw[rounds_succ];go_wp2;rw[rounds_succ];go_wp2;rw[rounds_succ];go_wp2;go_returns;exact⟨bC (congrArg (Value.int IntKind.i64) (by decide+kernel)),⟨by go_grown,by go_grown⟩⟩
  ·have e0:(a0==0)=false:=by simp[z0]
   clear z0;go_enter func227,ntmps227;go_wp2;refine wp_loop_rounds 3 ?_;rw[rounds_succ];go_wp2;rw[rounds_succ];go_wp2_with (go_at_call 237;refine(NP _ ha0 Dy _).mono ?_;rintro e w' ⟨rfl,rfl⟩);go_returns;exact⟨bC (congrArg (Value.int IntKind.i64) (by unfold zer;rw[if_pos rfl];omega)),⟨by go_grown,by go_grown⟩⟩
 ·have e1:(a1==0)=false:=by simp[z1]
  have Z1:Hid _:=z1;clear z1;go_enter func227,ntmps227;go_wp2;refine wp_loop_rounds 3 ?_;rw[rounds_succ];go_wp2_with (go_at_call 237;refine(NP _ ha1 FK _).mono ?_;rintro e w' ⟨rfl,rfl⟩);go_returns;exact⟨bC (congrArg (Value.int IntKind.i64) (by unfold zer;rw[if_neg Z1.out];try omega)),⟨by go_grown,by go_grown⟩⟩
def bl(X:Int):Int:=if X/18446744073709551616=0 then(Go.Lib.bitLen (X%18446744073709551616).toNat :Int)else 64+(Go.Lib.bitLen (X/18446744073709551616).toNat :Int)
theorem aGE(h l:Int)(h0:0<=h)(l0:0<=l)(h1:h<18446744073709551616)(l1:l<18446744073709551616):zer h l=128-bl (h*18446744073709551616+l):=by
 have e1:(h*18446744073709551616+l)/18446744073709551616=h:=om;have e2:(h*18446744073709551616+l)%18446744073709551616=l:=om;unfold zer bl;rw[e1,e2];split<;>omega
theorem aKL(X:Int)(x0:0<=X)(x1:X<340282366920938463463374607431768211456):bl X<=128:=by
 unfold bl;have a:=Go.Lib.bitLen_le (X%18446744073709551616).toNat 64 om om;have b:=Go.Lib.bitLen_le (X/18446744073709551616).toNat 64 om om;split<;>omega
theorem aGY(X:Int):0<=bl X:=by
 unfold bl;split<;>omega
theorem aIU:bl 0=0:=by decide+kernel
theorem aIV(X:Int)(x0:0<X)(x1:X<340282366920938463463374607431768211456):bl X=1+bl (X/2):=by
 unfold bl;by_cases h:X/18446744073709551616=0
 ·have h2:X/2/18446744073709551616=0:=om;rw[if_pos h,if_pos h2];have e:=Go.Lib.bitLen_half (X%18446744073709551616).toNat om om;have e2:(X%18446744073709551616).toNat /2=(X/2%18446744073709551616).toNat :=om;rw[e,e2];omega
 ·by_cases h1:X/18446744073709551616=1
  ·have h2:X/2/18446744073709551616=0:=om;rw[if_neg h,if_pos h2,h1];have e:=Go.Lib.bitLen_shift 63 (X/2%18446744073709551616).toNat (by simp only[Nat.reducePow];omega) om;have e2:(X/2%18446744073709551616).toNat /2^63=1:=by simp only[Nat.reducePow];omega
   have e3:Go.Lib.bitLen 1=1:=by decide+kernel
   rw[e2,e3]at e;rw[e];have e4:(1:Int).toNat =1:=rfl;rw[e4,e3];omega
  ·have h2:¬X/2/18446744073709551616=0:=om;rw[if_neg h,if_neg h2];have e:=Go.Lib.bitLen_half (X/18446744073709551616).toNat om om;have e2:(X/18446744073709551616).toNat /2=(X/2/18446744073709551616).toNat :=om;rw[e,e2];omega
theorem G_(h l:Int)(h0:0<=h)(l0:0<=l)(h1:h<18446744073709551616)(l1:l<18446744073709551616)(w:World):
  QR 215 #[aG h l] w (J (zer h l)):=by
 go_enter func215,ntmps215;go_wp2_with (first
  |(go_at_call 200;refine(m_ _ _ _).mono ?_;rintro e w1 ⟨rfl,c1,c2,rfl⟩)
  |(go_at_call 227;refine(U7 l h l0 h0 l1 h1 _).mono ?_;rintro e w2 ⟨rfl,aA⟩))
 go_returns;exact⟨rfl,kr⟩
theorem Cc(ah al bh bl:Int)(ha0:0<=ah)(ha1:ah<18446744073709551616)(hb0:0<=al)(hb1:al<18446744073709551616)(hc0:0<=bh)(hc1:bh<18446744073709551616)(hd0:0<=bl)(hd1:bl<18446744073709551616)(w:World):
  CT 235 #[aG ah al,aG bh bl] w fun e w'=>
   e=.returned (.tuple #[aG ((ah-bh-Ld al bl)%18446744073709551616) ((al-bl)%18446744073709551616),.bool (lt2 ah al bh bl)])/\Gr w w':=by
 have HL:Hid (lt2 ah al bh bl=(Ld ah (bh+Ld al bl) != 0)):=rfl;go_enter func235,ntmps235;go_wp2;go_region_held3 (fun w'=>aj w' w.heap.size 0 (Y ah)/\aj w' w.heap.size 1 (Y al)/\aj w' (w.heap.size+1) 0 (Y bh)/\aj w' (w.heap.size+1) 1 (Y bl))
  (simp[go_sem,World.cell?_alloc_past])
  (first
   |(go_at_call 200;refine(m_ _ _ _).mono ?_;rintro e w1 ⟨rfl,c1,c2,rfl⟩)
   |(go_at_call 242;refine(Wi al ah bl bh hb0 ha0 hd0 hc0 hd1 hc1 _).mono ?_;rintro e w2 ⟨rfl,d1,d2,d3,d4,rfl⟩))
 all_goals go_wp2_with (go_at_call 202;refine(zn _ _ _).mono ?_;rintro e w1 ⟨rfl,f1,f2,rfl⟩)
 all_goals go_returns
 all_goals exact⟨EU rfl rfl HL.out.symm,⟨by go_grown,by go_grown⟩⟩
def qU:List Int:=[9223372034707292160,9223372032559808513,9223372028264841220,9223372019674906640,9223372002495037504,9223371968135299328,9223371899415823360,9223371761976872960,9223371487098978304,9223370937343213568,9223369837831782400,9223367638809313280,9223363240765947903,9223354444685508597,9223336852549795755,9223301668379032917,9223231300440156843,9223090566172988758,9222809104080874160,9222246205664613803,9221120511896629248,9218869536560097961,9214369234215239612,9205375219083682339,9187413517043429148,9151595186215228390,9080376907458843210,8939598712059420229,8664556174609911609,8139597253909710366,7183169364861397922,5594257926288582650,3393088950634442637,1248247667004394400,168931951563480719,3094096621605846,1037953783668,116806]
def jw(i:Nat):Int:=qU.getD i 0
def jI:Array Value:=#[Y 9223372034707292160,Y 9223372032559808513,Y 9223372028264841220,Y 9223372019674906640,Y 9223372002495037504,Y 9223371968135299328,Y 9223371899415823360,Y 9223371761976872960,Y 9223371487098978304,Y 9223370937343213568,Y 9223369837831782400,Y 9223367638809313280,Y 9223363240765947903,Y 9223354444685508597,Y 9223336852549795755,Y 9223301668379032917,Y 9223231300440156843,Y 9223090566172988758,Y 9222809104080874160,Y 9222246205664613803,Y 9221120511896629248,Y 9218869536560097961,Y 9214369234215239612,Y 9205375219083682339,Y 9187413517043429148,Y 9151595186215228390,Y 9080376907458843210,Y 8939598712059420229,Y 8664556174609911609,Y 8139597253909710366,Y 7183169364861397922,Y 5594257926288582650,Y 3393088950634442637,Y 1248247667004394400,Y 168931951563480719,Y 3094096621605846,Y 1037953783668,Y 116806]
theorem IJ(i:Nat)(h:i<38):jI[i]?=some (Y (jw i)):=by
 have hs:jI=(qU.map fun n=>Value.int .u64 n).toArray :=rfl;have hl:qU.length=38:=rfl;rw[hs,List.getElem?_toArray,List.getElem?_map,List.getElem?_eq_getElem om,Option.map_some];unfold jw;rw[List.getD_eq_getElem?_getD,List.getElem?_eq_getElem om,Option.getD_some]
theorem sK(i:Nat):0<=jw i/\jw i<=9223372036854775808:=Om (P:=fun x=>0<=x/\x<=9223372036854775808) (l:=qU) de de i
def share(a b:Int):Int:=a*b/9223372036854775808%18446744073709551616
theorem YT(a b:Int):0<=share a b/\share a b<18446744073709551616:=by unfold share;omega
theorem pY(a0:0<=a)(a1:a<=9223372036854775808)(b0:0<=b)(b1:b<=9223372036854775808):share a b=a*b/9223372036854775808/\share a b<=a:=by
 have h0:0<=a*b:=Int.mul_nonneg a0 b0;have h1:a*b<=a*9223372036854775808:=Int.mul_le_mul_of_nonneg_left b1 a0;have h2:a*b/9223372036854775808<=a:=om;unfold share;constructor<;>omega
theorem Qi(a0:0<=a)(h:a<=c)(c1:c<=9223372036854775808)(b0:0<=b)(b1:b<=9223372036854775808):share a b<=share c b:=by
 rw[(pY a0 om b0 b1).1,(pY om c1 b0 b1).1];exact Int.ediv_le_ediv de (Int.mul_le_mul_of_nonneg_right h b0)
def dec(t:Int):Nat->Int
 |0=>9223372036854775808
 |k+1=>if t/2^k%2=1 then share (dec t k) (jw k)else dec t k
theorem FT(t:Int)(k:Nat):0<=dec t k/\dec t k<=9223372036854775808:=by
 induction k with
 |zero=>exact⟨by unfold dec;decide,Int.le_refl _⟩
 |succ k ih=>
  unfold dec;split
  ·have:=pY ih.1 ih.2 (sK k).1 (sK k).2;have:=YT (dec t k) (jw k);omega
  ·exact ih
theorem aIj(t s:Int)(h:∀k:Nat,t/2^k%2=1->s/2^k%2=1)(k:Nat):dec s k<=dec t k:=by
 induction k with
 |zero=>exact Int.le_refl _
 |succ k ih=>
  have a:=FT s k;have b:=FT t k;have d:=sK k;have hk:=h k;unfold dec;by_cases ht:t/2^k%2=1
  ·rw[if_pos ht,if_pos (hk ht)];exact Qi a.1 ih b.2 d.1 d.2
  ·rw[if_neg ht];split
   ·exact Int.le_trans (pY a.1 a.2 d.1 d.2).2 ih
   ·exact ih
def jV(t:Int):Int:=if t<274877906944 then dec t 38 else 0
theorem II(t:Int):0<=jV t/\jV t<=9223372036854775808:=by
 unfold jV;split
 ·exact FT t 38
 ·decide
def Dc(w:World):Prop:=∃t fr,w.heap[2]?=some (.cells jI t fr)
theorem Dc.below(h:Dc w)(b:Below w.heap.size w w'):Dc w':=by
 obtain⟨t,fr,h⟩:=h;refine⟨t,fr,?_⟩;have:2<w.heap.size:=by
  rcases Nat.lt_or_ge 2 w.heap.size with k|k
  ·exact k
  ·simp[k]at h
 rw[Below.block b _ this];exact h
theorem aEw{P:Prop}(h:P:=by
 obtain⟨t0,t1⟩:=YD k;have hs:above oK u (k+1)=n+if u<oK k then 1 else 0:=by rw[<-hn];rfl
 have HS:Hid _:=hs;clear hs;generalize oK k=t at*
 by_cases hb:u<t
 ·go_wp2;go_round
  case rel=>exact⟨k+1,om,by rw[HS.out,if_pos hb];go_num,by go_num⟩
  case measure=>simp[intOf];omega
 ·go_wp2;go_round
  case rel=>exact⟨k+1,om,by rw[HS.out,if_neg hb];go_num,by go_num⟩
  case measure=>simp[intOf];omega):P:=h
theorem YS(w:World):CT 125 #[] w fun e w'=>∃b,e=.returned (aB b 18 18)/\Gr w w'/\∀i,i<18->aj w' b i (Y (oK i)):=by
 go_enter func125,ntmps125;go_wp2;go_returns;exact⟨_,rfl,kr,fun i hi=>(World.cell?_alloc_new _ _ _ _).trans (MG i hi)⟩
theorem Iy(h:Tryz.prog.underlying t=some (.array n 33)){v:Value}(hk:k<n)(hv:cs[k]?=some v)(w:World):(Instr.index t (.agg cs) (J k)).run Tryz.prog w=.ok v w:=by
 have hk':(k:Int)<n:=om;simp[Instr.index,run_underlying h,asIntOf,hk,hk',hv,go_sem]
theorem aGG(u:Int)(h0:0<=u)(h1:u<18446744073709551616)(w:World):
  QR 60 #[Y u] w (J (iU u:Nat)):=by
 go_enter func60,ntmps60;go_wp2_with (go_at_call 125;refine(YS _).mono ?_;rintro e w1 ⟨b,rfl,hg0,hc0⟩);have hc:Hid _:=hc0;have hg:Hid (Gr w w1):=hg0;clear hc0 hg0;go_loop [4,5] (fun n i=>∃k:Nat,k<=18/\n=J (above oK u k:Nat)/\i=J k) (fun _ i=>18-(intOf i).toNat)
 case atStart=>exact⟨0,om,rfl,rfl⟩
 case round=>
  obtain⟨k,hk,rfl,rfl⟩:=hrel;have ha:=F9 oK u k;obtain⟨n,hn⟩:∃n,above oK u k=n:=⟨_,rfl⟩;rw[hn]at ha⊢
  by_cases h:(k:Int)<18
  ·have q:=hc.out k om;exact aEw
  ·obtain rfl:k=18:=om;go_wp2;go_returns;exact⟨by rw[<-hn];rfl,hg.out⟩
theorem aGH(u:Int)(h0:0<=u)(h1:u<18446744073709551616)(hT:Tl w):
  QW 138 #[Y u] w (J (iU u:Nat)):=by
 obtain⟨t,fr,hg⟩:=hT;have hc:Hid (∀i,i<18->nD[i]?=some (Y (oK i))):=MG;have hz:nD.size=18:=rfl;generalize nD=cs at*
 go_enter func138,ntmps138;go_wp2_with (refine wpList_load_row rfl 217 _ rfl 1 rfl t cs fr _ hg Tryz.underlying217 rfl (by rw[hz];kernel_rfl) ?_);go_loop [3,7] (fun n i=>∃k:Nat,k<=18/\n=J (above oK u k:Nat)/\i=J k) (fun _ i=>18-(intOf i).toNat)
 case atStart=>exact⟨0,om,rfl,rfl⟩
 case round=>
  obtain⟨k,hk,rfl,rfl⟩:=hrel;have ha:=F9 oK u k;obtain⟨n,hn⟩:∃n,above oK u k=n:=⟨_,rfl⟩;rw[hn]at ha⊢
  by_cases h:(k:Int)<18
  ·have q:=Iy Tryz.underlying217 (show k<18 by omega) (hc.out k om) w;exact aEw
  ·obtain rfl:k=18:=om;go_wp2;go_returns;exact⟨by rw[<-hn];rfl,rfl⟩
