import Derived.Test.YthoelefkjpjhfaaGreatDoorG2
import Derived.Deep.LoopGhost
import Derived.Test.YthoelefkjpjhfaaGreatDoorG8
set_option linter.all false
set_option maxHeartbeats 40000000
open Go.Proofs.YthoelefkjpjhfaaGreatDoor renaming vI → J, vU → Y
open Go.Proofs.Tryz
namespace Go.Proofs.YthoelefkjpjhfaaGreatDoor
open Go.RowKit
attribute [local go_sem] aA
variable{p mx f aI sg nan e g e' g' m v W c s c' s':Int}{w w':World}{a b n k:Nat}{t:TypeId}{cs:Array Value}
def lW(p mx one v e g:Int):Prop:=
 ∃(k:Nat) (m e0:Int),(v<one/\m=v/\e0=2-mx-p\/one<=v/\m=v%one+one/\e0=1-mx-p+v/one)/\g=m*2^k/\e=e0-k/\one<=g/\g<2*one
def fV(p mx one aI sg nan W c s e g:Int):Prop:=
 ∃v:Int,(s=0/\v=W/\W<sg\/s=1/\v=W-sg/\sg<=W)/\
  (v=0/\c=0/\e=0/\g=0\/aI<v/\v<nan/\c=4/\e=0/\g=0\/nan<=v/\c=3/\e=0/\g=0\/v=aI/\c=2/\e=0/\g=0\/0<v/\v<aI/\c=1/\lW p mx one v e g)
def Gn{P:Prop}(h:P:=by
 go_enter func126,ntmps126;go_wp2_with (first|(go_at_call 61;refine(fO HE.out _ om om _).mono ?_;rintro e w' ⟨rfl,hw⟩;subst hw)|(go_at_call 148;refine(l9 HE.out _).mono ?_;rintro e w' ⟨rfl,hw⟩;subst hw)|(go_at_call 114;refine(zO HE.out _).mono ?_;rintro e w' ⟨rfl,hw⟩;subst hw)|(go_at_call 207;refine(jZ HE.out _).mono ?_;rintro e w' ⟨rfl,hw⟩;subst hw))
 first|(go_returns;exact⟨0,0,0,0,⟨0,.inl ⟨rfl,rfl,om⟩,.inl ⟨rfl,rfl,rfl,rfl⟩⟩,rfl,kr⟩)|(go_returns;exact⟨0,1,0,0,⟨0,.inr ⟨rfl,om,om⟩,.inl ⟨rfl,rfl,rfl,rfl⟩⟩,rfl,kr⟩)|(go_returns;exact⟨4,0,0,0,⟨W,.inl ⟨rfl,rfl,om⟩,.inr (.inl ⟨c1,c2,rfl,rfl,rfl⟩)⟩,rfl,kr⟩)|(go_returns;exact⟨3,0,0,0,⟨W,.inl ⟨rfl,rfl,om⟩,.inr (.inr (.inl ⟨c1,rfl,rfl,rfl⟩))⟩,rfl,kr⟩)|(go_returns;exact⟨2,0,0,0,⟨_,.inl ⟨rfl,rfl,om⟩,.inr (.inr (.inr (.inl ⟨rfl,rfl,rfl,rfl⟩)))⟩,rfl,kr⟩)|(go_returns;exact⟨4,1,0,0,⟨v,.inr ⟨rfl,om,om⟩,.inr (.inl ⟨c1,c2,rfl,rfl,rfl⟩)⟩,rfl,kr⟩)|(go_returns;exact⟨3,1,0,0,⟨v,.inr ⟨rfl,om,om⟩,.inr (.inr (.inl ⟨c1,rfl,rfl,rfl⟩))⟩,rfl,kr⟩)|(go_returns;exact⟨2,1,0,0,⟨aI,.inr ⟨rfl,om,om⟩,.inr (.inr (.inr (.inl ⟨rfl,rfl,rfl,rfl⟩)))⟩,rfl,kr⟩)):P:=h
def Jt{one:Int}(h:bD f p mx one aI sg nan)(W:Int)(v0:0<=W)(v1:W<2*sg)(hn:W=0\/W=sg\/(aI<=W/\W<sg)\/sg+aI<=W)(w:World):
  CT 126 #[J f,Y W] w λe w'=>∃c s x g:Int,fV p mx one aI sg nan W c s x g/\e=.returned (d_ c s x g)/\Gr w w':=by
 obtain⟨b1,b2,b3,b4,b5,b6,b7,b8,b9,b10,b11,b12⟩:=h.bounds;have HE:Hid _:=h;clear h;rcases(show W=0\/W=sg\/(aI<W/\W<nan)\/(nan<=W/\W<sg)\/W=aI\/(∃v,W=v+sg/\aI<v/\v<nan)\/(∃v,W=v+sg/\nan<=v)\/W=aI+sg by
  rcases hn with h|h|h|h
  .exact .inl h
  .exact .inr (.inl h)
  .omega
  .by_cases a:W=aI+sg
   .simp[a]
   .by_cases b:W-sg<nan
    .exact .inr (.inr (.inr (.inr (.inr (.inl ⟨W-sg,om,om,b⟩)))))
    .exact .inr (.inr (.inr (.inr (.inr (.inr (.inl ⟨W-sg,om,om⟩)))))))with rfl|rfl|⟨c1,c2⟩|⟨c1,c2⟩|rfl|⟨v,rfl,c1,c2⟩|⟨v,rfl,c1⟩|rfl
 .exact Gn
 .exact Gn
 .exact Gn
 .exact Gn
 .exact Gn
 .exact Gn
 .exact Gn
 .exact Gn
def aLr{P:Prop}(h:P:=by
 go_wp2;go_roundg (gk-g.toNat)
 case measure=>omega
 case rel=>exact⟨j+1,g*2,by show _=_;rw[Int.pow_succ,<-Int.mul_assoc,<-HG.out],om,om,om,om,by rw[(om:1-mx-p+1-((j+1:Nat):Int)=1-mx-p+1-j-1)]⟩):P:=h
def bD.quot{one:Int}(h:bD f p mx one aI sg nan)(v:Int)(v0:one<=v)(v1:v<aI):
  0<=v%one/\v%one<one/\1<=v/one/\v/one<=2*mx:=by
 rcases h with⟨rfl,rfl,rfl,rfl,rfl,rfl,rfl⟩|⟨rfl,rfl,rfl,rfl,rfl,rfl,rfl⟩<;>omega
def Jv{one:Int}(h:bD f p mx one aI sg nan)(W:Int)(v0:one<=W)(v1:W<aI)(w:World):
  CT 126 #[J f,Y W] w λe w'=>∃c s x g:Int,fV p mx one aI sg nan W c s x g/\e=.returned (d_ c s x g)/\Gr w w':=by
 obtain⟨b1,b2,b3,b4,b5,b6,b7,b8,b9,b10,b11,b12⟩:=h.bounds;obtain⟨q1,q2,q3,q4⟩:=h.quot W v0 v1;have HE:Hid _:=h;have HF:Hid (fV p mx one aI sg nan W 1 0 (1-mx-p+1+W/one-1) (W%one+one)):=
  ⟨W,.inl ⟨rfl,rfl,om⟩,.inr (.inr (.inr (.inr ⟨om,v1,rfl,0,W%one+one,_,.inr ⟨v0,rfl,rfl⟩,om,om,om,om⟩)))⟩
 clear h;generalize hm:W%one=m at*
 generalize hq:W/one=q at*
 go_enter func126,ntmps126;go_wp2_with (first|(go_at_call 61;refine(fO HE.out _ om om _).mono ?_;rintro e w' ⟨rfl,hw⟩;subst hw)|(go_at_call 148;refine(l9 HE.out _).mono ?_;rintro e w' ⟨rfl,hw⟩;subst hw)|(go_at_call 116;refine(qI HE.out _).mono ?_;rintro e w' ⟨rfl,hw⟩;subst hw)|(go_at_call 215;refine(wz HE.out _).mono ?_;rintro e w' ⟨rfl,hw⟩;subst hw)|(go_at_call 117;refine(sF HE.out _).mono ?_;rintro e w' ⟨rfl,hw⟩;subst hw)|(go_at_call 207;refine(jZ HE.out _).mono ?_;rintro e w' ⟨rfl,hw⟩;subst hw))
 go_region;go_wp2;go_loopg [] 1 (λk wr=>wr=(((w.alloc (.cells #[J 0,J 0,J 0,Y 0] 129)).alloc (.cells #[J 1,J 0,J (1-mx-p+1+q-1),Y (m+one)] 129))).drew)
 case atStart=>rfl
 case round=>
  subst hrel;go_wp2;go_returns;exact⟨1,0,_,_,HF.out,rfl,kr⟩
def Du{one:Int}(h:bD f p mx one aI sg nan)(W:Int)(v0:0<W)(v1:W<one)(w:World):
  CT 126 #[J f,Y W] w λe w'=>∃c s x g:Int,fV p mx one aI sg nan W c s x g/\e=.returned (d_ c s x g)/\Gr w w':=by
 obtain⟨b1,b2,b3,b4,b5,b6,b7,b8,b9,b10,b11,b12⟩:=h.bounds;have HE:Hid _:=h;have hm:W%one=W:=Int.emod_eq_of_lt om v1;clear h;go_enter func126,ntmps126;go_wp2_with (first|(go_at_call 61;refine(fO HE.out _ om om _).mono ?_;rintro e w' ⟨rfl,hw⟩;subst hw)|(go_at_call 148;refine(l9 HE.out _).mono ?_;rintro e w' ⟨rfl,hw⟩;subst hw)|(go_at_call 116;refine(qI HE.out _).mono ?_;rintro e w' ⟨rfl,hw⟩;subst hw)|(go_at_call 215;refine(wz HE.out _).mono ?_;rintro e w' ⟨rfl,hw⟩;subst hw)|(go_at_call 117;refine(sF HE.out _).mono ?_;rintro e w' ⟨rfl,hw⟩;subst hw)|(go_at_call 207;refine(jZ HE.out _).mono ?_;rintro e w' ⟨rfl,hw⟩;subst hw))
 go_loopg [] (one.toNat) (λk wr=>∃(j:Nat) (g:Int),Hid (g=W*2^j)/\0<g/\g<2*one/\j<g/\one<=k+g/\wr=((w.alloc (.cells #[J 0,J 0,J 0,Y 0] 129)).alloc (.cells #[J 1,J 0,J (1-mx-p+1-j),Y (g)] 129)))
 case atStart=>exact⟨0,W,by show _=_;omega,v0,om,om,om,by simp⟩
 case round=>
  obtain⟨j,g,HG,g0,g1,g2,g3,rfl⟩:=hrel;by_cases hg:g<one
  .exact aLr
  .have HF:Hid (fV p mx one aI sg nan W 1 0 (1-mx-p+1-j) g):=
    ⟨W,.inl ⟨rfl,rfl,om⟩,.inr (.inr (.inr (.inr ⟨om,om,rfl,j,W,_,.inl ⟨v1,rfl,rfl⟩,HG.out,om,om,g1⟩)))⟩
   go_wp2;go_returns;exact⟨1,0,_,_,HF.out,rfl,kr⟩
def Ju{one:Int}(h:bD f p mx one aI sg nan)(W:Int)(v0:one<=W)(v1:W<aI)(w:World):
  CT 126 #[J f,Y (W+sg)] w λe w'=>∃c s x g:Int,fV p mx one aI sg nan (W+sg) c s x g/\e=.returned (d_ c s x g)/\Gr w w':=by
 obtain⟨b1,b2,b3,b4,b5,b6,b7,b8,b9,b10,b11,b12⟩:=h.bounds;obtain⟨q1,q2,q3,q4⟩:=h.quot W v0 v1;have HE:Hid _:=h;have HF:Hid (fV p mx one aI sg nan (W+sg) 1 1 (1-mx-p+1+W/one-1) (W%one+one)):=
  ⟨W,.inr ⟨rfl,om,om⟩,.inr (.inr (.inr (.inr ⟨om,v1,rfl,0,W%one+one,_,.inr ⟨v0,rfl,rfl⟩,om,om,om,om⟩)))⟩
 clear h;generalize hm:W%one=m at*
 generalize hq:W/one=q at*
 go_enter func126,ntmps126;go_wp2_with (first|(go_at_call 61;refine(fO HE.out _ om om _).mono ?_;rintro e w' ⟨rfl,hw⟩;subst hw)|(go_at_call 148;refine(l9 HE.out _).mono ?_;rintro e w' ⟨rfl,hw⟩;subst hw)|(go_at_call 116;refine(qI HE.out _).mono ?_;rintro e w' ⟨rfl,hw⟩;subst hw)|(go_at_call 215;refine(wz HE.out _).mono ?_;rintro e w' ⟨rfl,hw⟩;subst hw)|(go_at_call 117;refine(sF HE.out _).mono ?_;rintro e w' ⟨rfl,hw⟩;subst hw)|(go_at_call 207;refine(jZ HE.out _).mono ?_;rintro e w' ⟨rfl,hw⟩;subst hw))
 go_region;go_wp2;go_loopg [] 1 (λk wr=>wr=(((w.alloc (.cells #[J 0,J 0,J 0,Y 0] 129)).alloc (.cells #[J 1,J 1,J (1-mx-p+1+q-1),Y (m+one)] 129))).drew)
 case atStart=>rfl
 case round=>
  subst hrel;go_wp2;go_returns;exact⟨1,1,_,_,HF.out,rfl,kr⟩
def Dt{one:Int}(h:bD f p mx one aI sg nan)(W:Int)(v0:0<W)(v1:W<one)(w:World):
  CT 126 #[J f,Y (W+sg)] w λe w'=>∃c s x g:Int,fV p mx one aI sg nan (W+sg) c s x g/\e=.returned (d_ c s x g)/\Gr w w':=by
 obtain⟨b1,b2,b3,b4,b5,b6,b7,b8,b9,b10,b11,b12⟩:=h.bounds;have HE:Hid _:=h;have hm:W%one=W:=Int.emod_eq_of_lt om v1;clear h;go_enter func126,ntmps126;go_wp2_with (first|(go_at_call 61;refine(fO HE.out _ om om _).mono ?_;rintro e w' ⟨rfl,hw⟩;subst hw)|(go_at_call 148;refine(l9 HE.out _).mono ?_;rintro e w' ⟨rfl,hw⟩;subst hw)|(go_at_call 116;refine(qI HE.out _).mono ?_;rintro e w' ⟨rfl,hw⟩;subst hw)|(go_at_call 215;refine(wz HE.out _).mono ?_;rintro e w' ⟨rfl,hw⟩;subst hw)|(go_at_call 117;refine(sF HE.out _).mono ?_;rintro e w' ⟨rfl,hw⟩;subst hw)|(go_at_call 207;refine(jZ HE.out _).mono ?_;rintro e w' ⟨rfl,hw⟩;subst hw))
 go_loopg [] (one.toNat) (λk wr=>∃(j:Nat) (g:Int),Hid (g=W*2^j)/\0<g/\g<2*one/\j<g/\one<=k+g/\wr=((w.alloc (.cells #[J 0,J 0,J 0,Y 0] 129)).alloc (.cells #[J 1,J 1,J (1-mx-p+1-j),Y (g)] 129)))
 case atStart=>exact⟨0,W,by show _=_;omega,v0,om,om,om,by simp⟩
 case round=>
  obtain⟨j,g,HG,g0,g1,g2,g3,rfl⟩:=hrel;by_cases hg:g<one
  .exact aLr
  .have HF:Hid (fV p mx one aI sg nan (W+sg) 1 1 (1-mx-p+1-j) g):=
    ⟨W,.inr ⟨rfl,om,om⟩,.inr (.inr (.inr (.inr ⟨om,om,rfl,j,W,_,.inl ⟨v1,rfl,rfl⟩,HG.out,om,om,g1⟩)))⟩
   go_wp2;go_returns;exact⟨1,1,_,_,HF.out,rfl,kr⟩
def aBe{one:Int}(h:a<b)(m0:0<m)(h1:one<=m*2^a)(h2:m*2^b<2*one):False:=by
 obtain⟨d,rfl⟩:∃d,b=a+1+d:=⟨b-(a+1),om⟩;have e:m*(2:Int)^(a+1+d)=m*2^a*2*2^d:=by
  rw[Int.pow_add,Int.pow_succ];simp[Int.mul_assoc]
 rw[e]at h2;have p1:(1:Int)<=2^d:=by
  have h0:(0:Int)<2^d:=Int.pow_pos de;exact h0
 have p2:(0:Int)<2^a:=Int.pow_pos de;have p3:0<m*2^a:=Int.mul_pos m0 p2;have:=Int.mul_le_mul_of_nonneg_left p1 (om:0<=m*2^a*2);omega
def lW.one{one:Int}(v0:0<v)(aUh:0<one)(h:lW p mx one v e g)(h':lW p mx one v e' g'):e=e'/\g=g':=by
 obtain⟨k,m,e0,hm,hg,he,h1,h2⟩:=h;obtain⟨k',m',e0',I_,dL,he',h1',h2'⟩:=h';have hmm:m=m'/\e0=e0'/\0<m:=by
  have:=Int.emod_nonneg v (om:one≠0);omega
 obtain⟨rfl,rfl,m0⟩:=hmm;have hk:k=k':=by
  subst hg dL;rcases Nat.lt_trichotomy k k' with c|c|c
  .exact(aBe c m0 h1 h2').elim
  .exact c
  .exact(aBe c m0 h1' h2).elim
 subst hk;exact⟨om,by rw[hg,dL]⟩
def fV.one{one:Int}(hf:bD f p mx one aI sg nan)(h:fV p mx one aI sg nan W c s e g)(h':fV p mx one aI sg nan W c' s' e' g'):c=c'/\s=s'/\e=e'/\g=g':=by
 obtain⟨b1,b2,b3,b4,b5,b6,b7,b8,b9,b10,b11,b12⟩:=hf.bounds;obtain⟨v,hv,hc⟩:=h;obtain⟨v',hv',Df⟩:=h';have hvv:v=v'/\s=s':=om;obtain⟨rfl,rfl⟩:=hvv;rcases hc with hc|hc|hc|hc|⟨a1,a2,rfl,a3⟩
 .rcases Df with h|h|h|h|h<;>omega
 .rcases Df with h|h|h|h|h<;>omega
 .rcases Df with h|h|h|h|h<;>omega
 .rcases Df with h|h|h|h|h<;>omega
 .rcases Df with h|h|h|h|⟨_,_,rfl,a3'⟩
  .omega
  .omega
  .omega
  .omega
  .obtain⟨rfl,rfl⟩:=lW.one a1 om a3 a3';exact⟨rfl,rfl,rfl,rfl⟩
def KZ{one:Int}(h:bD f p mx one aI sg nan)(W:Int)(v0:0<=W)(v1:W<2*sg)(w:World):
  CT 126 #[J f,Y W] w λe w'=>∃c s x g:Int,fV p mx one aI sg nan W c s x g/\e=.returned (d_ c s x g)/\Gr w w':=by
 obtain⟨b1,b2,b3,b4,b5,b6,b7,b8,b9,b10,b11,b12⟩:=h.bounds;by_cases hn:W=0\/W=sg\/(aI<=W/\W<sg)\/sg+aI<=W
 .exact Jt h W v0 v1 hn w
 .by_cases hs:W<sg
  .by_cases ho:one<=W
   .exact Jv h W ho om w
   .exact Du h W om om w
  .obtain⟨v,rfl⟩:∃v,W=v+sg:=⟨W-sg,om⟩;by_cases ho:one<=v
   .exact Ju h v ho om w
   .exact Dt h v om om w
def aND(f v:Int)(v0:0<=v)(v1:aG v):(∃p mx one aI sg nan,bD f p mx one aI sg nan/\v<2*sg)\/(¬(f=0\/f=1)\/(f=0/\4294967296<=v)):=by
 by_cases h0:f=0
 .by_cases hv:v<4294967296
  .exact .inl ⟨_,_,_,_,_,_,.inl ⟨h0,rfl,rfl,rfl,rfl,rfl,rfl⟩,om⟩
  .exact .inr (.inr ⟨h0,om⟩)
 .by_cases h1:f=1
  .exact .inl ⟨_,_,_,_,_,_,.inr ⟨h1,rfl,rfl,rfl,rfl,rfl,rfl⟩,om⟩
  .exact .inr (.inl om)
def uQ(h l n:Int)(Qv:0<=h)(Z4:0<=l)(hh1:aG h)(o9:aG l)(w:World):
  QR 256 #[aN h l,J n] w (aN (qO h l (bnd n).toNat) (qN h l (bnd n).toNat)):=by
 go_enter func256,ntmps256;go_wp2_with (first|(go_at_call 300;refine(qM _ _ _).mono ?_;rintro e w1 ⟨rfl,c1,c2,rfl⟩)|(go_at_call 302;refine(Ws l h n Z4 Qv o9 hh1 _).mono ?_;rintro e w2 ⟨rfl,aB⟩)|(go_at_call 248;refine(aAD _ _ _).mono ?_;rintro e w3 ⟨rfl,aK⟩;have hf3:=aK.dX;have hf2:=aB.dX;obtain⟨q0,q1⟩:kM w3 (w.heap.size+1) 0 1 (Y 0) (Y 0):=⟨kl,kl⟩))
 exact bW (by simp[results,Tryz.results256,go_sem,q0,q1])
def aC5(h l:Int)(k:Nat)(h0:0<=h)(l0:0<=l)(h1:aG h)(l1:aG l):
  (qO (kG h l k) (jQ h l k) k=h/\qN (kG h l k) (jQ h l k) k=l↔jY h l k=false)/\(0<=kG h l k/\kG h l k<18446744073709551616/\0<=jQ h l k/\jQ h l k<18446744073709551616):=by
 have hp:(0:Int)<2^k:=Int.pow_pos de;unfold qO qN kG jQ jY;have hV0:0<=h*18446744073709551616+l:=om;have hV1:h*18446744073709551616+l<340282366920938463463374607431768211456:=om;have eh:h=(h*18446744073709551616+l)/18446744073709551616:=om;have el:l=(h*18446744073709551616+l)%18446744073709551616:=om;generalize h*18446744073709551616+l=V at*
 subst eh el;have e1:V/2^k/18446744073709551616*18446744073709551616+V/2^k%18446744073709551616=V/2^k:=om;rw[e1];have e2:V/2^k*2^k+V%2^k=V:=Int.ediv_mul_add_emod V (2^k);have e3:0<=V%2^k:=Int.emod_nonneg _ om;have e4:0<=V/2^k:=Int.ediv_nonneg hV0 om;have e5:V/2^k<=V:=Int.ediv_le_self _ hV0;have e6:0<=V/2^k*2^k:=Int.mul_nonneg e4 om;generalize V/2^k*2^k=T at*
 generalize V/2^k=D at*
 generalize V%2^k=R at*
 refine⟨?_,om,om,om,om⟩;simp only[decide_eq_false_iff_not,Classical.not_not];omega
def zer(h l:Int):Int:=if h=0 then 128-(Go.Lib.bitLen l.toNat:Int)else 64-(Go.Lib.bitLen h.toNat:Int)
def aBJ(a0 a1:Int)(xk:0<=a0)(jo:0<=a1)(JL:aG a0)(NJ:aG a1)(w:World):
  QR 307 #[aN a0 a1] w (J (zer a1 a0)):=by
 have Z4:=Go.Lib.bitLen_le a0.toNat 64 om om;have o9:=Go.Lib.bitLen_le a1.toNat 64 om om;by_cases z1:a1=0
 .subst z1;by_cases z0:a0=0
  .subst z0;go_enter func307,ntmps307;go_wp2;refine wp_loop_rounds 3 ?_;rw[rounds_succ];go_wp2;rw[rounds_succ];go_wp2;rw[rounds_succ];go_wp2;go_returns;exact⟨bU (congrArg (Value.int IntKind.i64) (by decide+kernel)),⟨by go_grown,by go_grown⟩⟩
  .have e0:(a0==0)=false:=by simp[z0]
   clear z0;go_enter func307,ntmps307;go_wp2;refine wp_loop_rounds 3 ?_;rw[rounds_succ];go_wp2;rw[rounds_succ];go_wp2_with (go_at_call 329;refine(Wp _ xk JL _).mono ?_;rintro e w' ⟨rfl,rfl⟩);go_returns;exact⟨bU (congrArg (Value.int IntKind.i64) (by unfold zer;rw[if_pos rfl];omega)),⟨by go_grown,by go_grown⟩⟩
 .have e1:(a1==0)=false:=by simp[z1]
  have Z1:Hid _:=z1;clear z1;go_enter func307,ntmps307;go_wp2;refine wp_loop_rounds 3 ?_;rw[rounds_succ];go_wp2_with (go_at_call 329;refine(Wp _ jo NJ _).mono ?_;rintro e w' ⟨rfl,rfl⟩);go_returns;exact⟨bU (congrArg (Value.int IntKind.i64) (by unfold zer;rw[if_neg Z1.out];try omega)),⟨by go_grown,by go_grown⟩⟩
def bl(X:Int):Int:=if X/18446744073709551616=0 then(Go.Lib.bitLen (X%18446744073709551616).toNat :Int)else 64+(Go.Lib.bitLen (X/18446744073709551616).toNat :Int)
def aNV(h l:Int)(h0:0<=h)(l0:0<=l)(h1:aG h)(l1:aG l):zer h l=128-bl (h*18446744073709551616+l):=by
 have e1:(h*18446744073709551616+l)/18446744073709551616=h:=om;have e2:(h*18446744073709551616+l)%18446744073709551616=l:=om;unfold zer bl;rw[e1,e2];split<;>omega
def Po(h l:Int)(h0:0<=h)(l0:0<=l)(h1:aG h)(l1:aG l)(w:World):
  QR 252 #[aN h l] w (J (zer h l)):=by
 go_enter func252,ntmps252;go_wp2_with (first|(go_at_call 300;refine(qM _ _ _).mono ?_;rintro e w1 ⟨rfl,c1,c2,rfl⟩)|(go_at_call 307;refine(aBJ l h l0 h0 l1 h1 _).mono ?_;rintro e w2 ⟨rfl,aB⟩))
 go_returns;exact⟨rfl,kr⟩
def Gv(ah al bh bl:Int)(xk:0<=ah)(jo:aG ah)(qV:0<=al)(gU:aG al)(W_:0<=bh)(yI:aG bh)(JJ:0<=bl)(rY:aG bl)(w:World):
  CT 246 #[aN ah al,aN bh bl] w λe w'=>
   e=.returned (.tuple #[aN ((ah-bh-Ui al bl)%18446744073709551616) ((al-bl)%18446744073709551616),.bool (lt2 ah al bh bl)])/\Gr w w':=by
 have HL:Hid (lt2 ah al bh bl=(Ui ah (bh+Ui al bl) != 0)):=rfl;go_enter func246,ntmps246;go_wp2;go_region_held3 (λw'=>aA w' w.heap.size 0 (Y ah)/\aA w' w.heap.size 1 (Y al)/\aA w' (w.heap.size+1) 0 (Y bh)/\aA w' (w.heap.size+1) 1 (Y bl))(simp[go_sem,World.cell?_alloc_past])(first|(go_at_call 300;refine(qM _ _ _).mono ?_;rintro e w1 ⟨rfl,c1,c2,rfl⟩)|(go_at_call 304;refine(aC1 al ah bl bh qV xk JJ W_ rY yI _).mono ?_;rintro e w2 ⟨rfl,d1,d2,d3,d4,rfl⟩))
 all_goals go_wp2_with (go_at_call 248;refine(Dk _ _ _).mono ?_;rintro e w1 ⟨rfl,f1,f2,rfl⟩)
 all_goals go_returns<;>exact⟨LU rfl rfl HL.out.symm,⟨by go_grown,by go_grown⟩⟩
def zu:List Int:=[9223372034707292160,9223372032559808513,9223372028264841220,9223372019674906640,9223372002495037504,9223371968135299328,9223371899415823360,9223371761976872960,9223371487098978304,9223370937343213568,9223369837831782400,9223367638809313280,9223363240765947903,9223354444685508597,9223336852549795755,9223301668379032917,9223231300440156843,9223090566172988758,9222809104080874160,9222246205664613803,9221120511896629248,9218869536560097961,9214369234215239612,9205375219083682339,9187413517043429148,9151595186215228390,9080376907458843210,8939598712059420229,8664556174609911609,8139597253909710366,7183169364861397922,5594257926288582650,3393088950634442637,1248247667004394400,168931951563480719,3094096621605846,1037953783668,116806]
def kS(i:Nat):Int:=zu.getD i 0
def qw:Array Value:=#[Y 9223372034707292160,Y 9223372032559808513,Y 9223372028264841220,Y 9223372019674906640,Y 9223372002495037504,Y 9223371968135299328,Y 9223371899415823360,Y 9223371761976872960,Y 9223371487098978304,Y 9223370937343213568,Y 9223369837831782400,Y 9223367638809313280,Y 9223363240765947903,Y 9223354444685508597,Y 9223336852549795755,Y 9223301668379032917,Y 9223231300440156843,Y 9223090566172988758,Y 9222809104080874160,Y 9222246205664613803,Y 9221120511896629248,Y 9218869536560097961,Y 9214369234215239612,Y 9205375219083682339,Y 9187413517043429148,Y 9151595186215228390,Y 9080376907458843210,Y 8939598712059420229,Y 8664556174609911609,Y 8139597253909710366,Y 7183169364861397922,Y 5594257926288582650,Y 3393088950634442637,Y 1248247667004394400,Y 168931951563480719,Y 3094096621605846,Y 1037953783668,Y 116806]
def QA(i:Nat)(h:i<38):qw[i]?=some (Y (kS i)):=by
 have hs:qw=(zu.map λn=>Value.int .u64 n).toArray :=rfl;have hl:zu.length=38:=rfl;rw[hs,List.getElem?_toArray,List.getElem?_map,List.getElem?_eq_getElem om,Option.map_some];unfold kS;rw[List.getD_eq_getElem?_getD,List.getElem?_eq_getElem om,Option.getD_some]
def Ad(i:Nat):0<=kS i/\kS i<=9223372036854775808:=Xe (P:=λx=>0<=x/\x<=9223372036854775808) (l:=zu) de de i
def share(a b:Int):Int:=a*b/9223372036854775808%18446744073709551616
def aE1(a b:Int):0<=share a b/\share a b<18446744073709551616:=by unfold share;omega
def Vg{a b:Int}(a0:0<=a)(a1:a<=9223372036854775808)(b0:0<=b)(b1:b<=9223372036854775808):share a b=a*b/9223372036854775808/\share a b<=a:=by
 have h0:0<=a*b:=Int.mul_nonneg a0 b0;have h1:a*b<=a*9223372036854775808:=Int.mul_le_mul_of_nonneg_left b1 a0;have h2:a*b/9223372036854775808<=a:=om;unfold share;constructor<;>omega
def dec(t:Int):Nat->Int
 |0=>9223372036854775808
 |k+1=>if t/2^k%2=1 then share (dec t k) (kS k)else dec t k
def aAj(t:Int)(k:Nat):0<=dec t k/\dec t k<=9223372036854775808:=by
 induction k with
 |zero=>exact⟨by unfold dec;decide,Int.le_refl _⟩
 |succ k ih=>
  unfold dec;split
  .have:=Vg ih.1 ih.2 (Ad k).1 (Ad k).2;have:=aE1 (dec t k) (kS k);omega
  .exact ih
def mP(t:Int):Int:=if t<274877906944 then dec t 38 else 0
def Qz(t:Int):0<=mP t/\mP t<=9223372036854775808:=by
 unfold mP;split
 .exact aAj t 38
 .decide
def Dc(w:World):Prop:=∃t fr,w.heap[3]?=some (.cells qw t fr)
def Dc.below(h:Dc w)(b:Below w.heap.size w w'):Dc w':=by
 obtain⟨t,fr,h⟩:=h;refine⟨t,fr,?_⟩;have:3<w.heap.size:=by
  rcases Nat.lt_or_ge 3 w.heap.size with k|k
  .exact k
  .simp[k]at h
 rw[Below.block b _ this];exact h
def aLs{P:Prop}(h:P:=by
 obtain⟨t0,t1⟩:=aET k;have hs:above sO u (k+1)=n+if u<sO k then 1 else 0:=by rw[<-hn];rfl
 have HS:Hid _:=hs;clear hs;generalize sO k=t at*
 by_cases hb:u<t
 .go_wp2;go_round
  case rel=>exact⟨k+1,om,by rw[HS.out,if_pos hb];go_num,by go_num⟩
  case measure=>exact uz
 .go_wp2;go_round
  case rel=>exact⟨k+1,om,by rw[HS.out,if_neg hb];go_num,by go_num⟩
  case measure=>simp[intOf];omega):P:=h
def aE0(w:World):CT 216 #[] w λe w'=>∃b,e=.returned (aC b 18 18)/\Gr w w'/\∀i,i<18->aA w' b i (Y (sO i)):=by
 go_enter func216,ntmps216;go_wp2;go_returns;exact⟨_,rfl,kr,λi hi=>(World.cell?_alloc_new _ _ _ _).trans (UZ i hi)⟩
def Qr(h:Tryz.prog.underlying t=some (.array n 71)){v:Value}(hk:k<n)(hv:cs[k]?=some v)(w:World):(Instr.index t (.agg cs) (J k)).run Tryz.prog w=.ok v w:=by
 have C_:(k:Int)<n:=om;simp[Instr.index,run_underlying h,asIntOf,hk,C_,hv,go_sem]
def aNY(u:Int)(h0:0<=u)(h1:aG u)(w:World):
  QR 128 #[Y u] w (J (jU u:Nat)):=by
 go_enter func128,ntmps128;go_wp2_with (go_at_call 216;refine(aE0 _).mono ?_;rintro e w1 ⟨b,rfl,hg0,W_⟩);have hc:Hid _:=W_;have hg:Hid (Gr w w1):=hg0;clear W_ hg0;go_loop [4,5] (λn i=>∃k:Nat,k<=18/\n=J (above sO u k:Nat)/\i=J k) (λ_ i=>18-(intOf i).toNat)
 case atStart=>exact⟨0,om,rfl,rfl⟩
 case round=>
  obtain⟨k,hk,rfl,rfl⟩:=hrel;have ha:=Oc sO u k;obtain⟨n,hn⟩:=dK (above sO u k);rw[hn]at ha⊢
  by_cases h:(k:Int)<18
  .have q:=hc.out k om;exact aLs
  .obtain rfl:k=18:=om;go_wp2;go_returns;exact⟨by rw[<-hn];rfl,hg.out⟩
def aNZ(u:Int)(h0:0<=u)(h1:aG u)(hT:Tl w):
  QW 275 #[Y u] w (J (jU u:Nat)):=by
 obtain⟨t,fr,hg⟩:=hT;have hc:Hid (∀i,i<18->vN[i]?=some (Y (sO i))):=UZ;have hz:vN.size=18:=rfl;generalize vN=cs at*
 go_enter func275,ntmps275;go_wp2_with (refine wpList_load_row rfl 305 _ rfl 2 rfl t cs fr _ hg Tryz.underlying305 rfl (by rw[hz];kernel_rfl) ?_);go_loop [3,7] (λn i=>∃k:Nat,k<=18/\n=J (above sO u k:Nat)/\i=J k) (λ_ i=>18-(intOf i).toNat)
 case atStart=>exact⟨0,om,rfl,rfl⟩
 case round=>
  obtain⟨k,hk,rfl,rfl⟩:=hrel;have ha:=Oc sO u k;obtain⟨n,hn⟩:=dK (above sO u k);rw[hn]at ha⊢
  by_cases h:(k:Int)<18
  .have q:=Qr Tryz.underlying305 (om:k<18) (hc.out k om) w;exact aLs
  .obtain rfl:k=18:=om;go_wp2;go_returns;exact⟨by rw[<-hn];rfl,rfl⟩
