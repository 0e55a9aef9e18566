import Derived.Test.YthoelefkjpjhfaaGreatDoorG2
import Derived.Deep.LoopGhost
import Derived.Test.YthoelefkjpjhfaaGreatDoorG8
set_option linter.all false
set_option maxHeartbeats 40000000
open Go.Proofs.YthoelefkjpjhfaaGreatDoor renaming vI → J, vU → Y
open Go.Proofs.Tryz
namespace Go.Proofs.YthoelefkjpjhfaaGreatDoor
open Go.RowKit
attribute [local go_sem] aB
variable {p mx f aN sg nan e g e' g' m v W c s c' s':Int}{w w':ak}{a b n k:Nat}{t:TypeId}{cs:Array Value}
def nX(p mx one v e g:Int):Prop:=
 ∃(k:Nat) (m e0:Int),(v<one/\m=v/\e0=2-mx-p\/one<=v/\m=v%one+one/\e0=1-mx-p+v/one)/\g=m*2^k/\e=e0-k/\one<=g/\g<2*one
def gX(p mx one aN sg nan W c s e g:Int):Prop:=
 ∃v:Int,(s=0/\v=W/\W<sg\/s=1/\v=W-sg/\sg<=W)/\
  (v=0/\c=0/\e=0/\g=0\/aN<v/\v<nan/\c=4/\e=0/\g=0\/nan<=v/\c=3/\e=0/\g=0\/v=aN/\c=2/\e=0/\g=0\/0<v/\v<aN/\c=1/\nX p mx one v e g)
def I4{P:Prop}(h:P:=by
 go_enter func126,ntmps126;go_wp2_with (first|(go_at_call 61;refine(gJ HE.out _ om om _).mono ?_;rintro e w' ⟨rfl,hw⟩;subst hw)|(go_at_call 148;refine(og HE.out _).mono ?_;rintro e w' ⟨rfl,hw⟩;subst hw)|(go_at_call 114;refine(yQ HE.out _).mono ?_;rintro e w' ⟨rfl,hw⟩;subst hw)|(go_at_call 207;refine(lg HE.out _).mono ?_;rintro e w' ⟨rfl,hw⟩;subst hw))
 first|(go_returns;exact⟨0,0,0,0,⟨0,.inl ⟨rfl,rfl,om⟩,.inl ⟨rfl,rfl,rfl,rfl⟩⟩,rfl,kr⟩)|(go_returns;exact⟨0,1,0,0,⟨0,.inr ⟨rfl,om,om⟩,.inl ⟨rfl,rfl,rfl,rfl⟩⟩,rfl,kr⟩)|(go_returns;exact⟨4,0,0,0,⟨W,.inl ⟨rfl,rfl,om⟩,.inr (.inl ⟨c1,c2,rfl,rfl,rfl⟩)⟩,rfl,kr⟩)|(go_returns;exact⟨3,0,0,0,⟨W,.inl ⟨rfl,rfl,om⟩,.inr (.inr (.inl ⟨c1,rfl,rfl,rfl⟩))⟩,rfl,kr⟩)|(go_returns;exact⟨2,0,0,0,⟨_,.inl ⟨rfl,rfl,om⟩,.inr (.inr (.inr (.inl ⟨rfl,rfl,rfl,rfl⟩)))⟩,rfl,kr⟩)|(go_returns;exact⟨4,1,0,0,⟨v,.inr ⟨rfl,om,om⟩,.inr (.inl ⟨c1,c2,rfl,rfl,rfl⟩)⟩,rfl,kr⟩)|(go_returns;exact⟨3,1,0,0,⟨v,.inr ⟨rfl,om,om⟩,.inr (.inr (.inl ⟨c1,rfl,rfl,rfl⟩))⟩,rfl,kr⟩)|(go_returns;exact⟨2,1,0,0,⟨aN,.inr ⟨rfl,om,om⟩,.inr (.inr (.inr (.inl ⟨rfl,rfl,rfl,rfl⟩)))⟩,rfl,kr⟩)):P:=h
def Lj{one:Int}(h:bI f p mx one aN sg nan)(W:Int)(v0:0<=W)(v1:W<2*sg)(hn:W=0\/W=sg\/(aN<=W/\W<sg)\/sg+aN<=W)(w:ak):
  CT 126 #[J f,Y W] w λe w'=>∃c s x g:Int,gX p mx one aN sg nan W c s x g/\e=.returned (fG c s x g)/\Gr w w':=by
 obtain⟨b1,b2,b3,b4,b5,b6,b7,b8,b9,b10,b11,b12⟩:=h.bounds;have HE:Hid _:=h;clear h;rcases(show W=0\/W=sg\/(aN<W/\W<nan)\/(nan<=W/\W<sg)\/W=aN\/(∃v,W=v+sg/\aN<v/\v<nan)\/(∃v,W=v+sg/\nan<=v)\/W=aN+sg by
  rcases hn with h|h|h|h
  .exact .inl h
  .exact .inr (.inl h)
  .omega
  .by_cases a:W=aN+sg
   .simp[a]
   .by_cases b:W-sg<nan
    .exact .inr (.inr (.inr (.inr (.inr (.inl ⟨W-sg,om,om,b⟩)))))
    .exact .inr (.inr (.inr (.inr (.inr (.inr (.inl ⟨W-sg,om,om⟩)))))))with rfl|rfl|⟨c1,c2⟩|⟨c1,c2⟩|rfl|⟨v,rfl,c1,c2⟩|⟨v,rfl,c1⟩|rfl
 .exact I4
 .exact I4
 .exact I4
 .exact I4
 .exact I4
 .exact I4
 .exact I4
 .exact I4
def aMX{P:Prop}(h:P:=by
 go_wp2;go_roundg (gk-g.toNat)
 case measure=>omega
 case rel=>exact⟨j+1,g*2,by show _=_;rw[Int.pow_succ,<-Int.mul_assoc,<-HG.out],om,om,om,om,by rw[(om:1-mx-p+1-((j+1:Nat):Int)=1-mx-p+1-j-1)]⟩):P:=h
def bI.quot{one:Int}(h:bI f p mx one aN sg nan)(v:Int)(v0:one<=v)(v1:v<aN):
  0<=v%one/\v%one<one/\1<=v/one/\v/one<=2*mx:=by
 rcases h with⟨rfl,rfl,rfl,rfl,rfl,rfl,rfl⟩|⟨rfl,rfl,rfl,rfl,rfl,rfl,rfl⟩<;>omega
def Lp{one:Int}(h:bI f p mx one aN sg nan)(W:Int)(v0:one<=W)(v1:W<aN)(w:ak):
  CT 126 #[J f,Y W] w λe w'=>∃c s x g:Int,gX p mx one aN sg nan W c s x g/\e=.returned (fG c s x g)/\Gr w w':=by
 obtain⟨b1,b2,b3,b4,b5,b6,b7,b8,b9,b10,b11,b12⟩:=h.bounds;obtain⟨q1,q2,q3,q4⟩:=h.quot W v0 v1;have HE:Hid _:=h;have HF:Hid (gX p mx one aN sg nan W 1 0 (1-mx-p+1+W/one-1) (W%one+one)):=
  ⟨W,.inl ⟨rfl,rfl,om⟩,.inr (.inr (.inr (.inr ⟨om,v1,rfl,0,W%one+one,_,.inr ⟨v0,rfl,rfl⟩,om,om,om,om⟩)))⟩
 clear h;generalize hm:W%one=m at*
 generalize hq:W/one=q at*
 go_enter func126,ntmps126;go_wp2_with (first|(go_at_call 61;refine(gJ HE.out _ om om _).mono ?_;rintro e w' ⟨rfl,hw⟩;subst hw)|(go_at_call 148;refine(og HE.out _).mono ?_;rintro e w' ⟨rfl,hw⟩;subst hw)|(go_at_call 116;refine(qG HE.out _).mono ?_;rintro e w' ⟨rfl,hw⟩;subst hw)|(go_at_call 215;refine(yR HE.out _).mono ?_;rintro e w' ⟨rfl,hw⟩;subst hw)|(go_at_call 117;refine(u_ HE.out _).mono ?_;rintro e w' ⟨rfl,hw⟩;subst hw)|(go_at_call 207;refine(lg HE.out _).mono ?_;rintro e w' ⟨rfl,hw⟩;subst hw))
 go_region;go_wp2;go_loopg [] 1 (λk wr=>wr=(((w.alloc (.cells #[J 0,J 0,J 0,Y 0] 129)).alloc (.cells #[J 1,J 0,J (1-mx-p+1+q-1),Y (m+one)] 129))).drew)
 case atStart=>rfl
 case round=>
  subst hrel;go_wp2;go_returns;exact⟨1,0,_,_,HF.out,rfl,kr⟩
def EX{one:Int}(h:bI f p mx one aN sg nan)(W:Int)(v0:0<W)(v1:W<one)(w:ak):
  CT 126 #[J f,Y W] w λe w'=>∃c s x g:Int,gX p mx one aN sg nan W c s x g/\e=.returned (fG c s x g)/\Gr w w':=by
 obtain⟨b1,b2,b3,b4,b5,b6,b7,b8,b9,b10,b11,b12⟩:=h.bounds;have HE:Hid _:=h;have hm:W%one=W:=Int.emod_eq_of_lt om v1;clear h;go_enter func126,ntmps126;go_wp2_with (first|(go_at_call 61;refine(gJ HE.out _ om om _).mono ?_;rintro e w' ⟨rfl,hw⟩;subst hw)|(go_at_call 148;refine(og HE.out _).mono ?_;rintro e w' ⟨rfl,hw⟩;subst hw)|(go_at_call 116;refine(qG HE.out _).mono ?_;rintro e w' ⟨rfl,hw⟩;subst hw)|(go_at_call 215;refine(yR HE.out _).mono ?_;rintro e w' ⟨rfl,hw⟩;subst hw)|(go_at_call 117;refine(u_ HE.out _).mono ?_;rintro e w' ⟨rfl,hw⟩;subst hw)|(go_at_call 207;refine(lg HE.out _).mono ?_;rintro e w' ⟨rfl,hw⟩;subst hw))
 go_loopg [] (one.toNat) (λk wr=>∃(j:Nat) (g:Int),Hid (g=W*2^j)/\0<g/\g<2*one/\j<g/\one<=k+g/\wr=((w.alloc (.cells #[J 0,J 0,J 0,Y 0] 129)).alloc (.cells #[J 1,J 0,J (1-mx-p+1-j),Y (g)] 129)))
 case atStart=>exact⟨0,W,by show _=_;omega,v0,om,om,om,by simp⟩
 case round=>
  obtain⟨j,g,HG,g0,g1,g2,g3,rfl⟩:=hrel;by_cases hg:g<one
  .exact aMX
  .have HF:Hid (gX p mx one aN sg nan W 1 0 (1-mx-p+1-j) g):=
    ⟨W,.inl ⟨rfl,rfl,om⟩,.inr (.inr (.inr (.inr ⟨om,om,rfl,j,W,_,.inl ⟨v1,rfl,rfl⟩,HG.out,om,om,g1⟩)))⟩
   go_wp2;go_returns;exact⟨1,0,_,_,HF.out,rfl,kr⟩
def Lm{one:Int}(h:bI f p mx one aN sg nan)(W:Int)(v0:one<=W)(v1:W<aN)(w:ak):
  CT 126 #[J f,Y (W+sg)] w λe w'=>∃c s x g:Int,gX p mx one aN sg nan (W+sg) c s x g/\e=.returned (fG c s x g)/\Gr w w':=by
 obtain⟨b1,b2,b3,b4,b5,b6,b7,b8,b9,b10,b11,b12⟩:=h.bounds;obtain⟨q1,q2,q3,q4⟩:=h.quot W v0 v1;have HE:Hid _:=h;have HF:Hid (gX p mx one aN sg nan (W+sg) 1 1 (1-mx-p+1+W/one-1) (W%one+one)):=
  ⟨W,.inr ⟨rfl,om,om⟩,.inr (.inr (.inr (.inr ⟨om,v1,rfl,0,W%one+one,_,.inr ⟨v0,rfl,rfl⟩,om,om,om,om⟩)))⟩
 clear h;generalize hm:W%one=m at*
 generalize hq:W/one=q at*
 go_enter func126,ntmps126;go_wp2_with (first|(go_at_call 61;refine(gJ HE.out _ om om _).mono ?_;rintro e w' ⟨rfl,hw⟩;subst hw)|(go_at_call 148;refine(og HE.out _).mono ?_;rintro e w' ⟨rfl,hw⟩;subst hw)|(go_at_call 116;refine(qG HE.out _).mono ?_;rintro e w' ⟨rfl,hw⟩;subst hw)|(go_at_call 215;refine(yR HE.out _).mono ?_;rintro e w' ⟨rfl,hw⟩;subst hw)|(go_at_call 117;refine(u_ HE.out _).mono ?_;rintro e w' ⟨rfl,hw⟩;subst hw)|(go_at_call 207;refine(lg HE.out _).mono ?_;rintro e w' ⟨rfl,hw⟩;subst hw))
 go_region;go_wp2;go_loopg [] 1 (λk wr=>wr=(((w.alloc (.cells #[J 0,J 0,J 0,Y 0] 129)).alloc (.cells #[J 1,J 1,J (1-mx-p+1+q-1),Y (m+one)] 129))).drew)
 case atStart=>rfl
 case round=>
  subst hrel;go_wp2;go_returns;exact⟨1,1,_,_,HF.out,rfl,kr⟩
def EW{one:Int}(h:bI f p mx one aN sg nan)(W:Int)(v0:0<W)(v1:W<one)(w:ak):
  CT 126 #[J f,Y (W+sg)] w λe w'=>∃c s x g:Int,gX p mx one aN sg nan (W+sg) c s x g/\e=.returned (fG c s x g)/\Gr w w':=by
 obtain⟨b1,b2,b3,b4,b5,b6,b7,b8,b9,b10,b11,b12⟩:=h.bounds;have HE:Hid _:=h;have hm:W%one=W:=Int.emod_eq_of_lt om v1;clear h;go_enter func126,ntmps126;go_wp2_with (first|(go_at_call 61;refine(gJ HE.out _ om om _).mono ?_;rintro e w' ⟨rfl,hw⟩;subst hw)|(go_at_call 148;refine(og HE.out _).mono ?_;rintro e w' ⟨rfl,hw⟩;subst hw)|(go_at_call 116;refine(qG HE.out _).mono ?_;rintro e w' ⟨rfl,hw⟩;subst hw)|(go_at_call 215;refine(yR HE.out _).mono ?_;rintro e w' ⟨rfl,hw⟩;subst hw)|(go_at_call 117;refine(u_ HE.out _).mono ?_;rintro e w' ⟨rfl,hw⟩;subst hw)|(go_at_call 207;refine(lg HE.out _).mono ?_;rintro e w' ⟨rfl,hw⟩;subst hw))
 go_loopg [] (one.toNat) (λk wr=>∃(j:Nat) (g:Int),Hid (g=W*2^j)/\0<g/\g<2*one/\j<g/\one<=k+g/\wr=((w.alloc (.cells #[J 0,J 0,J 0,Y 0] 129)).alloc (.cells #[J 1,J 1,J (1-mx-p+1-j),Y (g)] 129)))
 case atStart=>exact⟨0,W,by show _=_;omega,v0,om,om,om,by simp⟩
 case round=>
  obtain⟨j,g,HG,g0,g1,g2,g3,rfl⟩:=hrel;by_cases hg:g<one
  .exact aMX
  .have HF:Hid (gX p mx one aN sg nan (W+sg) 1 1 (1-mx-p+1-j) g):=
    ⟨W,.inr ⟨rfl,om,om⟩,.inr (.inr (.inr (.inr ⟨om,om,rfl,j,W,_,.inl ⟨v1,rfl,rfl⟩,HG.out,om,om,g1⟩)))⟩
   go_wp2;go_returns;exact⟨1,1,_,_,HF.out,rfl,kr⟩
def aCC{one:Int}(h:a<b)(m0:0<m)(h1:one<=m*2^a)(h2:m*2^b<2*one):False:=by
 obtain⟨d,rfl⟩:∃d,b=a+1+d:=⟨b-(a+1),om⟩;have e:m*(2:Int)^(a+1+d)=m*2^a*2*2^d:=by
  rw[Int.pow_add,Int.pow_succ];simp[Int.mul_assoc]
 rw[e]at h2;have p1:(1:Int)<=2^d:=by
  have h0:(0:Int)<2^d:=Int.pow_pos de;exact h0
 have p2:(0:Int)<2^a:=Int.pow_pos de;have p3:0<m*2^a:=Int.mul_pos m0 p2;have:=Yv p1 (om:0<=m*2^a*2);omega
def nX.one{one:Int}(v0:0<v)(aVQ:0<one)(h:nX p mx one v e g)(h':nX p mx one v e' g'):e=e'/\g=g':=by
 obtain⟨k,m,e0,hm,hg,he,h1,h2⟩:=h;obtain⟨k',m',e0',KD,dY,he',h1',h2'⟩:=h';have hmm:m=m'/\e0=e0'/\0<m:=by
  have:=Int.emod_nonneg v (om:one≠0);omega
 obtain⟨rfl,rfl,m0⟩:=hmm;have hk:k=k':=by
  subst hg dY;rcases Oz k k' with c|c|c
  .exact(aCC c m0 h1 h2').elim
  .exact c
  .exact(aCC c m0 h1' h2).elim
 subst hk;exact⟨om,by rw[hg,dY]⟩
def gX.one{one:Int}(hf:bI f p mx one aN sg nan)(h:gX p mx one aN sg nan W c s e g)(h':gX p mx one aN sg nan W c' s' e' g'):c=c'/\s=s'/\e=e'/\g=g':=by
 obtain⟨b1,b2,b3,b4,b5,b6,b7,b8,b9,b10,b11,b12⟩:=hf.bounds;obtain⟨v,hv,hc⟩:=h;obtain⟨v',hv',EK⟩:=h';have hvv:v=v'/\s=s':=om;obtain⟨rfl,rfl⟩:=hvv;rcases hc with hc|hc|hc|hc|⟨a1,a2,rfl,a3⟩
 .rcases EK with h|h|h|h|h<;>omega
 .rcases EK with h|h|h|h|h<;>omega
 .rcases EK with h|h|h|h|h<;>omega
 .rcases EK with h|h|h|h|h<;>omega
 .rcases EK with h|h|h|h|⟨_,_,rfl,a3'⟩
  .omega
  .omega
  .omega
  .omega
  .obtain⟨rfl,rfl⟩:=nX.one a1 om a3 a3';exact⟨rfl,rfl,rfl,rfl⟩
def NJ{one:Int}(h:bI f p mx one aN sg nan)(W:Int)(v0:0<=W)(v1:W<2*sg)(w:ak):
  CT 126 #[J f,Y W] w λe w'=>∃c s x g:Int,gX p mx one aN sg nan W c s x g/\e=.returned (fG c s x g)/\Gr w w':=by
 obtain⟨b1,b2,b3,b4,b5,b6,b7,b8,b9,b10,b11,b12⟩:=h.bounds;by_cases hn:W=0\/W=sg\/(aN<=W/\W<sg)\/sg+aN<=W
 .exact Lj h W v0 v1 hn w
 .by_cases hs:W<sg
  .by_cases ho:one<=W
   .exact Lp h W ho om w
   .exact EX h W om om w
  .obtain⟨v,rfl⟩:∃v,W=v+sg:=⟨W-sg,om⟩;by_cases ho:one<=v
   .exact Lm h v ho om w
   .exact EW h v om om w
def aPk(f v:Int)(v0:0<=v)(v1:aI v):(∃p mx one aN sg nan,bI f p mx one aN sg nan/\v<2*sg)\/(¬(f=0\/f=1)\/(f=0/\4294967296<=v)):=by
 by_cases h0:f=0
 .by_cases hv:v<4294967296
  .exact .inl ⟨_,_,_,_,_,_,.inl ⟨h0,rfl,rfl,rfl,rfl,rfl,rfl⟩,om⟩
  .exact .inr (.inr ⟨h0,om⟩)
 .by_cases h1:f=1
  .exact .inl ⟨_,_,_,_,_,_,.inr ⟨h1,rfl,rfl,rfl,rfl,rfl,rfl⟩,om⟩
  .exact .inr (.inl om)
def xJ(h l n:Int)(Tc:0<=h)(hl0:0<=l)(hh1:aI h)(qZ:aI l)(w:ak):
  QR 256 #[aS h l,J n] w (aS (tu h l (bnd n).toNat) (tq h l (bnd n).toNat)):=by
 go_enter func256,ntmps256;go_wp2_with (first|(go_at_call 300;refine(sW _ _ _).mono ?_;rintro e w1 ⟨rfl,c1,c2,rfl⟩)|(go_at_call 302;refine(Yf l h n hl0 Tc qZ hh1 _).mono ?_;rintro e w2 ⟨rfl,aC⟩)|(go_at_call 248;refine(aB0 _ _ _).mono ?_;rintro e w3 ⟨rfl,aO⟩;have hf3:=aO.eY;have hf2:=aC.eY;obtain⟨q0,q1⟩:lW w3 (w.heap.size+1) 0 1 (Y 0) (Y 0):=⟨kl,kl⟩))
 exact cO (by simp[results,results256,go_sem,q0,q1])
def aEv(h l:Int)(k:Nat)(h0:0<=h)(l0:0<=l)(h1:aI h)(l1:aI l):
  (tu (lY h l k) (lF h l k) k=h/\tq (lY h l k) (lF h l k) k=l↔lU h l k=false)/\(0<=lY h l k/\lY h l k<18446744073709551616/\0<=lF h l k/\lF h l k<18446744073709551616):=by
 have hp:(0:Int)<2^k:=Int.pow_pos de;unfold tu tq lY lF lU;have hV0:0<=h*18446744073709551616+l:=om;have hV1:h*18446744073709551616+l<340282366920938463463374607431768211456:=om;have eh:h=(h*18446744073709551616+l)/18446744073709551616:=om;have el:l=(h*18446744073709551616+l)%18446744073709551616:=om;generalize h*18446744073709551616+l=V at*
 subst eh el;have e1:V/2^k/18446744073709551616*18446744073709551616+V/2^k%18446744073709551616=V/2^k:=om;rw[e1];have e2:V/2^k*2^k+V%2^k=V:=Int.ediv_mul_add_emod V (2^k);have e3:0<=V%2^k:=Int.emod_nonneg _ om;have e4:0<=V/2^k:=Int.ediv_nonneg hV0 om;have e5:V/2^k<=V:=Int.ediv_le_self _ hV0;have e6:0<=V/2^k*2^k:=Bj e4 om;generalize V/2^k*2^k=T at*
 generalize V/2^k=D at*
 generalize V%2^k=R at*
 refine⟨?_,om,om,om,om⟩;simp only[decide_eq_false_iff_not,Classical.not_not];omega
def zer(h l:Int):Int:=if h=0 then 128-(Go.Lib.bitLen l.toNat:Int)else 64-(Go.Lib.bitLen h.toNat:Int)
def aC9(a0 a1:Int)(zC:0<=a0)(kG:0<=a1)(L8:aI a0)(PD:aI a1)(w:ak):
  QR 307 #[aS a0 a1] w (J (zer a1 a0)):=by
 have hl0:=Go.Lib.bitLen_le a0.toNat 64 om om;have qZ:=Go.Lib.bitLen_le a1.toNat 64 om om;by_cases z1:a1=0
 .subst z1;by_cases z0:a0=0
  .subst z0;go_enter func307,ntmps307;go_wp2;refine wp_loop_rounds 3 ?_;rw[uP];go_wp2;rw[uP];go_wp2;rw[uP];go_wp2;go_returns;exact⟨b_ (lu (Value.int IntKind.i64) (by decide+kernel)),⟨by go_grown,by go_grown⟩⟩
  .have e0:(a0==0)=false:=by simp[z0]
   clear z0;go_enter func307,ntmps307;go_wp2;refine wp_loop_rounds 3 ?_;rw[uP];go_wp2;rw[uP];go_wp2_with (go_at_call 329;refine(Yd _ zC L8 _).mono ?_;rintro e w' ⟨rfl,rfl⟩);go_returns;exact⟨b_ (lu (Value.int IntKind.i64) (by unfold zer;rw[aQ rfl];omega)),⟨by go_grown,by go_grown⟩⟩
 .have e1:(a1==0)=false:=by simp[z1]
  have Z1:Hid _:=z1;clear z1;go_enter func307,ntmps307;go_wp2;refine wp_loop_rounds 3 ?_;rw[uP];go_wp2_with (go_at_call 329;refine(Yd _ kG PD _).mono ?_;rintro e w' ⟨rfl,rfl⟩);go_returns;exact⟨b_ (lu (Value.int IntKind.i64) (by unfold zer;rw[aH Z1.out];try omega)),⟨by go_grown,by go_grown⟩⟩
def bl(X:Int):Int:=if X/18446744073709551616=0 then(Go.Lib.bitLen (X%18446744073709551616).toNat :Int)else 64+(Go.Lib.bitLen (X/18446744073709551616).toNat :Int)
def aPC(h l:Int)(h0:0<=h)(l0:0<=l)(h1:aI h)(l1:aI l):zer h l=128-bl (h*18446744073709551616+l):=by
 have e1:(h*18446744073709551616+l)/18446744073709551616=h:=om;have e2:(h*18446744073709551616+l)%18446744073709551616=l:=om;unfold zer bl;rw[e1,e2];split<;>omega
def Ri(h l:Int)(h0:0<=h)(l0:0<=l)(h1:aI h)(l1:aI l)(w:ak):
  QR 252 #[aS h l] w (J (zer h l)):=by
 go_enter func252,ntmps252;go_wp2_with (first|(go_at_call 300;refine(sW _ _ _).mono ?_;rintro e w1 ⟨rfl,c1,c2,rfl⟩)|(go_at_call 307;refine(aC9 l h l0 h0 l1 h1 _).mono ?_;rintro e w2 ⟨rfl,aC⟩))
 go_returns;exact⟨rfl,kr⟩
def I_(ah al bh bl:Int)(zC:0<=ah)(kG:aI ah)(t_:0<=al)(iF:aI al)(YJ:0<=bh)(AA:aI bh)(LZ:0<=bl)(uT:aI bl)(w:ak):
  CT 246 #[aS ah al,aS bh bl] w λe w'=>
   e=.returned (.tuple #[aS ((ah-bh-V8 al bl)%18446744073709551616) ((al-bl)%18446744073709551616),.bool (lt2 ah al bh bl)])/\Gr w w':=by
 have HL:Hid (lt2 ah al bh bl=(V8 ah (bh+V8 al bl) != 0)):=rfl;go_enter func246,ntmps246;go_wp2;go_region_held3 (λw'=>aB w' w.heap.size 0 (Y ah)/\aB w' w.heap.size 1 (Y al)/\aB w' (w.heap.size+1) 0 (Y bh)/\aB w' (w.heap.size+1) 1 (Y bl))(simp[go_sem,World.cell?_alloc_past])(first|(go_at_call 300;refine(sW _ _ _).mono ?_;rintro e w1 ⟨rfl,c1,c2,rfl⟩)|(go_at_call 304;refine(aEr al ah bl bh t_ zC LZ YJ uT AA _).mono ?_;rintro e w2 ⟨rfl,d1,d2,d3,d4,rfl⟩))
 all_goals go_wp2_with (go_at_call 248;refine(EO _ _ _).mono ?_;rintro e w1 ⟨rfl,f1,f2,rfl⟩)
 all_goals go_returns<;>exact⟨Ob rfl rfl HL.out.symm,⟨by go_grown,by go_grown⟩⟩
def yg:List Int:=[9223372034707292160,9223372032559808513,9223372028264841220,9223372019674906640,9223372002495037504,9223371968135299328,9223371899415823360,9223371761976872960,9223371487098978304,9223370937343213568,9223369837831782400,9223367638809313280,9223363240765947903,9223354444685508597,9223336852549795755,9223301668379032917,9223231300440156843,9223090566172988758,9222809104080874160,9222246205664613803,9221120511896629248,9218869536560097961,9214369234215239612,9205375219083682339,9187413517043429148,9151595186215228390,9080376907458843210,8939598712059420229,8664556174609911609,8139597253909710366,7183169364861397922,5594257926288582650,3393088950634442637,1248247667004394400,168931951563480719,3094096621605846,1037953783668,116806]
def mJ(i:Nat):Int:=yg.getD i 0
def nP:Array Value:=#[Y 9223372034707292160,Y 9223372032559808513,Y 9223372028264841220,Y 9223372019674906640,Y 9223372002495037504,Y 9223371968135299328,Y 9223371899415823360,Y 9223371761976872960,Y 9223371487098978304,Y 9223370937343213568,Y 9223369837831782400,Y 9223367638809313280,Y 9223363240765947903,Y 9223354444685508597,Y 9223336852549795755,Y 9223301668379032917,Y 9223231300440156843,Y 9223090566172988758,Y 9222809104080874160,Y 9222246205664613803,Y 9221120511896629248,Y 9218869536560097961,Y 9214369234215239612,Y 9205375219083682339,Y 9187413517043429148,Y 9151595186215228390,Y 9080376907458843210,Y 8939598712059420229,Y 8664556174609911609,Y 8139597253909710366,Y 7183169364861397922,Y 5594257926288582650,Y 3393088950634442637,Y 1248247667004394400,Y 168931951563480719,Y 3094096621605846,Y 1037953783668,Y 116806]
def Tq(i:Nat)(h:i<38):nP[i]?=some (Y (mJ i)):=by
 have hs:nP=(yg.map λn=>Value.int .u64 n).toArray :=rfl;have hl:yg.length=38:=rfl;rw[hs,List.getElem?_toArray,List.getElem?_map,Dj om,Option.map_some];unfold mJ;rw[qF,Dj om,Option.getD_some]
def CO(i:Nat):0<=mJ i/\mJ i<=9223372036854775808:=YO (P:=λx=>0<=x/\x<=9223372036854775808) (l:=yg) de de i
def share(a b:Int):Int:=a*b/9223372036854775808%18446744073709551616
def aGs(a b:Int):0<=share a b/\share a b<18446744073709551616:=by unfold share;omega
def Xj{a b:Int}(a0:0<=a)(a1:a<=9223372036854775808)(b0:0<=b)(b1:b<=9223372036854775808):share a b=a*b/9223372036854775808/\share a b<=a:=by
 have h0:0<=a*b:=Bj a0 b0;have h1:a*b<=a*9223372036854775808:=Yv b1 a0;have h2:a*b/9223372036854775808<=a:=om;unfold share;constructor<;>omega
def dec(t:Int):Nat->Int
 |0=>9223372036854775808
 |k+1=>if t/2^k%2=1 then share (dec t k) (mJ k)else dec t k
def aBI(t:Int)(k:Nat):0<=dec t k/\dec t k<=9223372036854775808:=by
 induction k with
 |zero=>exact⟨by unfold dec;decide,Int.le_refl _⟩
 |succ k ih=>
  unfold dec;split
  .have:=Xj ih.1 ih.2 (CO k).1 (CO k).2;have:=aGs (dec t k) (mJ k);omega
  .exact ih
def oI(t:Int):Int:=if t<274877906944 then dec t 38 else 0
def Tn(t:Int):0<=oI t/\oI t<=9223372036854775808:=by
 unfold oI;split
 .exact aBI t 38
 .decide
def Dc(w:ak):Prop:=∃t fr,w.heap[3]?=some (.cells nP t fr)
def Dc.below(h:Dc w)(b:Below w.heap.size w w'):Dc w':=by
 obtain⟨t,fr,h⟩:=h;refine⟨t,fr,?_⟩;have:3<w.heap.size:=by
  rcases uq 3 w.heap.size with k|k
  .exact k
  .simp[k]at h
 rw[Below.block b _ this];exact h
def aMY{P:Prop}(h:P:=by
 obtain⟨t0,t1⟩:=aGk k;have hs:above vH u (k+1)=n+if u<vH k then 1 else 0:=by rw[<-hn];rfl
 have HS:Hid _:=hs;clear hs;generalize vH k=t at*
 by_cases hb:u<t
 .go_wp2;go_round
  case rel=>exact⟨k+1,om,by rw[HS.out,aQ hb];go_num,jS⟩
  case measure=>exact qL
 .go_wp2;go_round
  case rel=>exact⟨k+1,om,by rw[HS.out,aH hb];go_num,jS⟩
  case measure=>simp[intOf];omega):P:=h
def aGr(w:ak):CT 216 #[] w λe w'=>∃b,e=.returned (aF b 18 18)/\Gr w w'/\∀i,i<18->aB w' b i (Y (vH i)):=by
 go_enter func216,ntmps216;go_wp2;go_returns;exact⟨_,rfl,kr,λi hi=>(World.cell?_alloc_new _ _ _ _).trans (WX i hi)⟩
def SX(h:prog.underlying t=some (.array n 71)){v:Value}(hk:k<n)(hv:cs[k]?=some v)(w:ak):(Instr.index t (.agg cs) (J k)).run prog w=.ok v w:=by
 have EI:(k:Int)<n:=om;simp[Instr.index,run_underlying h,asIntOf,hk,EI,hv,go_sem]
def aPF(u:Int)(h0:0<=u)(h1:aI u)(w:ak):
  QR 128 #[Y u] w (J (lK u:Nat)):=by
 go_enter func128,ntmps128;go_wp2_with (go_at_call 216;refine(aGr _).mono ?_;rintro e w1 ⟨b,rfl,hg0,YJ⟩);have hc:Hid _:=YJ;have hg:Hid (Gr w w1):=hg0;clear YJ hg0;go_loop [4,5] (λn i=>∃k:Nat,k<=18/\n=J (above vH u k:Nat)/\i=J k) (λ_ i=>18-(intOf i).toNat)
 case atStart=>exact⟨0,om,rfl,rfl⟩
 case round=>
  obtain⟨k,hk,rfl,rfl⟩:=hrel;have ha:=Qa vH u k;obtain⟨n,hn⟩:=dP (above vH u k);rw[hn]at ha⊢
  by_cases h:(k:Int)<18
  .have q:=hc.out k om;exact aMY
  .obtain rfl:k=18:=om;go_wp2;go_returns;exact⟨by rw[<-hn];rfl,hg.out⟩
def aPG(u:Int)(h0:0<=u)(h1:aI u)(hT:Tl w):
  QW 275 #[Y u] w (J (lK u:Nat)):=by
 obtain⟨t,fr,hg⟩:=hT;have hc:Hid (∀i,i<18->sZ[i]?=some (Y (vH i))):=WX;have hz:sZ.size=18:=rfl;generalize sZ=cs at*
 go_enter func275,ntmps275;go_wp2_with (refine wpList_load_row rfl 305 _ rfl 2 rfl t cs fr _ hg underlying305 rfl (by rw[hz];kernel_rfl) ?_);go_loop [3,7] (λn i=>∃k:Nat,k<=18/\n=J (above vH u k:Nat)/\i=J k) (λ_ i=>18-(intOf i).toNat)
 case atStart=>exact⟨0,om,rfl,rfl⟩
 case round=>
  obtain⟨k,hk,rfl,rfl⟩:=hrel;have ha:=Qa vH u k;obtain⟨n,hn⟩:=dP (above vH u k);rw[hn]at ha⊢
  by_cases h:(k:Int)<18
  .have q:=SX underlying305 (om:k<18) (hc.out k om) w;exact aMY
  .obtain rfl:k=18:=om;go_wp2;go_returns;exact⟨by rw[<-hn];rfl,rfl⟩
