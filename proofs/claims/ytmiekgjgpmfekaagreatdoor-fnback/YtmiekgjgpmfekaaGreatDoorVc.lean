import Derived.Test.YtmiekgjgpmfekaaGreatDoorVa
import Derived.Test.YtmiekgjgpmfekaaGreatDoorTk
set_option linter.all false
open Bool renaming true → J
namespace Go.Proofs.YtmiekgjgpmfekaaGreatDoor
open Go.RowKit
variable{a b x y fl s Z e z a1 a2 t1 t2 re t3 im c v n:Int}{k j t A B M m r q:Nat}
def eU:Nat:=5978
def uN:Nat:=2^eU
def sN:Nat:=2^(22+eU)
theorem aGb:sN=4194304*uN:=by
 unfold sN uN;rw[Nat.pow_add,show(2:Nat)^22=4194304 by decide]
theorem sG:0<uN:=by unfold uN;exact Nat.pow_pos de
theorem yZ:((sN:Nat):Int)=4194304*((uN:Nat):Int):=by rw[aGb];omega
def ov(o:bZ):Int:=if o.s=1 then-((nv o.M o.e:Nat):Int)else((nv o.M o.e:Nat):Int)
abbrev oV(a:Int)(o:bZ):Prop:=bP 53 1023 4503599627370496 9218868437227405312 9223372036854775808 9221120237041090560 a o
abbrev WA(o:bZ)(Z fl:Int):Prop:=bW 53 (1-1023) 1023 4503599627370496 9218868437227405312 9223372036854775808 9221120237041090560 0 o Z fl
theorem oU:aP 1 53 1023 4503599627370496 9218868437227405312 9223372036854775808 9221120237041090560:=.inr ⟨rfl,rfl,rfl,rfl,rfl,rfl,rfl⟩
def Vl(a x:Int):Prop:=Wd a/\∃o,oV a o/\o.c<=1/\x=ov o
theorem Vl.one(h:Vl a x)(h':Vl a y):x=y:=by
 obtain⟨_,o,ho,_,rfl⟩:=h;obtain⟨_,o',ho',_,rfl⟩:=h';rw[bP.one oU ho ho']
theorem zi(e:Int):nv 0 e=0:=by unfold nv;simp
theorem EJ(A B:Nat)(e:Int):nv (A+B) e=nv A e+nv B e:=by unfold nv;rw[Nat.add_mul]
theorem Tm(e:Int)(h:A<=B):nv A e<=nv B e:=by unfold nv;exact Nat.mul_le_mul_right _ h
theorem aE1(q:Int)(h:q<=-22):nv 1 q<=uN:=by unfold nv uN;rw[Nat.one_mul];exact bT (by unfold eU;omega)
theorem yG(hs:s=0\/s=1)(l:Nat)(E z:Int)(hE:1-1023<=E)(E1:E<=1000)(hl:(l:Int)<=9007199254740992)(hb:E=1-1023\/4503599627370496<=(l:Int))(hz:z=(l:Int)+4503599627370496*(E-(1-1023))):
  Vl (sw s 9223372036854775808 z) (ov ⟨1,s,E-53+1,l⟩):=by
 have hw:Wd (sw s 9223372036854775808 z):=by unfold sw Wd;split<;>omega
 obtain⟨y,hy⟩:=fE oU _ hw.1 hw.2;obtain⟨y1,y2⟩:=bP.bare oU hs (v:=z) om om hy;obtain⟨_,q2,q3⟩:=YS oU y2 l E hE om hb hz om;refine⟨hw,y,hy,by dsimp only at q2;omega,?_⟩;dsimp only at q3;unfold ov;dsimp only
 rw[q3,y1]
theorem Yj(hs:s=0\/s=1)(hM:0<M)(e0:-5000<=e)(hr:aO 53 (1-1023) 1023 4503599627370496 9218868437227405312 0 s M e false z fl)(hb:nv M e<=4503599627370496*uN):
  ∃x,Vl (sw s 9223372036854775808 z) x/\Nr x (ov ⟨1,s,e,M⟩) uN:=by
 obtain⟨top,E,r,r2,hf,h1,h2,h3,h4,h5,hc⟩:=hr;have t30:top<=30:=by
  rcases Int.lt_or_le 30 top with c|c
  ·exfalso;have a1:=EL M hM;have a2:=sO M hM;have a3:2^(nb M-1)*2^(e+6000).toNat <=nv M e:=Nat.mul_le_mul_right _ a1;rw[<-Nat.pow_add]at a3;have a4:=bT (show 53+eU<=nb M-1+(e+6000).toNat by unfold eU;omega);have a5:(2:Nat)^(53+eU)=9007199254740992*uN:=by
    unfold uN;rw[Nat.pow_add,show(2:Nat)^53=9007199254740992 by decide]
   have:=sG;omega
  ·exact c
 have hE:E<=30/\1-1023<=E/\top<=E:=om;obtain⟨q,hq⟩:∃q,q=E-53+1:=⟨_,rfl⟩;rw[<-hq]at h3 h4;obtain⟨n1,n2⟩:=YW M e q om om;have hlt:=iH M e q 53 om;rw[show(2:Nat)^53=9007199254740992 by decide]at hlt;obtain⟨c1,c2⟩:=fZ 0 s (aW M e q) hf;rw[<-h4]at c1 c2;have hge:E=1-1023\/4503599627370496<=(r:Int):=by
  rcases h2 with⟨a,b⟩|⟨a,b⟩
  ·exact .inl b
  ·right;have:=rP M e q 52 hM om;rw[show(2:Nat)^52=4503599627370496 by decide]at this;omega
 have hz:z=(r:Int)+4503599627370496*(E-(1-1023)):=om;refine⟨_,yG hs r E z hE.2.1 om om hge hz,?_⟩;rw[<-hq];have l1:=Tm q c1;have l2:=Tm q c2;rw[EJ]at n2 l2;have l3:=aE1 q om;unfold Nr ov;dsimp only
 split<;>omega
theorem Di{o:bZ}(hp:WA o Z fl)(hs:o.s=0\/o.s=1)(hc:o.c=0/\o.M=0\/o.c=1/\0<o.M)(e0:-5000<=o.e)(hb:In' (ov o) (4503599627370496*uN)):∃x,Vl Z x/\Nr x (ov o) uN:=by
 have u0:=sG;rcases hp with⟨c,rfl,_⟩|⟨c,z,hz,rfl⟩|⟨c,_⟩|⟨c,_⟩|⟨c,_⟩
 ·have:=yG hs 0 (1-1023) 0 om om om (.inl rfl) om;refine⟨_,this,?_⟩;have hM:o.M=0:=by rcases hc with h|h<;>omega
  unfold Nr ov;dsimp only
  rw[hM,zi,zi];split<;>omega
 ·have hM:0<o.M:=by rcases hc with h|h<;>omega
  have hb':nv o.M o.e<=4503599627370496*uN:=by
   unfold In' ov at hb;split at hb<;>omega
  exact Yj (s:=o.s) (M:=o.M) (e:=o.e) hs hM e0 hz hb'
 all_goals (exfalso;omega)
structure Fin' (o:bZ):Prop where
 s:o.s=0\/o.s=1
 c:o.c=0/\o.M=0\/o.c=1/\0<o.M
 e:-5000<=o.e
theorem oV.fin{o:bZ}(h:oV a o)(hc:o.c<=1):Fin' o/\-2000<=o.e/\o.e<=2000:=by
 obtain⟨v,_,hM,e1,e2,_⟩:=bQ oU h;have:=v.c0;refine⟨⟨v.jF,?_,om⟩,e1,e2⟩;rcases(show o.c=0\/o.c=1 by omega)with c|c
 ·exact .inl ⟨c,hM om⟩
 ·exact .inr ⟨c,(v.fin c).1⟩
theorem qj{o:bZ}(h:o.M=0):ov o=0:=by unfold ov;rw[h,zi];split<;>rfl
theorem Jc{o:bZ}(hs:o.s=0\/o.s=1):ov (jQ o)=-ov o:=by
 unfold ov jQ;dsimp only
 rcases hs with h|h<;>rw[h]
 ·rw[if_pos de,if_neg (by decide)]
 ·rw[if_neg de,if_pos rfl,Int.neg_neg]
theorem IW{x y:bZ}(hx:Fin' x)(hy:Fin' y):Fin' (gI 0 x y)/\ov (gI 0 x y)=ov x+ov y:=by
 have cx:=hx.c;have cy:=hy.c;have nil:Fin' (CU 0)/\ov (CU 0)=0:=⟨⟨.inl rfl,.inl ⟨rfl,rfl⟩,de⟩,qj rfl⟩;unfold gI;rw[if_neg (by omega)];by_cases h1:y.c<x.c
 ·rw[if_pos h1,qj (o:=y) om,Int.add_zero];exact⟨hx,rfl⟩
 rw[if_neg h1];by_cases h2:x.c<y.c
 ·rw[if_pos h2,qj (o:=x) om,Int.zero_add];exact⟨hy,rfl⟩
 rw[if_neg h2];by_cases h3:x.c=1
 ·rw[if_pos h3];have ex:=hx.e;have ey:=hy.e;have n1:nv (iI x y).1 (min x.e y.e)=nv x.M x.e:=by
   have:=zk x.M (x.e-min x.e y.e).toNat x.e om;rw[show x.e-((x.e-min x.e y.e).toNat :Int)=min x.e y.e by omega]at this;exact this
  have n2:nv (iI x y).2 (min x.e y.e)=nv y.M y.e:=by
   have:=zk y.M (y.e-min x.e y.e).toNat y.e om;rw[show y.e-((y.e-min x.e y.e).toNat :Int)=min x.e y.e by omega]at this;exact this
  have m1:0<(iI x y).1 :=Nat.mul_pos om (Nat.pow_pos de);have em:-5000<=min x.e y.e:=om;have hs:=hx.s;have ht:=hy.s;unfold qG;generalize(iI x y).1 =A at*
  generalize(iI x y).2 =B at*
  generalize min x.e y.e=m at*
  by_cases s1:x.s=y.s
  ·rw[if_pos s1];refine⟨⟨hs,.inr ⟨rfl,by dsimp only;omega⟩,em⟩,?_⟩;unfold ov;dsimp only
   rw[EJ,n1,n2,<-s1];split<;>omega
  ·rw[if_neg s1];by_cases a1:A=B
   ·rw[if_pos a1];refine⟨nil.1,?_⟩;rw[a1]at n1;rw[nil.2];unfold ov;split<;>split<;>omega
   ·rw[if_neg a1];by_cases a2:B<A
    ·have hn:nv A m=nv (A-B) m+nv B m:=by rw[<-EJ];congr 1;omega
     rw[if_pos a2];refine⟨⟨hs,.inr ⟨rfl,by dsimp only;omega⟩,em⟩,?_⟩;unfold ov;dsimp only
     split<;>split<;>omega
    ·have hn:nv B m=nv (B-A) m+nv A m:=by rw[<-EJ];congr 1;omega
     rw[if_neg a2];refine⟨⟨ht,.inr ⟨rfl,by dsimp only;omega⟩,em⟩,?_⟩;unfold ov;dsimp only
     split<;>split<;>omega
 ·rw[if_neg h3];have mx:x.M=0:=om;have my:y.M=0:=om;rw[qj mx,qj my];by_cases h4:x.s=y.s
  ·rw[if_pos h4,qj mx];exact⟨hx,rfl⟩
  ·rw[if_neg h4,if_neg (by omega)];exact nil
theorem S9{x y:bZ}(hx:Fin' x)(hy:Fin' y)(ex:-2000<=x.e)(ey:-2000<=y.e):Fin' (dO x y)/\ov (dO x y)*(sN:Int)=ov x*ov y:=by
 have cx:=hx.c;have cy:=hy.c;have ms:mulS x.s y.s=0\/mulS x.s y.s=1:=by unfold mulS;split<;>simp
 unfold dO;rw[if_neg om,if_neg (by omega)];by_cases h1:min x.c y.c=0
 ·rw[if_pos h1];refine⟨⟨ms,.inl ⟨rfl,rfl⟩,by dsimp only;omega⟩,?_⟩;rw[qj rfl,Int.zero_mul];rcases(show x.M=0\/y.M=0 by omega)with h|h
  ·rw[qj h,Int.zero_mul]
  ·rw[qj h,Int.mul_zero]
 ·rw[if_neg h1,if_neg (by omega)];have m1:0<x.M:=om;have m2:0<y.M:=om;refine⟨⟨ms,.inr ⟨rfl,Nat.mul_pos m1 m2⟩,by dsimp only;omega⟩,?_⟩;have hn:nv (x.M*y.M) (x.e+y.e)*sN=nv x.M x.e*nv y.M y.e:=by
   unfold nv sN;rw[Nat.mul_assoc,<-Nat.pow_add,show(x.e+y.e+6000).toNat +(22+eU)=(x.e+6000).toNat +(y.e+6000).toNat by unfold eU;omega,Nat.pow_add,Nat.mul_mul_mul_comm]
  have hn':((nv (x.M*y.M) (x.e+y.e):Nat):Int)*(sN:Int)=((nv x.M x.e:Nat):Int)*((nv y.M y.e:Nat):Int):=by exact_mod_cast hn
  unfold ov mulS;dsimp only
  rcases hx.s with h|h<;>rcases hy.s with h'|h'<;>rw[h,h']<;>simp[hn',Int.neg_mul,Int.mul_neg]
section
variable [Inhabited Ch]
theorem pX.num{R:Int->bZ->bZ->bZ}(h:pX R 1 0 a b Z fl):∃x y,oV a x/\oV b y/\WA (R 0 x y) Z fl:=by
 rcases h with⟨p,mx,one,inf,sg,nan,x,y,hF,hm,hx,hy,hp⟩|⟨p,mx,one,inf,sg,nan,hF,hm,_⟩|⟨hF,_⟩
 ·obtain⟨rfl,rfl,rfl,rfl,rfl,rfl⟩:=hF.one oU;exact⟨x,y,hx,hy,hp⟩
 ·omega
 ·omega
theorem Vl.turn(h:Vl a x):Vl (nO a) (-x):=by
 obtain⟨hw,o,ho,hc,rfl⟩:=h;have hz:a<9223372036854775808/\nO a=a+9223372036854775808\/9223372036854775808<=a/\nO a=a-9223372036854775808:=by unfold nO;split<;>omega
 obtain⟨_,_,h3⟩:=DN oU a (nO a) hw.1 (by unfold Wd at hw;omega) hz ho;refine⟨xW hw,jQ o,h3,hc,?_⟩;rw[Jc (oV.fin ho hc).1.s]
theorem Fin'.turn{o:bZ}(h:Fin' o):Fin' (jQ o):=⟨by have:=h.s;unfold jQ;dsimp only;omega,h.c,h.e⟩
theorem aAQ(ha:Vl a x)(hb:Vl b y)(h:In' (x+y) (4503599627370496*uN)):∃z,Vl (Iz a b) z/\Nr z (x+y) uN:=by
 obtain⟨wa,o,ho,hc,rfl⟩:=ha;obtain⟨wb,o',ho',hc',rfl⟩:=hb;obtain⟨Z,fl,hr,_,_⟩:=add_same 1 0 _ _ wa.1 wa.2 wb.1 wb.2;rw[sF hr];obtain⟨u,v,hu,hv,hp⟩:=hr.num;obtain rfl:=bP.one oU ho hu;obtain rfl:=bP.one oU ho' hv;obtain⟨hf,he⟩:=IW (oV.fin ho hc).1 (oV.fin ho' hc').1;have:=Di hp hf.s hf.c hf.e (by rw[he];exact h);rw[he]at this;exact this
theorem aAL(ha:Vl a x)(hb:Vl b y)(h:In' (x-y) (4503599627370496*uN)):∃z,Vl (OW a b) z/\Nr z (x-y) uN:=by
 obtain⟨wa,o,ho,hc,rfl⟩:=ha;obtain⟨wb,o',ho',hc',rfl⟩:=hb;obtain⟨Z,fl,hr,_,_⟩:=qK 1 0 _ _ wa.1 wa.2 wb.1 wb.2;rw[yJ hr];obtain⟨u,v,hu,hv,hp⟩:=hr.num;obtain rfl:=bP.one oU ho hu;obtain rfl:=bP.one oU ho' hv;obtain⟨hf,he⟩:=IW (oV.fin ho hc).1 (oV.fin ho' hc').1.turn;rw[Jc (oV.fin ho' hc').1.s,<-Int.sub_eq_add_neg]at he;have:=Di hp hf.s hf.c hf.e (show In' (ov (gI 0 o (jQ o'))) _ by rw[he];exact h);rw[show wM 0 o o'=gI 0 o (jQ o') from rfl,he]at this;exact this
theorem aAN(ha:Vl a x)(hb:Vl b y)(h:In' (x*y) (4503599627370496*uN*(4194304*uN))):∃z,Vl (KF a b) z/\Nr (z*(4194304*uN)) (x*y) (uN*(4194304*uN)):=by
 obtain⟨wa,o,ho,hc,rfl⟩:=ha;obtain⟨wb,o',ho',hc',rfl⟩:=hb;obtain⟨Z,fl,hr,_,_⟩:=qU 1 0 _ _ wa.1 wa.2 wb.1 wb.2;rw[vO hr];obtain⟨u,v,hu,hv,hp⟩:=hr.num;obtain rfl:=bP.one oU ho hu;obtain rfl:=bP.one oU ho' hv;have f1:=oV.fin ho hc;have f2:=oV.fin ho' hc';obtain⟨hf,he⟩:=S9 f1.1 f2.1 f1.2.1 f2.2.1;rw[yZ]at he;have u0:=sG;have hb:In' (ov (dO o o')) (4503599627370496*uN):=In'.div (S:=4194304*uN) om (by rw[he];exact h);obtain⟨z,hz,hn⟩:=Di hp hf.s hf.c hf.e hb;refine⟨z,hz,?_⟩;rw[<-he];have:=Nr.mul hn (k:=4194304*(uN:Int)) (K:=4194304*(uN:Int)) ⟨om,om⟩;rw[Int.mul_comm z,Int.mul_comm (uN:Int),show ov (dO o o')*(4194304*(uN:Int))=4194304*(uN:Int)*ov (dO o o') from Int.mul_comm _ _];exact this
theorem R_(n:Int)(h0:-2047<=n)(h1:n<=2047):∃o fl,WA o (KG n) fl/\ov o=n*(4194304*uN)/\Fin' o:=by
 obtain⟨Z,fl,h⟩:=Du 1 0 1 (n%18446744073709551616);rw[vS h];have u0:=sG;have e:n%18446744073709551616=n/\0<=n\/n%18446744073709551616=n+18446744073709551616/\n<0:=om;have hs:cu 1 (n%18446744073709551616)=if n<0 then 1 else 0:=by
  unfold cu;rcases e with⟨e,k⟩|⟨e,k⟩<;>rw[e]
  ·rw[if_neg om,if_neg (by omega)]
  ·rw[if_pos ⟨.inr rfl,om⟩,if_pos k]
 have hM:d_ 1 (n%18446744073709551616)=n.natAbs:=by
  unfold d_;rcases e with⟨e,k⟩|⟨e,k⟩<;>rw[e]
  ·rw[if_neg (by omega)];omega
  ·rw[if_pos ⟨.inr rfl,om⟩];omega
 have hf:dZ 1 (n%18446744073709551616)=J:=by
  unfold dZ;rw[hM,hs];refine decide_eq_true ⟨⟨om,om⟩,?_⟩;split
  ·rw[show bG 1 1=9223372036854775808 by decide];omega
  ·rw[show bG 1 0=9223372036854775807 by decide];omega
 have hp:WA (ql 1 (n%18446744073709551616)) Z fl:=by
  rcases h with⟨p,mx,one,inf,sg,nan,hF,hm,hk,hp⟩|⟨p,mx,one,inf,sg,nan,hF,hm,_⟩|⟨hF,_⟩
  ·obtain⟨rfl,rfl,rfl,rfl,rfl,rfl⟩:=hF.one oU;exact hp
  ·rw[hf]at hm;rcases hm with hm|hm
   ·omega
   ·cases hm
  ·omega
 have hO:ov (ql 1 (n%18446744073709551616))=n*(4194304*uN)/\Fin' (ql 1 (n%18446744073709551616)):=by
  unfold ql;rw[hM,hs];have hn:∀N:Nat,((nv N 0:Nat):Int)=N*(4194304*(uN:Int)):=fun N=>by
   rw[<-yZ];unfold nv sN;rw[show((0:Int)+6000).toNat =22+eU from rfl,Int.natCast_mul]
  by_cases c:n.natAbs=0
  ·rw[if_pos c,qj rfl,show n=0 by omega,Int.zero_mul];exact⟨rfl,⟨.inl rfl,.inl ⟨rfl,rfl⟩,de⟩⟩
  ·rw[if_neg c];refine⟨?_,⟨by dsimp only;split<;>simp,.inr ⟨rfl,by dsimp only;omega⟩,show(-5000:Int)<=0 by decide⟩⟩;unfold ov;dsimp only
   rw[hn];by_cases k:n<0
   ·rw[if_pos k,if_pos rfl,show((n.natAbs:Nat):Int)=-n by omega,Int.neg_mul,Int.neg_neg]
   ·rw[if_neg k,if_neg de,show((n.natAbs:Nat):Int)=n by omega]
 exact⟨_,fl,hp,hO⟩
theorem aAP(n:Int)(h0:-2047<=n)(h1:n<=2047):∃x,Vl (KG n) x/\Nr x (n*(4194304*uN)) uN:=by
 obtain⟨o,fl,hp,ho,hf⟩:=R_ n h0 h1;have u0:=sG;have hb:In' (n*(4194304*(uN:Int))) (4503599627370496*uN):=by
  have:=In'.mul (x:=n) (b:=2047) (y:=4194304*(uN:Int)) (c:=4194304*(uN:Int)) ⟨h0,h1⟩ ⟨om,om⟩;unfold In' at*;omega
 have:=Di hp hf.s hf.c hf.e (by rw[ho];exact hb);rw[ho]at this;exact this
theorem TK:Vl jo (2097152*uN):=by
 have:=yG (s:=0) (.inl rfl) 4503599627370496 (-1) 4602678819172646912 om om om (.inr om) om;have e:ov ⟨1,0,-1-53+1,4503599627370496⟩=2097152*(uN:Int):=by
  unfold ov nv uN;dsimp only
  rw[if_neg de,show eU=31+((-1:Int)-53+1+6000).toNat from rfl,show(4503599627370496:Nat)=2097152*2^31 by decide,Nat.mul_assoc,<-Nat.pow_add,Int.natCast_mul];rfl
 rw[e]at this;exact this
theorem aJr:Ap cZ Vl uN:=⟨by have:=sG;omega,aAQ,aAL,aAN,Vl.turn,Vl.one,TK⟩
end
section
variable [Inhabited Ch]
def opC(a:Int):bZ:=if a=0 then⟨0,0,0,0⟩else⟨1,a/9223372036854775808,a%9223372036854775808/4503599627370496-1075,(a%9223372036854775808%4503599627370496+4503599627370496).toNat⟩
def okW(a:Int):Bool:=decide (a=0\/0<=a/\a<18446744073709551616/\4503599627370496<=a%9223372036854775808/\a%9223372036854775808<9218868437227405312)
theorem EH(h:okW a=J):Wd a/\oV a (opC a):=by
 have h':=of_decide_eq_true h;unfold opC;by_cases c:a=0
 ·subst c;rw[if_pos rfl];exact⟨su,.inl ⟨de,0,.inl ⟨rfl,rfl,de⟩,.inl ⟨rfl,rfl,rfl,rfl⟩⟩⟩
 ·rw[if_neg c];obtain⟨a0,a1,v0,v1⟩:0<=a/\a<18446744073709551616/\4503599627370496<=a%9223372036854775808/\a%9223372036854775808<9218868437227405312:=om;refine⟨⟨a0,a1⟩,.inl ⟨om,a%9223372036854775808,by dsimp only;omega,.inr (.inr (.inr (.inr ⟨om,v1,rfl,0,a%9223372036854775808%4503599627370496+4503599627370496,1-1023-53+a%9223372036854775808/4503599627370496,.inr ⟨v0,rfl,rfl⟩,?_,?_,?_,?_⟩)))⟩⟩<;>dsimp only<;>omega
def yP(o:bZ):Int:=nb o.M+o.e-1
def pkC(o:bZ):Int:=sw o.s 9223372036854775808 ((chosen 0 o.s (aW o.M o.e (yP o-53+1)) (aJ o.M o.e (yP o-53+1) false):Nat)+4503599627370496*(yP o-(1-1023)))
def okO(o:bZ):Bool:=decide (o.c=1/\-1022<=yP o/\yP o<=1000)
theorem YK{o:bZ}(h:okO o=J):∃fl,WA o (pkC o) fl:=by
 obtain⟨c,t0,t1⟩:=of_decide_eq_true h;have hl:=iH o.M o.e (yP o-53+1) 53 (by unfold yP;omega);rw[show(2:Nat)^53=9007199254740992 by decide]at hl;have hc:=(fZ 0 o.s (aW o.M o.e (yP o-53+1)) (aJ o.M o.e (yP o-53+1) false)).2;rcases Nat.eq_zero_or_pos (aJ o.M o.e (yP o-53+1) false)with k|k
 ·exact⟨0,.inr (.inl ⟨c,_,⟨yP o,yP o,_,_,_,rfl,.inr ⟨om,rfl⟩,rfl,rfl,rfl,.inr (.inr ⟨om,om,rfl,.inl ⟨k,rfl⟩⟩)⟩,rfl⟩)⟩
 ·exact⟨16,.inr (.inl ⟨c,_,⟨yP o,yP o,_,_,_,rfl,.inr ⟨om,rfl⟩,rfl,rfl,rfl,.inr (.inr ⟨om,om,rfl,.inr (.inr ⟨k,.inl om,rfl⟩)⟩)⟩,rfl⟩)⟩
theorem ev2{R:Int->bZ->bZ->bZ}(ha:okW a=J)(hb:okW b=J)(h:okO (R 0 (opC a) (opC b))=J):∃fl,pX R 1 0 a b (pkC (R 0 (opC a) (opC b))) fl:=by
 obtain⟨fl,hp⟩:=YK h;exact⟨fl,.inl ⟨_,_,_,_,_,_,opC a,opC b,oU,⟨om,om⟩,(EH ha).2,(EH hb).2,hp⟩⟩
theorem evD{R:Int->Int->bZ->bZ->bZ}{o:bZ}(ha:okW a=J)(hb:okW b=J)(ho:R 53 0 (opC a) (opC b)=o)(h:okO o=J):∃fl,lS R 1 0 a b (pkC o) fl:=by
 obtain⟨fl,hp⟩:=YK h;exact⟨fl,.inl ⟨_,_,_,_,_,_,opC a,opC b,oU,⟨om,om⟩,(EH ha).2,(EH hb).2,.inl (by rw[ho];exact hp)⟩⟩
def sqC(x:bZ)(t:Nat):bZ:=⟨1,0,(x.e-jd 53 x.e)/2-1,2*t+n_ (decide (t*t≠x.M*2^jd 53 x.e))⟩
theorem Yn(h1:r*r<=m)(h2:m<(r+1)*(r+1))(h3:t*t<=m)(h4:m<(t+1)*(t+1)):r=t:=by
 rcases Nat.lt_trichotomy r t with c|c|c
 ·have:=Nat.mul_le_mul (show r+1<=t by omega) (show r+1<=t by omega);omega
 ·exact c
 ·have:=Nat.mul_le_mul (show t+1<=r by omega) (show t+1<=r by omega);omega
theorem aEt{x:bZ}(c:x.c=1)(s:x.s=0)(h3:t*t<=x.M*2^jd 53 x.e)(h4:x.M*2^jd 53 x.e<(t+1)*(t+1)):kC 53 0 x x=sqC x t:=by
 have hr:=Es (x.M*2^jd 53 x.e);unfold kC sqC sqM;rw[if_neg om,if_neg om,if_neg om,if_neg om,Yn hr.1 hr.2 h3 h4]
def gB(a1 a2 t1 t2 re t3 im:Int)(q:Nat):Bool:=
 (okW zh&&okW a1&&okO (gI 0 (opC zh) (opC a1))&&decide (pkC (gI 0 (opC zh) (opC a1))=t1))&&
 ((okW t1&&okW jo&&okO (oq 0 (opC t1) (opC jo))&&decide (pkC (oq 0 (opC t1) (opC jo))=t2))&&
 ((okW t2&&okO (sqC (opC t2) q)&&decide ((opC t2).c =1/\(opC t2).s =0/\q*q<=(opC t2).M *2^jd 53 (opC t2).e /\(opC t2).M *2^jd 53 (opC t2).e <(q+1)*(q+1))&&decide (pkC (sqC (opC t2) q)=re))&&
 ((okW re&&okW re&&okO (gI 0 (opC re) (opC re))&&decide (pkC (gI 0 (opC re) (opC re))=t3))&&
 (okW a2&&okW t3&&okO (divO 53 0 (opC a2) (opC t3))&&decide (pkC (divO 53 0 (opC a2) (opC t3))=im)))))
theorem row(hp:cZ.rt (k+1) j=(a1,a2))(h:gB a1 a2 t1 t2 re t3 im q=J):cZ.rt (k+2) (2*j)=(re,im):=by
 unfold gB at h;simp only[Bool.and_eq_true,decide_eq_true_eq]at h;obtain⟨⟨⟨⟨x1,x2⟩,x3⟩,x4⟩,⟨⟨⟨y1,y2⟩,y3⟩,y4⟩,⟨⟨⟨z1,z2⟩,z3,z4,z5,z6⟩,z7⟩,⟨⟨⟨u1,_⟩,u3⟩,u4⟩,⟨⟨v1,v2⟩,v3⟩,v4⟩:=h;obtain⟨f1,g1⟩:=ev2 x1 x2 x3;obtain⟨f2,g2⟩:=ev2 y1 y2 y3;obtain⟨f3,g3⟩:=evD z1 z1 (aEt z3 z4 z5 z6) z2;obtain⟨f4,g4⟩:=ev2 u1 u1 u3;obtain⟨f5,g5⟩:=evD v1 v2 rfl v3;rw[x4]at g1;rw[y4]at g2;rw[z7]at g3;rw[u4]at g4;rw[v4]at g5;have e1:cZ.kJ (a1,a2)=re:=by
  show GH (KF (Iz zh a1) jo)=re;rw[sF g1,vO g2,yK g3]
 have e2:cZ.root (a1,a2)=(re,im):=by
  show(cZ.kJ (a1,a2),OX a2 (Iz (cZ.kJ (a1,a2)) (cZ.kJ (a1,a2))))=_;rw[e1,sF g4,yL g5]
 simp only[Ops.rt];rw[if_pos om,show 2*j/2=j by omega,hp,e2]
theorem jY{v:Int × Int}(h:cZ.rt (k+2) (2*j)=v):cZ.rt (k+2) (2*j+1)=aFw v:=by
 simp only[Ops.rt]at h⊢
 rw[if_pos om,show 2*j/2=j by omega]at h;rw[if_neg om,show(2*j+1)/2=j by omega,h]
theorem P8:cZ.rt 2 (2*0)=(4604544271217802189,4604544271217802188):=row (a1:=0) (a2:=4607182418800017408) rfl (show gB 0 4607182418800017408 4607182418800017408 4602678819172646912 4604544271217802189 4609047870845172685 4604544271217802188 101904826760412361=J by decide+kernel)
theorem P7:cZ.rt 3 (2*0)=(4606496786581982534,4600565431771507042):=row (a1:=4604544271217802189) (a2:=4604544271217802188) P8 (show gB 4604544271217802189 4604544271217802188 4610366944636280294 4605863345008909798 4606496786581982534 4611000386209353030 4600565431771507042 133145072587297888=J by decide+kernel)
theorem P6:cZ.rt 3 (2*1)=(4600565431771507042,13829868823436758342):=row (a1:=13827916308072577997) (a2:=13827916308072577996) (jY P8) (show gB 13827916308072577997 13827916308072577996 4598947915082336358 4594444315454965862 4600565431771507042 4605069031398877538 13829868823436758342 110300989657617956=J by decide+kernel)
theorem P5:cZ.rt 4 (2*0)=(4607009347991985328,4596196889902818826):=row (a1:=4606496786581982534) (a2:=4600565431771507042) P7 (show gB 4606496786581982534 4600565431771507042 4611343202318370467 4606839602690999971 4607009347991985328 4611512947619355824 4596196889902818826 141346055147342594=J by decide+kernel)
theorem PZ:cZ.rt 4 (2*1)=(4596196889902818828,13830381384846761133):=row (a1:=13829868823436758342) (a2:=13823937468626282850) (jY P7) (show gB 13829868823436758342 13823937468626282850 4590149478407443920 4585645878780073424 4596196889902818828 4600700489530189324 13830381384846761133 112461913796534456=J by decide+kernel)
theorem PY:cZ.rt 4 (2*2)=(4605664432017547683,13826551388188862664):=row (a1:=4600565431771507042) (a2:=13829868823436758342) P6 (show gB 4600565431771507042 13829868823436758342 4608905871763417688 4604402272136047192 4605664432017547683 4610168031644918179 13826551388188862664 119827399556340265=J by decide+kernel)
theorem PX:cZ.rt 4 (2*3)=(4603179351334086857,4605664432017547682):=row (a1:=13823937468626282850) (a2:=4606496786581982534) (jY P6) (show gB 13823937468626282850 4606496786581982534 4603735512873216847 4599231913245846351 4603179351334086857 4607682950961457353 4605664432017547682 160132217241934099=J by decide+kernel)
theorem PW:cZ.rt 5 (2*0)=(4607139046673687846,4591727299969791019):=row (a1:=4607009347991985328) (a2:=4596196889902818826) P5 (show gB 4607009347991985328 4596196889902818826 4611599483023371864 4607095883396001368 4607139046673687846 4611642646301058342 4591727299969791019 143421234054582873=J by decide+kernel)
theorem PV:cZ.rt 5 (2*1)=(4591727299969791023,13830511083528463649):=row (a1:=13830381384846761136) (a2:=13819568926757594634) (jY P5) (show gB 13830381384846761136 13819568926757594634 4581195487265450496 4576691887638080000 4591727299969791023 4596230899597161519 13830511083528463649 113006068906017524=J by decide+kernel)
theorem PU:cZ.rt 5 (2*2)=(4605137878724712257,13827261363116383700):=row (a1:=4596196889902818828) (a2:=13830381384846761133) PZ (show gB 4596196889902818828 13830381384846761133 4608061027501552834 4603557427874182338 4605137878724712257 4609641478352082753 13827261363116383700 111402546870973458=J by decide+kernel)
theorem PS:cZ.rt 5 (2*3)=(4603889326261607894,4605137878724712254):=row (a1:=13819568926757594636) (a2:=4607009347991985325) (jY PZ) (show gB 13819568926757594636 4607009347991985325 4605425201396946557 4600921601769576061 4603889326261607894 4608392925888978390 4605137878724712254 182851414922607294=J by decide+kernel)
theorem PO:cZ.rt 5 (2*4)=(4606794571824115163,13822272960629939973):=row (a1:=4605664432017547683) (a2:=13826551388188862664) PY (show gB 4605664432017547683 13826551388188862664 4610927025036153042 4606423425408782546 4606794571824115163 4611298171451485659 13822272960629939973 137909636461419945=J by decide+kernel)
theorem PN:cZ.rt 5 (2*5)=(4598900923775164166,4606794571824115161):=row (a1:=13829036468872323491) (a2:=4603179351334086856) (jY PY) (show gB 13829036468872323491 4603179351334086856 4595239967420414324 4590736367793043828 4598900923775164166 4603404523402534662 4606794571824115161 167337723432263861=J by decide+kernel)
theorem PL:cZ.rt 5 (2*6)=(4606118860100255153,4602163548591158842):=row (a1:=4603179351334086857) (a2:=4605664432017547682) PX (show gB 4603179351334086857 4605664432017547682 4609684484694422628 4605180885067052132 4606118860100255153 4610622459727625649 4602163548591158842 127098248879659787=J by decide+kernel)
theorem PK:cZ.rt 5 (2*7)=(4602163548591158843,13829490896955030960):=row (a1:=13826551388188862665) (a2:=13829036468872323490) (jY PX) (show gB 13826551388188862665 13829036468872323490 4601677754849767022 4597174155222396526 4602163548591158843 4606667148218529339 13829490896955030960 135870858772046760=J by decide+kernel)
theorem aEO:cZ.rt 6 (2*0)=(4607171569234046334,4587232218149935123):=row (a1:=4607139046673687846) (a2:=4591727299969791019) PW (show gB 4607139046673687846 4591727299969791019 4611664332364223123 4607160732736852627 4607171569234046334 4611675168861416830 4587232218149935123 143941595020318687=J by decide+kernel)
theorem aEN:cZ.rt 6 (2*1)=(4587232218149935093,13830543606088822180):=row (a1:=13830511083528463654) (a2:=13815099336824566827) (jY PW) (show gB 13830511083528463654 13815099336824566827 4572201654323866880 4567698054696496384 4587232218149935093 4591735817777305589 13830543606088822180 113142353826250571=J by decide+kernel)
theorem aEM:cZ.rt 6 (2*2)=(4604849113969373103,13827596121717664924):=row (a1:=4591727299969791023) (a2:=13830511083528463649) PV (show gB 4591727299969791023 13830511083528463649 4607623848756681539 4603120249129311043 4604849113969373103 4609352713596743599 13827596121717664924 106782310785546992=J by decide+kernel)
theorem aEL:cZ.rt 6 (2*3)=(4604224084862889119,4604849113969373100):=row (a1:=13815099336824566831) (a2:=4607139046673687841) (jY PV) (show gB 13815099336824566831 4607139046673687841 4606299558886689146 4601795959259318650 4604224084862889119 4608727684490259615 4604849113969373100 193563690163606510=J by decide+kernel)
theorem aEK:cZ.rt 6 (2*4)=(4606655894547498725,13823112524845490139):=row (a1:=4605137878724712257) (a2:=13827261363116383700) PU (show gB 4605137878724712257 13827261363116383700 4610663748389735328 4606160148762364832 4606655894547498725 4611159494174869221 13823112524845490139 135690800035556936=J by decide+kernel)
theorem aEJ:cZ.rt 6 (2*5)=(4599740487990714333,4606655894547498722):=row (a1:=13828509915579488065) (a2:=4603889326261607892) (jY PU) (show gB 13828509915579488065 4603889326261607892 4597346180591756028 4592842580964385532 4599740487990714333 4604244087618084829 4606655894547498722 194203778329869201=J by decide+kernel)
theorem aEI:cZ.rt 6 (2*6)=(4606317631232591731,4601373767755717821):=row (a1:=4603889326261607894) (a2:=4605137878724712254) PS (show gB 4603889326261607894 4605137878724712254 4610039472158183147 4605535872530812651 4606317631232591731 4610821230859962227 4601373767755717821 130278586997045038=J by decide+kernel)
theorem aEH:cZ.rt 6 (2*7)=(4601373767755717824,13829689668087367536):=row (a1:=13827261363116383702) (a2:=13828509915579488062) (jY PS) (show gB 13827261363116383702 13828509915579488062 4600257804994724948 4595754205367354452 4601373767755717824 4605877367383088320 13829689668087367536 123234365404990468=J by decide+kernel)
theorem aEG:cZ.rt 6 (2*8)=(4607084929468638487,13817826579625959737):=row (a1:=4606794571824115163) (a2:=13822272960629939973) PO (show gB 4606794571824115163 13822272960629939973 4611492094939436782 4606988495312066286 4607084929468638487 4611588529096008983 13817826579625959737 142555358773793136=J by decide+kernel)
theorem aEF:cZ.rt 6 (2*9)=(4594454542771183926,4607084929468638492):=row (a1:=13830166608678890971) (a2:=4598900923775164165) (jY PO) (show gB 13830166608678890971 4598900923775164165 4586366372650230352 4581862773022859856 4594454542771183926 4598958142398554422 4607084929468638492 169168719380752057=J by decide+kernel)
theorem YC:cZ.rt 6 (2*10)=(4605409869824231233,4603540801876750388):=row (a1:=4598900923775164166) (a2:=4606794571824115161) PN (show gB 4598900923775164166 4606794571824115161 4608489744764331970 4603986145136961474 4605409869824231233 4609913469451601729 4603540801876750388 115754404463277073=J by decide+kernel)
theorem YB:cZ.rt 6 (2*11)=(4603540801876750389,13828781906679007039):=row (a1:=13822272960629939974) (a2:=13830166608678890969) (jY PN) (show gB 13822272960629939974 13830166608678890969 4604567766871388285 4600064167244017789 4603540801876750389 4608044401504120885 13828781906679007039 171698634607167129=J by decide+kernel)
theorem YA:cZ.rt 6 (2*12)=(4606912484326125783,4597922303871901466):=row (a1:=4606118860100255153) (a2:=4602163548591158842) PL (show gB 4606118860100255153 4602163548591158842 4611154239077506776 4606650639450136280 4606912484326125783 4611416083953496279 4597922303871901466 139796236493589871=J by decide+kernel)
theorem Yz:cZ.rt 6 (2*13)=(4597922303871901466,13830284521180901591):=row (a1:=13829490896955030961) (a2:=13825535585445934650) (jY PL) (show gB 13829490896955030961 13825535585445934650 4593172890261262968 4588669290633892472 4597922303871901466 4602425903499271962 13830284521180901591 140068537301856671=J by decide+kernel)
theorem Yy:cZ.rt 6 (2*14)=(4605900952042040894,13826177882254409709):=row (a1:=4602163548591158843) (a2:=13829490896955030960) PK (show gB 4602163548591158843 13829490896955030960 4609305400968330639 4604801801340960143 4605900952042040894 4610404551669411390 13826177882254409709 123611719948231643=J by decide+kernel)
theorem Yx:cZ.rt 6 (2*15)=(4602805845399633901,4605900952042040894):=row (a1:=13825535585445934651) (a2:=4606118860100255152) (jY PK) (show gB 13825535585445934651 4606118860100255152 4602936454463390946 4598432854836020450 4602805845399633901 4607309445027004397 4605900952042040894 148180027339439531=J by decide+kernel)
def cv(a:Int):Int:=if(opC a).s =1 then-(((opC a).M *2^((opC a).e +100).toNat :Nat):Int)else(((opC a).M *2^((opC a).e +100).toNat :Nat):Int)
def okV(a b:Int):Bool:=decide ((okW a=J/\okW b=J/\(opC a).c <=1/\(opC b).c <=1/\-100<=(opC a).e /\-100<=(opC b).e)/\(-1267650600228229401496703205376<=cv a/\cv a<=1267650600228229401496703205376/\-1267650600228229401496703205376<=cv b/\cv b<=1267650600228229401496703205376)/\
 -383123885216472214589586756787577295904684780545900544<=4194304*(cv a*cv a+cv b*cv b)-4194304*(1267650600228229401496703205376*1267650600228229401496703205376)/\4194304*(cv a*cv a+cv b*cv b)-4194304*(1267650600228229401496703205376*1267650600228229401496703205376)<=383123885216472214589586756787577295904684780545900544)
def eW:Nat:=5900
def wN:Nat:=2^eW
theorem Si:((uN:Nat):Int)=302231454903657293676544*((wN:Nat):Int):=by
 unfold uN wN;rw[show eU=78+eW from rfl,Nat.pow_add,show(2:Nat)^78=302231454903657293676544 by decide,Int.natCast_mul];rfl
theorem TQ(h:okW a=J)(hc:(opC a).c <=1)(he:-100<=(opC a).e):Vl a (cv a*(wN:Int)):=by
 obtain⟨h1,h2⟩:=EH h;refine⟨h1,opC a,h2,hc,?_⟩;have:nv (opC a).M (opC a).e =(opC a).M *2^((opC a).e +100).toNat *wN:=by
  unfold nv wN;rw[Nat.mul_assoc,<-Nat.pow_add,show((opC a).e +100).toNat +eW=((opC a).e +6000).toNat by unfold eW;omega]
 have e:((nv (opC a).M (opC a).e :Nat):Int)=(((opC a).M *2^((opC a).e +100).toNat :Nat):Int)*(wN:Int):=by rw[this,Int.natCast_mul _ wN]
 unfold ov cv;rw[e];split
 ·rw[Int.neg_mul]
 ·rfl
theorem dJ(h:cZ.rt k (2*j)=(a,b))(ok:okV a b=J):∃r s,VC Vl (cZ.rt k (2*j)) r s/\In' r (4194304*(uN:Int))/\In' s (4194304*(uN:Int))/\Nr (4194304*(r*r+s*s)) (4194304*(4194304*(uN:Int)*(4194304*(uN:Int)))) ((uN:Int)*(4194304*(uN:Int))):=by
 obtain⟨⟨w1,w2,c1,c2,e1,e2⟩,⟨i1,i2,i3,i4⟩,n1,n2⟩:=of_decide_eq_true ok;rw[h];have W1:0<wN:=by unfold wN;exact Nat.pow_pos de
 have W0:0<(wN:Int):=om;refine⟨cv a*(wN:Int),cv b*(wN:Int),⟨TQ w1 c1 e1,TQ w2 c2 e2⟩,?_,?_,?_⟩
 ·have:=In'.mul (x:=cv a) (y:=(wN:Int)) (c:=(wN:Int)) ⟨i1,i2⟩ ⟨om,om⟩;rw[Si];unfold In' at*;omega
 ·have:=In'.mul (x:=cv b) (y:=(wN:Int)) (c:=(wN:Int)) ⟨i3,i4⟩ ⟨om,om⟩;rw[Si];unfold In' at*;omega
 ·rw[Si];generalize cv a=c at*
  generalize cv b=d at*
  generalize(wN:Int)=W at*
  have W1:0<=W*W:=Int.mul_nonneg om om;have m1:=Int.mul_le_mul_of_nonneg_right n1 W1;have m2:=Int.mul_le_mul_of_nonneg_right n2 W1;have f1:4194304*(c*W*(c*W)+d*W*(d*W))-4194304*(4194304*(302231454903657293676544*W)*(4194304*(302231454903657293676544*W)))=(4194304*(c*c+d*d)-4194304*(1267650600228229401496703205376*1267650600228229401496703205376))*(W*W):=by grind
  have f2:302231454903657293676544*W*(4194304*(302231454903657293676544*W))=383123885216472214589586756787577295904684780545900544*(W*W):=by grind
  unfold Nr;rw[f1,f2];exact⟨by rw[<-Int.neg_mul];exact m1,m2⟩
theorem aGd:Rts cZ Vl uN:=by
 intro k j k2 k6 hj;rcases(show k=2\/k=3\/k=4\/k=5\/k=6 by omega)with rfl|rfl|rfl|rfl|rfl
 ·obtain rfl:j=0:=om;exact dJ P8 (by decide+kernel)
 ·rcases(show j=0\/j=1 by omega)with rfl|rfl
  ·exact dJ P7 (by decide+kernel)
  ·exact dJ P6 (by decide+kernel)
 ·rcases(show j=0\/j=1\/j=2\/j=3 by omega)with rfl|rfl|rfl|rfl
  ·exact dJ P5 (by decide+kernel)
  ·exact dJ PZ (by decide+kernel)
  ·exact dJ PY (by decide+kernel)
  ·exact dJ PX (by decide+kernel)
 ·rcases(show j=0\/j=1\/j=2\/j=3\/j=4\/j=5\/j=6\/j=7 by omega)with rfl|rfl|rfl|rfl|rfl|rfl|rfl|rfl
  ·exact dJ PW (by decide+kernel)
  ·exact dJ PV (by decide+kernel)
  ·exact dJ PU (by decide+kernel)
  ·exact dJ PS (by decide+kernel)
  ·exact dJ PO (by decide+kernel)
  ·exact dJ PN (by decide+kernel)
  ·exact dJ PL (by decide+kernel)
  ·exact dJ PK (by decide+kernel)
 ·rcases(show j=0\/j=1\/j=2\/j=3\/j=4\/j=5\/j=6\/j=7\/j=8\/j=9\/j=10\/j=11\/j=12\/j=13\/j=14\/j=15 by omega)with rfl|rfl|rfl|rfl|rfl|rfl|rfl|rfl|rfl|rfl|rfl|rfl|rfl|rfl|rfl|rfl
  ·exact dJ aEO (by decide+kernel)
  ·exact dJ aEN (by decide+kernel)
  ·exact dJ aEM (by decide+kernel)
  ·exact dJ aEL (by decide+kernel)
  ·exact dJ aEK (by decide+kernel)
  ·exact dJ aEJ (by decide+kernel)
  ·exact dJ aEI (by decide+kernel)
  ·exact dJ aEH (by decide+kernel)
  ·exact dJ aEG (by decide+kernel)
  ·exact dJ aEF (by decide+kernel)
  ·exact dJ YC (by decide+kernel)
  ·exact dJ YB (by decide+kernel)
  ·exact dJ YA (by decide+kernel)
  ·exact dJ Yz (by decide+kernel)
  ·exact dJ Yy (by decide+kernel)
  ·exact dJ Yx (by decide+kernel)
end
theorem aKG{P:Prop}(h:P:=by
 have:=Int.mul_le_mul_of_nonneg_right (show(1:Int)<=N by omega) (show(0:Int)<=sN by omega);omega):P:=h
section
variable [Inhabited Ch]
theorem OO(s:Int)(M N d:Nat)(h0:2*(N*2^(d+1))<2*M+2^(d+1))(h1:2*M<2*(N*2^(d+1))+2^(d+1)):
  chosen 0 s (M/2^(d+1)) (hr M (d+1) false)=N:=by
 have hP:0<2^d:=Nat.pow_pos de;have e2:2^(d+1)=2*2^d:=by rw[Nat.pow_succ,Nat.mul_comm]
 have hd:=Nat.div_add_mod M (2^d);have hm:=Nat.mod_lt M hP;have hq:M/2^(d+1)=M/2^d/2:=by rw[Nat.pow_succ,Nat.div_div_eq_div_mul]
 unfold chosen hr up;rw[hq,Nat.add_sub_cancel];rw[e2]at h0 h1;generalize hT:M/2^d=t at*
 generalize hR:M%2^d=r at*
 generalize hPP:2^d=P at*
 --M=P*t+r,|M-2 N P| <P
 have e3:N*(2*P)=P*(2*N):=by rw[<-Nat.mul_assoc,Nat.mul_comm (N*2) P,Nat.mul_comm N 2]
 rw[e3]at h0 h1;have ht:t=2*N/\True\/t+1=2*N/\0<r:=by
  rcases Nat.lt_or_ge t (2*N)with c|c
  ·right;have c1:t+1=2*N:=by
    rcases Nat.lt_or_ge (t+1) (2*N)with k|k
    ·exfalso;have:=Nat.mul_le_mul_left P (show t+2<=2*N by omega);rw[Nat.mul_add]at this;omega
    ·omega
   refine⟨c1,?_⟩;have:P*(2*N)=P*t+P:=by rw[<-c1,Nat.mul_add,Nat.mul_one]
   omega
  ·left;refine⟨?_,trivial⟩;rcases Nat.lt_or_ge (2*N) t with k|k
   ·exfalso;have:=Nat.mul_le_mul_left P (show 2*N+1<=t by omega);rw[Nat.mul_add]at this;omega
   ·omega
 rcases ht with⟨ht,_⟩|⟨ht,hr0⟩
 ·have a1:¬t%2=1:=om;rw[if_neg a1];have a2:(0+(if r≠0\/false=J then 1 else 0):Nat)<=1:=by split<;>omega
  generalize(0+(if r≠0\/false=J then 1 else 0):Nat)=z at*
  rw[if_neg (by simp;omega)];omega
 ·have a1:t%2=1:=om;have a2:(if r≠0\/false=J then 1 else 0:Nat)=1:=if_pos (.inl om);rw[if_pos a1,a2,if_pos (by simp)];omega
theorem Lm(h:Vl c v)(h0:-1099511627776<=n)(h1:n<=1099511627776)(hn:2*v<2*(n*(4194304*uN))+4194304*uN)(hn':2*(n*(4194304*uN))<2*v+4194304*uN):tiW c=n%18446744073709551616:=by
 obtain⟨hw,o,ho,hc,rfl⟩:=h;obtain⟨fo,eo,_⟩:=oV.fin ho hc;have u0:=sG;rw[<-yZ]at hn hn';have S0:0<(sN:Int):=by rw[yZ];omega
 obtain⟨N,hN⟩:∃N:Nat,N=n.natAbs:=⟨_,rfl⟩
 --the size is near N
 have key:2*(N*sN)<2*nv o.M o.e+sN/\2*nv o.M o.e<2*(N*sN)+sN/\(N≠0->o.s=if n<0 then 1 else 0):=by
  have hv0:(0:Int)<=((nv o.M o.e:Nat):Int):=om;have cast:((N*sN:Nat):Int)=(N:Int)*(sN:Int):=Int.natCast_mul _ _;rcases Int.lt_trichotomy n 0 with c|c|c
  ·have eN:(N:Int)=-n:=om;have hp:n*(sN:Int)=-((N:Int)*(sN:Int)):=by rw[eN,Int.neg_mul,Int.neg_neg]
   have hge:(sN:Int)<=(N:Int)*(sN:Int):=by
    exact aKG
   rw[hp]at hn hn';unfold ov at hn hn';rcases fo.s with e|e
   ·rw[if_neg (by omega)]at hn hn';omega
   ·rw[if_pos e]at hn hn';exact⟨om,om,fun _=>by rw[if_pos c];exact e⟩
  ·have eN:N=0:=om;rw[c,Int.zero_mul]at hn hn';subst eN;unfold ov at hn hn';rw[Nat.zero_mul];split at hn<;>(rename_i k;first|rw[if_pos k]at hn'|rw[if_neg k]at hn')<;>exact⟨om,om,fun k=>absurd rfl k⟩
  ·have eN:(N:Int)=n:=om;have hp:n*(sN:Int)=(N:Int)*(sN:Int):=by rw[eN]
   have hge:(sN:Int)<=(N:Int)*(sN:Int):=by
    exact aKG
   rw[hp]at hn hn';unfold ov at hn hn';rcases fo.s with e|e
   ·rw[if_neg (by omega)]at hn hn';exact⟨om,om,fun _=>by rw[if_neg (by omega)];exact e⟩
   ·rw[if_pos e]at hn hn';omega
 obtain⟨k0,k1,k2⟩:=key;have hWh:aN 0 o=N:=by
  rcases Int.lt_or_le o.e 0 with c|c
  ·obtain⟨d,hd⟩:∃d,(0-o.e).toNat =d+1:=⟨(0-o.e).toNat -1,om⟩;unfold aN aW;rw[if_neg om,pO _ _ _ _ om,hd];have es:sN=2^(d+1)*2^(o.e+6000).toNat :=by
    unfold sN;rw[<-Nat.pow_add]
    congr 1
    unfold eU;omega
   have hQ:0<2^(o.e+6000).toNat :=Nat.pow_pos de;unfold nv at k0 k1;rw[es]at k0 k1;generalize 2^(o.e+6000).toNat =Q at*
   have f1:2*(N*(2^(d+1)*Q))=2*(N*2^(d+1))*Q:=by rw[<-Nat.mul_assoc N,<-Nat.mul_assoc 2]
   have f2:2*(o.M*Q)=2*o.M*Q:=by rw[Nat.mul_assoc]
   rw[f1,f2,<-Nat.add_mul]at k0 k1;exact OO o.s o.M N d (Nat.lt_of_mul_lt_mul_right k0) (Nat.lt_of_mul_lt_mul_right k1)
  ·rw[jG c];have es:nv o.M o.e=o.M*2^o.e.toNat*sN:=by
    unfold nv sN;rw[Nat.mul_assoc,<-Nat.pow_add]
    congr 2
    unfold eU;omega
   rw[es]at k0 k1;generalize o.M*2^o.e.toNat=X at*
   have p0:0<sN:=om;rcases Nat.lt_trichotomy X N with c|c|c
   ·exfalso;have:=Nat.mul_le_mul_right sN (show X+1<=N by omega);rw[Nat.add_mul]at this;omega
   ·exact c
   ·exfalso;have:=Nat.mul_le_mul_right sN (show N+1<=X by omega);rw[Nat.add_mul]at this;omega
 have hle:aN 0 o<=bG 1 o.s:=by
  rw[hWh];rcases fo.s with e|e<;>rw[e]
  ·rw[show bG 1 0=9223372036854775807 by decide];omega
  ·rw[show bG 1 1=9223372036854775808 by decide];omega
 have hT:dw 1 0 1 c (eG o.s (aN 0 o)) (yE o):=.inl ⟨_,_,_,_,_,_,o,f64,hw.2,de,de,ho,.inr (.inl ⟨hc,hle,rfl,rfl⟩)⟩;rw[DV hT,hWh];unfold eG;by_cases z:N=0
 ·rw[if_neg (fun k=>k.2 z)];omega
 ·rw[k2 z];by_cases k:n<0
  ·rw[if_pos k,if_pos ⟨rfl,z⟩];omega
  ·rw[if_neg k,if_neg (by simp)];omega
end
