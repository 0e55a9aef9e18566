import Derived.Test.YtmiekgjgpmfekaaGreatDoorA1
import Derived.Laws.Bits64b
import Derived.Laws.BitsAllLaws
import Derived.Test.YtmiekgjgpmfekaaGreatDoorRows
import Derived.WalkLawsBesides
import Derived.Deep.DeepCutAuto
import Derived.WalkSpells
import Derived.Laws.StructEq
set_option linter.all false
open Go.Proofs.Tryz
namespace Go.Proofs.YtmiekgjgpmfekaaGreatDoor
structure bZ where
 c:Int
 s:Int
 e:Int
 M:Nat
def CU(mode:Int):bZ:=⟨0,if mode=4 then 1 else 0,0,0⟩
def iI(x y:bZ):Nat × Nat:=(x.M*2^(x.e-min x.e y.e).toNat,y.M*2^(y.e-min x.e y.e).toNat)
def qG(mode:Int)(x y:bZ):bZ:=
 if x.s=y.s then⟨1,x.s,min x.e y.e,(iI x y).1 +(iI x y).2⟩
 else if(iI x y).1 =(iI x y).2 then CU mode
 else if(iI x y).2 <(iI x y).1 then⟨1,x.s,min x.e y.e,(iI x y).1 -(iI x y).2⟩
 else⟨1,y.s,min x.e y.e,(iI x y).2 -(iI x y).1⟩
def gI(mode:Int)(x y:bZ):bZ:=
 if 3<=max x.c y.c then⟨max x.c y.c,0,0,0⟩
 else if y.c<x.c then x
 else if x.c<y.c then y
 else if x.c=1 then qG mode x y
 else if x.s=y.s then x
 else if x.c=2 then⟨4,0,0,0⟩
 else CU mode
def mulS(s t:Int):Int:=if s=t then 0 else 1
def dO(x y:bZ):bZ:=
 if 3<=max x.c y.c then⟨max x.c y.c,0,0,0⟩
 else if min x.c y.c=0/\max x.c y.c=2 then⟨4,mulS x.s y.s,x.e+y.e,0⟩
 else if min x.c y.c=0 then⟨0,mulS x.s y.s,x.e+y.e,0⟩
 else if max x.c y.c=2 then⟨2,mulS x.s y.s,x.e+y.e,0⟩
 else⟨1,mulS x.s y.s,x.e+y.e,x.M*y.M⟩
def jQ(x:bZ):bZ:={x with s:=1-x.s}
def bW(p mn mx one inf sg nan mode:Int)(o:bZ)(Z fl:Int):Prop:=
 o.c=0/\Z=sw o.s sg 0/\fl=0\/
 o.c=1/\(∃z,aO p mn mx one inf mode o.s o.M o.e false z fl/\Z=sw o.s sg z)\/
 o.c=2/\Z=sw o.s sg inf/\fl=0\/
 o.c=3/\Z=nan/\fl=0\/
 o.c=4/\Z=nan/\fl=1
theorem bW.one{p mn mx one inf sg nan mode:Int}{o:bZ}{Z fl Z' oQ:Int}(h:bW p mn mx one inf sg nan mode o Z fl)(h':bW p mn mx one inf sg nan mode o Z' oQ):Z=Z'/\fl=oQ:=by
 rcases h with⟨a,rfl,rfl⟩|⟨a,z,hz,rfl⟩|⟨a,rfl,rfl⟩|⟨a,rfl,rfl⟩|⟨a,rfl,rfl⟩<;>
 rcases h' with⟨a',rfl,rfl⟩|⟨a',z',hz',rfl⟩|⟨a',rfl,rfl⟩|⟨a',rfl,rfl⟩|⟨a',rfl,rfl⟩<;>
 first|(exfalso;omega)|exact⟨rfl,rfl⟩|(obtain⟨rfl,rfl⟩:=aO.one hz hz';exact⟨rfl,rfl⟩)
theorem aO.fl{p mn mx one inf mode sign:Int}{M:Nat}{e:Int}{rest:Bool}{z fl:Int}(h:aO p mn mx one inf mode sign M e rest z fl):fl=0\/fl=16\/fl=20\/fl=24:=by
 obtain⟨top,E,r,r2,hf,h1,h2,h3,h4,h5,hc⟩:=h;omega
theorem rO(X k:Nat)(e q:Int)(h:e+k+1<=q):
  aW X e q=aW (X/2^k) (e+k) q/\aJ X e q false=aJ (X/2^k) (e+k) q (decide (X%2^k≠0)):=by
 obtain⟨d,hd⟩:∃d:Nat,q-(e+k)=(d:Int):=⟨(q-(e+k)).toNat,om⟩;have hd1:1<=d:=om;have e1:(q-e).toNat =k+d:=om;have e2:(q-(e+k)).toNat =d:=om;unfold aW aJ;rw[if_neg om,if_neg om,if_neg om,if_neg om,e1,e2];have a1:X/2^(k+d)=X/2^k/2^d:=by rw[Nat.pow_add,Nat.div_div_eq_div_mul]
 refine⟨a1,?_⟩;unfold hr;have a2:X/2^(k+d-1)=X/2^k/2^(d-1):=by rw[show k+d-1=k+(d-1) by omega,Nat.pow_add,Nat.div_div_eq_div_mul]
 have a3:X%2^(k+d-1)=X%2^k+2^k*(X/2^k%2^(d-1)):=by rw[show k+d-1=k+(d-1) by omega,Nat.pow_add,Nat.mod_mul]
 rw[a2,a3];have hp:0<2^k:=Nat.pow_pos de;have a4:(X%2^k+2^k*(X/2^k%2^(d-1))≠0\/false=true)↔(X/2^k%2^(d-1)≠0\/decide (X%2^k≠0)=true):=by
  generalize X/2^k%2^(d-1)=R;generalize X%2^k=S;rcases Nat.eq_zero_or_pos R with rfl|hR
  ·simp
  ·have:0<2^k*R:=Nat.mul_pos hp hR;simp;omega
 simp only[a4]
theorem pK(M:Nat)(e q:Int)(h:q<=e):aJ M e q false=0:=by unfold aJ;rw[if_pos h];rfl
theorem pO(M:Nat)(e q:Int)(rest:Bool)(h:¬q<=e):aJ M e q rest=hr M (q-e).toNat rest:=by unfold aJ;rw[if_neg h]
theorem Ic(M k:Nat)(e q:Int):aW (M*2^k) (e-k) q=aW M e q/\aJ (M*2^k) (e-k) q false=aJ M e q false:=by
 have hp:0<2^k:=Nat.pow_pos de;by_cases h:e+1<=q
 ·have:=rO (M*2^k) k (e-k) q om;rw[Nat.mul_div_cancel _ hp,Nat.mul_mod_left,show e-k+k=e by omega]at this;exact this
 ·by_cases h1:q<=e-k
  ·rw[pK _ _ _ h1,pK _ _ _ (show q<=e by omega)];unfold aW;rw[if_pos h1,if_pos (by omega)];refine⟨?_,rfl⟩;rw[Nat.mul_assoc,<-Nat.pow_add]
   congr 2
   omega
  ·rw[pO _ _ _ _ h1,pK _ _ _ (show q<=e by omega)];unfold aW;rw[if_neg h1,if_pos (by omega)];obtain⟨d,hd⟩:∃d:Nat,(q-(e-k)).toNat =d:=⟨_,rfl⟩;obtain⟨j,hj⟩:∃j:Nat,(e-q).toNat =j:=⟨_,rfl⟩;rw[hd,hj];have hk:k=j+d:=om;subst hk;have e1:M*2^(j+d)=M*2^j*2^d:=by rw[Nat.pow_add,Nat.mul_assoc]
   rw[e1,Nat.mul_div_cancel _ (Nat.pow_pos de)];refine⟨rfl,?_⟩;exact zq _ d om (Nat.mul_mod_left _ _)
theorem EK(M k:Nat)(h:0<M):nb (M*2^k)=nb M+k:=by
 have hp:0<2^k:=Nat.pow_pos de;have:=zl (M*2^k) k (by rw[Nat.mul_div_cancel _ hp];exact h);rw[Nat.mul_div_cancel _ hp]at this;omega
theorem aO.scale{p mn mx one inf mode sign:Int}{M:Nat}{e z fl:Int}(k:Nat)(hM:0<M):aO p mn mx one inf mode sign (M*2^k) (e-k) false z fl↔aO p mn mx one inf mode sign M e false z fl:=by
 unfold aO;have hn:=EK M k hM;have e1:((nb (M*2^k):Nat):Int)+(e-k)-1=nb M+e-1:=by rw[hn];omega
 rw[e1];simp only[(Ic M k e _).1,(Ic M k e _).2]
theorem aO.trunc{p mn mx one inf mode sign:Int}{X:Nat}{e z fl:Int}(k:Nat)(hX:0<X/2^k)(hp:0<=p)(hn:X%2^k≠0->p+2<=(nb (X/2^k):Int)):
  aO p mn mx one inf mode sign (X/2^k) (e+k) (decide (X%2^k≠0)) z fl↔aO p mn mx one inf mode sign X e false z fl:=by
 by_cases hc:X%2^k=0
 ·have e1:X=X/2^k*2^k:=by have:=Nat.div_add_mod X (2^k);rw[hc,Nat.mul_comm]at this;omega
  have:=aO.scale (p:=p) (mn:=mn) (mx:=mx) (one:=one) (inf:=inf) (mode:=mode) (sign:=sign) (e:=e+k) (z:=z) (fl:=fl) k hX;rw[<-e1,show e+k-k=e by omega]at this;rw[this];simp[hc]
 ·have hn':=hn hc;have hs:=zl X k hX;constructor
  ·rintro⟨top,E,r,r2,hf,h1,h2,h3,h4,h5,h6⟩;have t1:=rO X k e (E-p+1) om;have t2:=rO X k e (top-p+1) om;refine⟨top,E,r,r2,hf,om,h2,?_,?_,?_,h6⟩
   ·rw[t1.2];exact h3
   ·rw[t1.1];exact h4
   ·rw[t2.1,t2.2];exact h5
  ·rintro⟨top,E,r,r2,hf,h1,h2,h3,h4,h5,h6⟩;have t1:=rO X k e (E-p+1) om;have t2:=rO X k e (top-p+1) om;refine⟨top,E,r,r2,hf,om,h2,?_,?_,?_,h6⟩
   ·rw[<-t1.2];exact h3
   ·rw[<-t1.1];exact h4
   ·rw[<-t2.1,<-t2.2];exact h5
open Go.RowKit
def lu(h l:Int)(k:Nat):Int:=(h*18446744073709551616+l)*2^k%340282366920938463463374607431768211456/18446744073709551616
def lq(h l:Int)(k:Nat):Int:=(h*18446744073709551616+l)*2^k%340282366920938463463374607431768211456%18446744073709551616
def je(h l:Int)(k:Nat):Int:=(h*18446744073709551616+l)/2^k/18446744073709551616
def iF(h l:Int)(k:Nat):Int:=(h*18446744073709551616+l)/2^k%18446744073709551616
def iR(h l:Int)(k:Nat):Bool:=decide (¬(h*18446744073709551616+l)%2^k=0)
namespace Sh
theorem split(k:Nat)(h:k<=64):2^k*2^(64-k)=18446744073709551616:=by
 rw[<-Nat.pow_add,show k+(64-k)=64 by omega]
theorem pos(k:Nat):0<2^k:=Nat.pow_pos de
theorem Y_(A0 A1 P Q:Nat)(hPQ:P*Q=18446744073709551616)(hP:0<P)(h0:A0<18446744073709551616):
  A1*P%18446744073709551616=P*(A1%Q)/\A0/Q<P/\A1*P%18446744073709551616+A0/Q<18446744073709551616/\
  (A1*18446744073709551616+A0)*P%340282366920938463463374607431768211456/18446744073709551616=A1*P%18446744073709551616+A0/Q/\
  (A1*18446744073709551616+A0)*P%340282366920938463463374607431768211456%18446744073709551616=A0*P%18446744073709551616:=by
 have hQ:0<Q:=by
  rcases Nat.eq_zero_or_pos Q with h|h
  ·rw[h]at hPQ;omega
  ·exact h
 have e1:A1*P%18446744073709551616=P*(A1%Q):=by
  have:=Nat.mul_mod_mul_left P A1 Q;rw[hPQ]at this;rw[Nat.mul_comm A1 P,this]
 have e2:A0*P/18446744073709551616=A0/Q:=by
  have:=Nat.mul_div_mul_left A0 Q hP;rw[hPQ]at this;rw[Nat.mul_comm A0 P,this]
 have e3:A0/Q<P:=by
  apply Nat.div_lt_of_lt_mul;rw[Nat.mul_comm];omega
 have e4:P*(A1%Q)+P<=18446744073709551616:=by
  have:A1%Q+1<=Q:=Nat.mod_lt _ hQ;have:=Nat.mul_le_mul_left P this;rw[hPQ,Nat.mul_add,Nat.mul_one]at this;exact this
 have e5:(A1*18446744073709551616+A0)*P=A1*P*18446744073709551616+A0*P:=by
  rw[Nat.add_mul,Nat.mul_right_comm]
 rw[e5];refine⟨e1,e3,om,?_,?_⟩
 ·generalize A1*P=U at*
  generalize A0*P=T at*
  generalize A0/Q=D at*
  generalize P*(A1%Q)=C at*
  omega
 ·generalize A1*P=U at*
  generalize A0*P=T at*
  omega
theorem lw(A0 A1 P K:Nat):(A1*K+A0)*(K*P)=A1*P*(K*K)+A0*P*K:=by
 rw[Nat.add_mul];simp only[Nat.mul_comm,Nat.mul_left_comm]
theorem VA(A0 A1 P:Nat):
  (A1*18446744073709551616+A0)*(18446744073709551616*P)%340282366920938463463374607431768211456/18446744073709551616=A0*P%18446744073709551616/\
  (A1*18446744073709551616+A0)*(18446744073709551616*P)%340282366920938463463374607431768211456%18446744073709551616=0:=by
 have e5:=lw A0 A1 P 18446744073709551616;rw[e5];generalize A1*P=U at*
 generalize A0*P=T at*
 omega
theorem Vb(A0 A1 P Q:Nat)(hPQ:P*Q=18446744073709551616)(hP:0<P)(h0:A0<18446744073709551616):
  A1*Q%18446744073709551616=Q*(A1%P)/\A0/P<Q/\A1*Q%18446744073709551616+A0/P<18446744073709551616/\
  (A1*18446744073709551616+A0)/P/18446744073709551616=A1/P/\
  (A1*18446744073709551616+A0)/P%18446744073709551616=A1*Q%18446744073709551616+A0/P:=by
 have hQ:0<Q:=by
  rcases Nat.eq_zero_or_pos Q with h|h
  ·rw[h]at hPQ;omega
  ·exact h
 have hQP:Q*P=18446744073709551616:=by rw[Nat.mul_comm];exact hPQ
 have e1:A1*Q%18446744073709551616=Q*(A1%P):=by
  have:=Nat.mul_mod_mul_left Q A1 P;rw[hQP]at this;rw[Nat.mul_comm A1 Q,this]
 have e2:A1*Q/18446744073709551616=A1/P:=by
  have:=Nat.mul_div_mul_left A1 P hQ;rw[hQP]at this;rw[Nat.mul_comm A1 Q,this]
 have e3:A0/P<Q:=by
  apply Nat.div_lt_of_lt_mul;omega
 have e4:Q*(A1%P)+Q<=18446744073709551616:=by
  have:A1%P+1<=P:=Nat.mod_lt _ hP;have:=Nat.mul_le_mul_left Q this;rw[hQP,Nat.mul_add,Nat.mul_one]at this;exact this
 have e5:(A1*18446744073709551616+A0)/P=A1*Q+A0/P:=by
  have:A1*18446744073709551616=P*(A1*Q):=by rw[<-hPQ,Nat.mul_left_comm]
  rw[this,Nat.mul_add_div hP]
 rw[e5];refine⟨e1,e3,om,?_,?_⟩
 ·generalize A1*Q=U at*
  generalize A0/P=D at*
  generalize A1/P=E at*
  generalize Q*(A1%P)=C at*
  omega
 ·generalize A1*Q=U at*
  generalize A0/P=D at*
  generalize Q*(A1%P)=C at*
  omega
theorem Ak(k:Nat)(c d:Nat)(h:d<2^k):(2^k*c)|||d=2^k*c+d:=(Nat.two_pow_add_eq_or_of_lt h c).symm
end Sh
theorem UA(a0 a1:Int)(k:Nat)(h1:k<64)(ha0:0<=a0)(ha1:0<=a1)(CW:a0<18446744073709551616)(E_:a1<18446744073709551616):
  IntKind.u64.wrap (a0*2^k)=lq a1 a0 k/\bits .or .u64 (IntKind.u64.wrap (a1*2^k)) (a0/2^(64-k))=lu a1 a0 k:=by
 obtain⟨A0,rfl⟩:=Int.eq_ofNat_of_zero_le ha0;obtain⟨A1,rfl⟩:=Int.eq_ofNat_of_zero_le ha1;have hPQ:=Sh.split k om;obtain⟨f1,f2,f3,f4,f5⟩:=Sh.Y_ A0 A1 (2^k) (2^(64-k)) hPQ (Sh.pos k) om;have c0:(A0:Int)*2^k=((A0*2^k:Nat):Int):=by push_cast;rfl
 have c1:(A1:Int)*2^k=((A1*2^k:Nat):Int):=by push_cast;rfl
 have c2:(A0:Int)/2^(64-k)=((A0/2^(64-k):Nat):Int):=by push_cast;rfl
 have c3:((A1:Int)*18446744073709551616+A0)*2^k=(((A1*18446744073709551616+A0)*2^k:Nat):Int):=by rw[show(A1:Int)*18446744073709551616+A0=((A1*18446744073709551616+A0:Nat):Int) by omega];generalize A1*18446744073709551616+A0=V;push_cast;rfl
 unfold lq lu;rw[c0,c1,c2,c3,IntKind.wrap_u64,IntKind.wrap_u64];constructor
 ·have:((A0*2^k:Nat):Int)%18446744073709551616=((A0*2^k%18446744073709551616:Nat):Int):=om;rw[this,<-f5];omega
 ·have:((A1*2^k:Nat):Int)%18446744073709551616=((A1*2^k%18446744073709551616:Nat):Int):=om;rw[this,bits_or_u64_nat _ _ om om,f1,Sh.Ak k _ _ f2,<-f1,<-f4];omega
theorem UC(a0 a1:Int)(j k:Nat)(hk:k=64+j)(ha0:0<=a0)(ha1:0<=a1):
  IntKind.u64.wrap (a0*2^j)=lu a1 a0 k/\0=lq a1 a0 k:=by
 obtain⟨A0,rfl⟩:=Int.eq_ofNat_of_zero_le ha0;obtain⟨A1,rfl⟩:=Int.eq_ofNat_of_zero_le ha1;have e:2^k=18446744073709551616*2^j:=by rw[hk,Nat.pow_add]
 obtain⟨f1,f2⟩:=Sh.VA A0 A1 (2^j);have c0:(A0:Int)*2^j=((A0*2^j:Nat):Int):=by push_cast;rfl
 have c3:((A1:Int)*18446744073709551616+A0)*2^k=(((A1*18446744073709551616+A0)*2^k:Nat):Int):=by rw[show(A1:Int)*18446744073709551616+A0=((A1*18446744073709551616+A0:Nat):Int) by omega];generalize A1*18446744073709551616+A0=V;push_cast;rfl
 unfold lq lu;rw[c0,c3,IntKind.wrap_u64,e];omega
theorem Ux(a0 a1:Int)(k:Nat)(h1:k<64)(ha0:0<=a0)(ha1:0<=a1)(CW:a0<18446744073709551616)(E_:a1<18446744073709551616):
  bits .or .u64 (a0/2^k) (IntKind.u64.wrap (a1*2^(64-k)))=iF a1 a0 k/\a1/2^k=je a1 a0 k:=by
 obtain⟨A0,rfl⟩:=Int.eq_ofNat_of_zero_le ha0;obtain⟨A1,rfl⟩:=Int.eq_ofNat_of_zero_le ha1;have hPQ:=Sh.split k om;obtain⟨f1,f2,f3,f4,f5⟩:=Sh.Vb A0 A1 (2^k) (2^(64-k)) hPQ (Sh.pos k) om;have c0:(A0:Int)/2^k=((A0/2^k:Nat):Int):=by push_cast;rfl
 have c1:(A1:Int)*2^(64-k)=((A1*2^(64-k):Nat):Int):=by push_cast;rfl
 have c2:(A1:Int)/2^k=((A1/2^k:Nat):Int):=by push_cast;rfl
 have c3:((A1:Int)*18446744073709551616+A0)/2^k=(((A1*18446744073709551616+A0)/2^k:Nat):Int):=by rw[show(A1:Int)*18446744073709551616+A0=((A1*18446744073709551616+A0:Nat):Int) by omega];generalize A1*18446744073709551616+A0=V;push_cast;rfl
 unfold iF je;rw[c0,c1,c2,c3,IntKind.wrap_u64];constructor
 ·have:((A1*2^(64-k):Nat):Int)%18446744073709551616=((A1*2^(64-k)%18446744073709551616:Nat):Int):=om;rw[this,bits_or_u64_nat _ _ om om,Nat.or_comm,f1,Sh.Ak _ _ _ f2,<-f1,<-f5];omega
 ·rw[<-f4];omega
theorem Uy(a0 a1:Int)(j k:Nat)(hk:k=64+j)(ha0:0<=a0)(ha1:0<=a1)(CW:a0<18446744073709551616)(E_:a1<18446744073709551616):
  a1/2^j=iF a1 a0 k/\0=je a1 a0 k:=by
 obtain⟨A0,rfl⟩:=Int.eq_ofNat_of_zero_le ha0;obtain⟨A1,rfl⟩:=Int.eq_ofNat_of_zero_le ha1;have e:2^k=18446744073709551616*2^j:=by rw[hk,Nat.pow_add]
 have c2:(A1:Int)/2^j=((A1/2^j:Nat):Int):=by push_cast;rfl
 have c3:((A1:Int)*18446744073709551616+A0)/2^k=(((A1*18446744073709551616+A0)/2^k:Nat):Int):=by rw[show(A1:Int)*18446744073709551616+A0=((A1*18446744073709551616+A0:Nat):Int) by omega];generalize A1*18446744073709551616+A0=V;push_cast;rfl
 unfold iF je;rw[c2,c3,e,<-Nat.div_div_eq_div_mul];have e1:(A1*18446744073709551616+A0)/18446744073709551616=A1:=om;rw[e1];have:=Nat.div_le_self A1 (2^j);generalize A1/2^j=D at*
 omega
theorem aGa(h l:Int)(k:Nat):(h*18446744073709551616+l)*2^(k+1)%340282366920938463463374607431768211456=2*((h*18446744073709551616+l)*2^k%340282366920938463463374607431768211456)%340282366920938463463374607431768211456:=by
 rw[Int.pow_succ,<-Int.mul_assoc];generalize(h*18446744073709551616+l)*2^k=T;omega
theorem LK(h l:Int)(k:Nat):(h*18446744073709551616+l)/2^(k+1)=(h*18446744073709551616+l)/2^k/2:=by
 rw[Int.pow_succ,Int.ediv_ediv_of_nonneg (Int.pow_nonneg de)]
def bnd(n:Int):Int:=if n<0 then 0 else if 128<n then 128 else n
open Go.RowKit
theorem Iw{w:World}{o:Obj}{t:TypeId}{x x' y y':Int}(h1:x=x')(h2:y=y'):(w.alloc (.cells #[.int .u64 x,.int .u64 y] t)).alloc o=(w.alloc (.cells #[.int .u64 x',.int .u64 y'] t)).alloc o:=by rw[h1,h2]
set_option maxHeartbeats 40000000
theorem aDy{P:Prop}(h:P:=by
 go_wp2_with (go_at_call 220;refine(H _).mono ?_;rintro e w' ⟨rfl,rfl⟩);clear H;refine wp_loop_rounds 3 ?_;exact SA):P:=h
theorem SA{P:Prop}(h:P:=by
 rw[rounds_succ];go_wp2;go_returns;exact⟨Ew (HM.out.1) (HM.out.2),⟨by go_grown,by go_grown⟩⟩):P:=h
theorem nU(n:Int)(w:World):
  CT 220 #[.int .i64 n] w fun e w'=>e=.returned (.int .i64 (bnd n))/\w'=w:=by
 go_enter func220,ntmps220;go_wp2;all_goals go_returns
 all_goals (refine⟨?_,rfl⟩;refine bJ ?_;refine congrArg (Value.int IntKind.i64) ?_;unfold bnd;(repeat' split)<;>omega)
theorem aBH(a0 a1 n:Int)(k:Nat)(hn:bnd n=(k:Int))(h1:k<64)(ha0:0<=a0)(ha1:0<=a1)(CW:a0<18446744073709551616)(E_:a1<18446744073709551616)(w:World):
  QR 201 #[aG a0 a1,.int .i64 n] w (aG (lq a1 a0 k) (lu a1 a0 k)):=by
 have HM:Hid (_/\_):=UA a0 a1 k h1 ha0 ha1 CW E_;have H:=nU n;rw[hn]at H;have hs:(k:Int)/64=0:=om;have hs':(k:Int)%64=k:=om;clear hn;go_enter func201,ntmps201;go_wp2_with (go_at_call 220;refine(H _).mono ?_;rintro e w' ⟨rfl,rfl⟩);clear H;refine wp_loop_rounds 3 ?_;rw[rounds_succ];go_wp2;rw[rounds_succ];go_wp2;go_region;go_wp2;exact SA
theorem Za(a0 a1 n:Int)(k:Nat)(j:Nat)(hn:bnd n=(k:Int))(hk:k=64+j)(hj:j<64)(ha0:0<=a0)(ha1:0<=a1)(CW:a0<18446744073709551616)(E_:a1<18446744073709551616)(w:World):
  QR 201 #[aG a0 a1,.int .i64 n] w (aG (lq a1 a0 k) (lu a1 a0 k)):=by
 have HM:Hid (_/\_):=UC a0 a1 j k hk ha0 ha1;have H:=nU n;rw[hn]at H;have hs:(k:Int)/64=1:=om;have hs':(k:Int)%64=j:=om;clear hk;clear hn;go_enter func201,ntmps201;go_wp2_with (go_at_call 220;refine(H _).mono ?_;rintro e w' ⟨rfl,rfl⟩);clear H;refine wp_loop_rounds 3 ?_;rw[rounds_succ];go_wp2;rw[rounds_succ];go_wp2;go_returns;exact⟨Ew (HM.out.2) (HM.out.1),⟨by go_grown,by go_grown⟩⟩
theorem Yu(a0 a1 n:Int)(k:Nat)(hn:bnd n=(k:Int))(h1:k<64)(ha0:0<=a0)(ha1:0<=a1)(CW:a0<18446744073709551616)(E_:a1<18446744073709551616)(w:World):
  QR 211 #[aG a0 a1,.int .i64 n] w (aG (iF a1 a0 k) (je a1 a0 k)):=by
 have HM:Hid (_/\_):=Ux a0 a1 k h1 ha0 ha1 CW E_;have H:=nU n;rw[hn]at H;have hs:(k:Int)/64=0:=om;have hs':(k:Int)%64=k:=om;clear hn;go_enter func211,ntmps211;go_wp2_with (go_at_call 220;refine(H _).mono ?_;rintro e w' ⟨rfl,rfl⟩);clear H;refine wp_loop_rounds 3 ?_;rw[rounds_succ];go_wp2;go_region;go_wp2;rw[rounds_succ];go_wp2;exact SA
theorem Vd(a0 a1 n:Int)(k:Nat)(j:Nat)(hn:bnd n=(k:Int))(hk:k=64+j)(hj:j<64)(ha0:0<=a0)(ha1:0<=a1)(CW:a0<18446744073709551616)(E_:a1<18446744073709551616)(w:World):
  QR 211 #[aG a0 a1,.int .i64 n] w (aG (iF a1 a0 k) (je a1 a0 k)):=by
 have HM:Hid (_/\_):=Uy a0 a1 j k hk ha0 ha1 CW E_;have H:=nU n;rw[hn]at H;have hs:(k:Int)/64=1:=om;have hs':(k:Int)%64=j:=om;clear hk;clear hn;go_enter func211,ntmps211;go_wp2_with (go_at_call 220;refine(H _).mono ?_;rintro e w' ⟨rfl,rfl⟩);clear H;refine wp_loop_rounds 3 ?_;rw[rounds_succ];go_wp2;exact SA
theorem aA9(a0 a1:Int)(ha0:0<=a0)(ha1:0<=a1):0=lq a1 a0 128/\0=lu a1 a0 128:=by
 have e:(2:Int)^128=340282366920938463463374607431768211456:=de;unfold lq lu;rw[e];omega
theorem aA6(a0 a1:Int)(ha0:0<=a0)(ha1:0<=a1)(CW:a0<18446744073709551616)(E_:a1<18446744073709551616):0=iF a1 a0 128/\0=je a1 a0 128:=by
 have e:(2:Int)^128=340282366920938463463374607431768211456:=de;unfold iF je;rw[e];omega
theorem Zb(a0 a1 n:Int)(k:Nat)(hn:bnd n=(k:Int))(hk:k=128)(ha0:0<=a0)(ha1:0<=a1)(CW:a0<18446744073709551616)(E_:a1<18446744073709551616)(w:World):
  QR 201 #[aG a0 a1,.int .i64 n] w (aG (lq a1 a0 k) (lu a1 a0 k)):=by
 have HM:Hid (_/\_):=aA9 a0 a1 ha0 ha1;have H:=nU n;rw[hn]at H;subst hk;clear hn;go_enter func201,ntmps201;exact aDy
theorem Ve(a0 a1 n:Int)(k:Nat)(hn:bnd n=(k:Int))(hk:k=128)(ha0:0<=a0)(ha1:0<=a1)(CW:a0<18446744073709551616)(E_:a1<18446744073709551616)(w:World):
  QR 211 #[aG a0 a1,.int .i64 n] w (aG (iF a1 a0 k) (je a1 a0 k)):=by
 have HM:Hid (_/\_):=aA6 a0 a1 ha0 ha1 CW E_;have H:=nU n;rw[hn]at H;subst hk;clear hn;go_enter func211,ntmps211;exact aDy
theorem MV(a0 a1 n:Int)(ha0:0<=a0)(ha1:0<=a1)(CW:a0<18446744073709551616)(E_:a1<18446744073709551616)(w:World):
  QR 201 #[aG a0 a1,.int .i64 n] w (aG (lq a1 a0 (bnd n).toNat) (lu a1 a0 (bnd n).toNat)):=by
 have hb:0<=bnd n/\bnd n<=128:=by unfold bnd;(repeat' split)<;>omega
 obtain⟨k,hk⟩:=Int.eq_ofNat_of_zero_le hb.1;have ek:(bnd n).toNat =k:=om;rw[ek];rcases Nat.lt_or_ge k 64 with h|h
 ·exact aBH a0 a1 n k hk h ha0 ha1 CW E_ w
 ·rcases Nat.lt_or_ge k 128 with h'|h'
  ·exact Za a0 a1 n k (k-64) hk om om ha0 ha1 CW E_ w
  ·exact Zb a0 a1 n k hk om ha0 ha1 CW E_ w
theorem Vf(a0 a1 n:Int)(ha0:0<=a0)(ha1:0<=a1)(CW:a0<18446744073709551616)(E_:a1<18446744073709551616)(w:World):
  QR 211 #[aG a0 a1,.int .i64 n] w (aG (iF a1 a0 (bnd n).toNat) (je a1 a0 (bnd n).toNat)):=by
 have hb:0<=bnd n/\bnd n<=128:=by unfold bnd;(repeat' split)<;>omega
 obtain⟨k,hk⟩:=Int.eq_ofNat_of_zero_le hb.1;have ek:(bnd n).toNat =k:=om;rw[ek];rcases Nat.lt_or_ge k 64 with h|h
 ·exact Yu a0 a1 n k hk h ha0 ha1 CW E_ w
 ·rcases Nat.lt_or_ge k 128 with h'|h'
  ·exact Vd a0 a1 n k (k-64) hk om om ha0 ha1 CW E_ w
  ·exact Ve a0 a1 n k hk om ha0 ha1 CW E_ w
theorem yH(a0 a1:Int)(w:World):
  CT 202 #[aG a0 a1] w fun e w'=>e=.returned (aG a1 a0)/\∃c1 c2:Array Value,w'=(w.alloc (.cells c1 226)).alloc (.cells c2 131):=by
 go_enter func202,ntmps202;go_wp2;go_returns;exact⟨rfl,_,_,rfl⟩
theorem mD(a0 a1:Int)(w:World):
  CT 200 #[aG a1 a0] w fun e w'=>e=.returned (aG a0 a1)/\∃c1 c2:Array Value,w'=(w.alloc (.cells c1 131)).alloc (.cells c2 226):=by
 go_enter func200,ntmps200;go_wp2;go_returns;exact⟨rfl,_,_,rfl⟩
theorem RV(a0 a1:Int)(w:World):
  QR 202 #[aG a0 a1] w (aG a1 a0):=by
 refine(yH a0 a1 w).mono ?_;rintro e w' ⟨rfl,c1,c2,rfl⟩;exact⟨rfl,kr⟩
def bG(kind s:Int):Nat:=
 if kind=0 then(if s=1 then 2147483648 else 2147483647)
 else if kind=1 then(if s=1 then 9223372036854775808 else 9223372036854775807)
 else if kind=2 then(if s=1 then 0 else 4294967295)
 else if kind=3 then(if s=1 then 0 else 18446744073709551615)
 else 0
def cu(kind w:Int):Int:=if(kind=0\/kind=1)/\9223372036854775808<=w then 1 else 0
def d_(kind w:Int):Nat:=if(kind=0\/kind=1)/\9223372036854775808<=w then(18446744073709551616-w).toNat else w.toNat
theorem D8(kind w:Int):cu kind w=0\/cu kind w=1:=by unfold cu;split<;>simp
theorem vY(kind w:Int)(h0:0<=w)(h1:w<18446744073709551616):d_ kind w<18446744073709551616:=by unfold d_;split<;>omega
def dZ(kind w:Int):Bool:=decide ((0<=kind/\kind<=3)/\d_ kind w<=bG kind (cu kind w))
def qB(a b:Int):Int:=if a<b then-1 else if b<a then 1 else 0
theorem zH{a b:Int}(h:a<b):qB a b=-1:=by unfold qB;rw[if_pos h]
theorem zI{a b:Int}(h:b<a):qB a b=1:=by unfold qB;rw[if_neg om,if_pos h]
theorem sW{a b:Int}(h:a=b):qB a b=0:=by unfold qB;rw[if_neg om,if_neg (by omega)]
theorem AY(a:Int):qB a a=0:=sW rfl
theorem aHH(a b:Int):qB a b=-1\/qB a b=0\/qB a b=1:=by unfold qB;split<;>(try split)<;>omega
theorem aFS(a b:Int):qB b a=-qB a b:=by unfold qB;split<;>split<;>(try split)<;>omega
def or3(a b c:Int):Int:=if a≠0 then a else if b≠0 then b else c
theorem nK(a b c d:Int)(w:World):(Op.equalIn 10000 131 (aG a b) (aG c d)).run Tryz.prog w=.ok (a==c&&b==d) w:=by
 have u3:=Tryz.underlying33;have a3:=Tryz.isAgg33;have z3:=Tryz.sizeOf33;have hS:Tryz.prog.underlying 131=some (.struct (Tryz.prog.fieldsOf 131)):=by kernel_rfl
 rw[show(10000:Nat)=9999+1 from rfl,run_equalIn_agg w 9999 131 _ _ hS (by kernel_rfl)];simp only[Program.fieldsOf,Tryz.underlying131];go_simp;by_cases h1:a=c<;>by_cases h2:b=d<;>simp[h1,h2]
