import Derived.Test.YthoelefkjpjhfaaGreatDoorA1
import Derived.Laws.Bits64b
import Derived.Laws.BitsAllLaws
import Derived.Test.YthoelefkjpjhfaaGreatDoorRows
import Derived.WalkLawsBesides
import Derived.Deep.DeepCutAuto
import Derived.WalkSpells
import Derived.Laws.Rows
import Derived.Laws.StructEq
set_option linter.all false
open Go.Value renaming int → J
open Go.IntKind renaming u64 → Y
open Go.Proofs.Tryz
namespace Go.Proofs.YthoelefkjpjhfaaGreatDoor
structure dM where
 c:Int
 s:Int
 e:Int
 M:Nat
def Pg(aj:Int):dM:=⟨0,if aj=4 then 1 else 0,0,0⟩
def mM(x y:dM):Nat × Nat:=(x.M*2^(x.e-min x.e y.e).toNat,y.M*2^(y.e-min x.e y.e).toNat)
def xC(aj:Int)(x y:dM):dM:=
 if x.s=y.s then⟨1,x.s,min x.e y.e,(mM x y).1 +(mM x y).2⟩
 else if(mM x y).1 =(mM x y).2 then Pg aj
 else if(mM x y).2 <(mM x y).1 then⟨1,x.s,min x.e y.e,(mM x y).1 -(mM x y).2⟩
 else⟨1,y.s,min x.e y.e,(mM x y).2 -(mM x y).1⟩
def jy(aj:Int)(x y:dM):dM:=
 if 3<=max x.c y.c then⟨max x.c y.c,0,0,0⟩
 else if y.c<x.c then x
 else if x.c<y.c then y
 else if x.c=1 then xC aj x y
 else if x.s=y.s then x
 else if x.c=2 then⟨4,0,0,0⟩
 else Pg aj
def mulS(s t:Int):Int:=if s=t then 0 else 1
def bZ(x y:dM):dM:=
 if 3<=max x.c y.c then⟨max x.c y.c,0,0,0⟩
 else if min x.c y.c=0/\max x.c y.c=2 then⟨4,mulS x.s y.s,x.e+y.e,0⟩
 else if min x.c y.c=0 then⟨0,mulS x.s y.s,x.e+y.e,0⟩
 else if max x.c y.c=2 then⟨2,mulS x.s y.s,x.e+y.e,0⟩
 else⟨1,mulS x.s y.s,x.e+y.e,x.M*y.M⟩
def xY(x:dM):dM:={x with s:=1-x.s}
def bY(p mn mx one aI sg nan aj:Int)(o:dM)(Z fl:Int):Prop:=
 o.c=0/\Z=sw o.s sg 0/\fl=0\/
 o.c=1/\(∃z,bH p mn mx one aI aj o.s o.M o.e false z fl/\Z=sw o.s sg z)\/
 o.c=2/\Z=sw o.s sg aI/\fl=0\/
 o.c=3/\Z=nan/\fl=0\/
 o.c=4/\Z=nan/\fl=1
def bY.one{p mn mx one aI sg nan aj:Int}{o:dM}{Z fl Z' oP:Int}(h:bY p mn mx one aI sg nan aj o Z fl)(h':bY p mn mx one aI sg nan aj o Z' oP):Z=Z'/\fl=oP:=by
 rcases h with⟨a,rfl,rfl⟩|⟨a,z,hz,rfl⟩|⟨a,rfl,rfl⟩|⟨a,rfl,rfl⟩|⟨a,rfl,rfl⟩<;>
 rcases h' with⟨a',rfl,rfl⟩|⟨a',z',hz',rfl⟩|⟨a',rfl,rfl⟩|⟨a',rfl,rfl⟩|⟨a',rfl,rfl⟩<;>
 first|(exfalso;omega)|exact⟨rfl,rfl⟩|(obtain⟨rfl,rfl⟩:=bH.one hz hz';exact⟨rfl,rfl⟩)
def bH.fl{p mn mx one aI aj aJ:Int}{M:Nat}{e:Int}{rest:Bool}{z fl:Int}(h:bH p mn mx one aI aj aJ M e rest z fl):fl=0\/fl=16\/fl=20\/fl=24:=by
 obtain⟨b_,E,r,r2,hf,h1,h2,h3,h4,h5,hc⟩:=h;omega
def wH(X k:Nat)(e q:Int)(h:e+k+1<=q):
  dw X e q=dw (X/2^k) (e+k) q/\bg X e q false=bg (X/2^k) (e+k) q (decide (X%2^k≠0)):=by
 obtain⟨d,hd⟩:∃d:Nat,q-(e+k)=(d:Int):=⟨(q-(e+k)).toNat,om⟩;have rY:1<=d:=om;have e1:(q-e).toNat =k+d:=om;have e2:(q-(e+k)).toNat =d:=om;unfold dw bg;rw[if_neg om,if_neg om,if_neg om,if_neg om,e1,e2];have a1:X/2^(k+d)=X/2^k/2^d:=by rw[Nat.pow_add,Nat.div_div_eq_div_mul]
 refine⟨a1,?_⟩;unfold hr;have a2:X/2^(k+d-1)=X/2^k/2^(d-1):=by rw[(om:k+d-1=k+(d-1)),Nat.pow_add,Nat.div_div_eq_div_mul]
 have a3:X%2^(k+d-1)=X%2^k+2^k*(X/2^k%2^(d-1)):=by rw[(om:k+d-1=k+(d-1)),Nat.pow_add,Nat.mod_mul]
 rw[a2,a3];have hp:0<2^k:=Nat.pow_pos de;have a4:(X%2^k+2^k*(X/2^k%2^(d-1))≠0\/false=true)↔(X/2^k%2^(d-1)≠0\/decide (X%2^k≠0)=true):=by
  generalize X/2^k%2^(d-1)=R;generalize X%2^k=S;rcases Nat.eq_zero_or_pos R with rfl|hR
  .simp
  .have:0<2^k*R:=Nat.mul_pos hp hR;simp;omega
 simp only[a4]
def zB(M:Nat)(e q:Int)(h:q<=e):bg M e q false=0:=by unfold bg;rw[if_pos h];rfl
def zC(M:Nat)(e q:Int)(rest:Bool)(h:¬q<=e):bg M e q rest=hr M (q-e).toNat rest:=by unfold bg;rw[if_neg h]
def QC(M k:Nat)(e q:Int):dw (M*2^k) (e-k) q=dw M e q/\bg (M*2^k) (e-k) q false=bg M e q false:=by
 have hp:0<2^k:=Nat.pow_pos de;by_cases h:e+1<=q
 .have:=wH (M*2^k) k (e-k) q om;rw[Nat.mul_div_cancel _ hp,Nat.mul_mod_left,(om:e-k+k=e)]at this;exact this
 .by_cases h1:q<=e-k
  .rw[zB _ _ _ h1,zB _ _ _ (om:q<=e)];unfold dw;rw[if_pos h1,if_pos (by omega)];refine⟨?_,rfl⟩;rw[Nat.mul_assoc,<-Nat.pow_add]
   congr 2
   omega
  .rw[zC _ _ _ _ h1,zB _ _ _ (om:q<=e)];unfold dw;rw[if_neg h1,if_pos (by omega)];obtain⟨d,hd⟩:=dK ((q-(e-k)).toNat);obtain⟨j,hj⟩:=dK ((e-q).toNat);rw[hd,hj];have hk:k=j+d:=om;subst hk;have e1:M*2^(j+d)=M*2^j*2^d:=by rw[Nat.pow_add,Nat.mul_assoc]
   rw[e1,Nat.mul_div_cancel _ (Nat.pow_pos de)];refine⟨rfl,?_⟩;exact DZ _ d om (Nat.mul_mod_left _ _)
def MG(M k:Nat)(h:0<M):nb (M*2^k)=nb M+k:=by
 have hp:0<2^k:=Nat.pow_pos de;have:=DK (M*2^k) k (by rw[Nat.mul_div_cancel _ hp];exact h);rw[Nat.mul_div_cancel _ hp]at this;omega
def bH.scale{p mn mx one aI aj aJ:Int}{M:Nat}{e z fl:Int}(k:Nat)(hM:0<M):bH p mn mx one aI aj aJ (M*2^k) (e-k) false z fl↔bH p mn mx one aI aj aJ M e false z fl:=by
 unfold bH;have hn:=MG M k hM;have e1:((nb (M*2^k):Nat):Int)+(e-k)-1=nb M+e-1:=by rw[hn];omega
 rw[e1];simp only[(QC M k e _).1,(QC M k e _).2]
def bH.trunc{p mn mx one aI aj aJ:Int}{X:Nat}{e z fl:Int}(k:Nat)(hX:0<X/2^k)(hp:0<=p)(hn:X%2^k≠0->p+2<=(nb (X/2^k):Int)):
  bH p mn mx one aI aj aJ (X/2^k) (e+k) (decide (X%2^k≠0)) z fl↔bH p mn mx one aI aj aJ X e false z fl:=by
 by_cases hc:X%2^k=0
 .have e1:X=X/2^k*2^k:=by have:=Nat.div_add_mod X (2^k);rw[hc,Nat.mul_comm]at this;omega
  have:=bH.scale (p:=p) (mn:=mn) (mx:=mx) (one:=one) (aI:=aI) (aj:=aj) (aJ:=aJ) (e:=e+k) (z:=z) (fl:=fl) k hX;rw[<-e1,(om:e+k-k=e)]at this;rw[this];simp[hc]
 .have C9:=hn hc;have hs:=DK X k hX;constructor
  .rintro⟨b_,E,r,r2,hf,h1,h2,h3,h4,h5,h6⟩;have t1:=wH X k e (E-p+1) om;have t2:=wH X k e (b_-p+1) om;refine⟨b_,E,r,r2,hf,om,h2,?_,?_,?_,h6⟩
   .rw[t1.2];exact h3
   .rw[t1.1];exact h4
   .rw[t2.1,t2.2];exact h5
  .rintro⟨b_,E,r,r2,hf,h1,h2,h3,h4,h5,h6⟩;have t1:=wH X k e (E-p+1) om;have t2:=wH X k e (b_-p+1) om;refine⟨b_,E,r,r2,hf,om,h2,?_,?_,?_,h6⟩
   .rw[<-t1.2];exact h3
   .rw[<-t1.1];exact h4
   .rw[<-t2.1,<-t2.2];exact h5
open Go.RowKit
def qO(h l:Int)(k:Nat):Int:=(h*18446744073709551616+l)*2^k%340282366920938463463374607431768211456/18446744073709551616
def qN(h l:Int)(k:Nat):Int:=(h*18446744073709551616+l)*2^k%340282366920938463463374607431768211456%18446744073709551616
def kG(h l:Int)(k:Nat):Int:=(h*18446744073709551616+l)/2^k/18446744073709551616
def jQ(h l:Int)(k:Nat):Int:=(h*18446744073709551616+l)/2^k%18446744073709551616
def jY(h l:Int)(k:Nat):Bool:=decide (¬(h*18446744073709551616+l)%2^k=0)
namespace Sh
def split(k:Nat)(h:k<=64):2^k*2^(64-k)=18446744073709551616:=by
 rw[<-Nat.pow_add,(om:k+(64-k)=64)]
def pos(k:Nat):0<2^k:=Nat.pow_pos de
def aGm(A0 A1 P Q:Nat)(hPQ:P*Q=18446744073709551616)(hP:0<P)(h0:aG A0):
  A1*P%18446744073709551616=P*(A1%Q)/\A0/Q<P/\A1*P%18446744073709551616+A0/Q<18446744073709551616/\
  (A1*18446744073709551616+A0)*P%340282366920938463463374607431768211456/18446744073709551616=A1*P%18446744073709551616+A0/Q/\
  (A1*18446744073709551616+A0)*P%340282366920938463463374607431768211456%18446744073709551616=A0*P%18446744073709551616:=by
 have hQ:0<Q:=by
  rcases Nat.eq_zero_or_pos Q with h|h
  .rw[h]at hPQ;omega
  .exact h
 have e1:A1*P%18446744073709551616=P*(A1%Q):=by
  have:=Nat.mul_mod_mul_left P A1 Q;rw[hPQ]at this;rw[Nat.mul_comm A1 P,this]
 have e2:A0*P/18446744073709551616=A0/Q:=by
  have:=Nat.mul_div_mul_left A0 Q hP;rw[hPQ]at this;rw[Nat.mul_comm A0 P,this]
 have e3:A0/Q<P:=by
  apply Nat.div_lt_of_lt_mul;rw[Nat.mul_comm];omega
 have e4:P*(A1%Q)+P<=18446744073709551616:=by
  have:A1%Q+1<=Q:=Nat.mod_lt _ hQ;have:=Nat.mul_le_mul_left P this;rw[hPQ,Nat.mul_add,Nat.mul_one]at this;exact this
 have e5:(A1*18446744073709551616+A0)*P=A1*P*18446744073709551616+A0*P:=by
  rw[Nat.add_mul,Nat.mul_right_comm]
 rw[e5];refine⟨e1,e3,om,?_,?_⟩
 .generalize A1*P=U at*
  generalize A0*P=T at*
  generalize A0/Q=D at*
  generalize P*(A1%Q)=C at*
  omega
 .generalize A1*P=U at*
  generalize A0*P=T at*
  omega
def lw(A0 A1 P K:Nat):(A1*K+A0)*(K*P)=A1*P*(K*K)+A0*P*K:=by
 rw[Nat.add_mul];simp only[Nat.mul_comm,Nat.mul_left_comm]
def aC8(A0 A1 P:Nat):
  (A1*18446744073709551616+A0)*(18446744073709551616*P)%340282366920938463463374607431768211456/18446744073709551616=A0*P%18446744073709551616/\
  (A1*18446744073709551616+A0)*(18446744073709551616*P)%340282366920938463463374607431768211456%18446744073709551616=0:=by
 have e5:=lw A0 A1 P 18446744073709551616;rw[e5];generalize A1*P=U at*
 generalize A0*P=T at*
 omega
def aCN(A0 A1 P Q:Nat)(hPQ:P*Q=18446744073709551616)(hP:0<P)(h0:aG A0):
  A1*Q%18446744073709551616=Q*(A1%P)/\A0/P<Q/\A1*Q%18446744073709551616+A0/P<18446744073709551616/\
  (A1*18446744073709551616+A0)/P/18446744073709551616=A1/P/\
  (A1*18446744073709551616+A0)/P%18446744073709551616=A1*Q%18446744073709551616+A0/P:=by
 have hQ:0<Q:=by
  rcases Nat.eq_zero_or_pos Q with h|h
  .rw[h]at hPQ;omega
  .exact h
 have hQP:Q*P=18446744073709551616:=by rw[Nat.mul_comm];exact hPQ
 have e1:A1*Q%18446744073709551616=Q*(A1%P):=by
  have:=Nat.mul_mod_mul_left Q A1 P;rw[hQP]at this;rw[Nat.mul_comm A1 Q,this]
 have e2:A1*Q/18446744073709551616=A1/P:=by
  have:=Nat.mul_div_mul_left A1 P hQ;rw[hQP]at this;rw[Nat.mul_comm A1 Q,this]
 have e3:A0/P<Q:=by
  apply Nat.div_lt_of_lt_mul;omega
 have e4:Q*(A1%P)+Q<=18446744073709551616:=by
  have:A1%P+1<=P:=Nat.mod_lt _ hP;have:=Nat.mul_le_mul_left Q this;rw[hQP,Nat.mul_add,Nat.mul_one]at this;exact this
 have e5:(A1*18446744073709551616+A0)/P=A1*Q+A0/P:=by
  have:A1*18446744073709551616=P*(A1*Q):=by rw[<-hPQ,Nat.mul_left_comm]
  rw[this,Nat.mul_add_div hP]
 rw[e5];refine⟨e1,e3,om,?_,?_⟩
 .generalize A1*Q=U at*
  generalize A0/P=D at*
  generalize A1/P=E at*
  generalize Q*(A1%P)=C at*
  omega
 .generalize A1*Q=U at*
  generalize A0/P=D at*
  generalize Q*(A1%P)=C at*
  omega
def Fh(k:Nat)(c d:Nat)(h:d<2^k):(2^k*c)|||d=2^k*c+d:=(Nat.two_pow_add_eq_or_of_lt h c).symm
end Sh
def aB0(a0 a1:Int)(k:Nat)(h1:k<64)(xk:0<=a0)(jo:0<=a1)(JL:aG a0)(NJ:aG a1):
  IntKind.u64.wrap (a0*2^k)=qN a1 a0 k/\bits .or Y (IntKind.u64.wrap (a1*2^k)) (a0/2^(64-k))=qO a1 a0 k:=by
 obtain⟨A0,rfl⟩:=Int.eq_ofNat_of_zero_le xk;obtain⟨A1,rfl⟩:=Int.eq_ofNat_of_zero_le jo;have hPQ:=Sh.split k om;obtain⟨f1,f2,f3,f4,f5⟩:=Sh.aGm A0 A1 (2^k) (2^(64-k)) hPQ (Sh.pos k) om;have c0:(A0:Int)*2^k=((A0*2^k:Nat):Int):=by push_cast;rfl
 have c1:(A1:Int)*2^k=((A1*2^k:Nat):Int):=by push_cast;rfl
 have c2:(A0:Int)/2^(64-k)=((A0/2^(64-k):Nat):Int):=by push_cast;rfl
 have c3:((A1:Int)*18446744073709551616+A0)*2^k=(((A1*18446744073709551616+A0)*2^k:Nat):Int):=by rw[(om:(A1:Int)*18446744073709551616+A0=((A1*18446744073709551616+A0:Nat):Int))];generalize A1*18446744073709551616+A0=V;push_cast;rfl
 unfold qN qO;rw[c0,c1,c2,c3,IntKind.wrap_u64,IntKind.wrap_u64];constructor
 .have:((A0*2^k:Nat):Int)%18446744073709551616=((A0*2^k%18446744073709551616:Nat):Int):=om;rw[this,<-f5];omega
 .have:((A1*2^k:Nat):Int)%18446744073709551616=((A1*2^k%18446744073709551616:Nat):Int):=om;rw[this,bits_or_u64_nat _ _ om om,f1,Sh.Fh k _ _ f2,<-f1,<-f4];omega
def aB1(a0 a1:Int)(j k:Nat)(hk:k=64+j)(xk:0<=a0)(jo:0<=a1):
  IntKind.u64.wrap (a0*2^j)=qO a1 a0 k/\0=qN a1 a0 k:=by
 obtain⟨A0,rfl⟩:=Int.eq_ofNat_of_zero_le xk;obtain⟨A1,rfl⟩:=Int.eq_ofNat_of_zero_le jo;have e:2^k=18446744073709551616*2^j:=by rw[hk,Nat.pow_add]
 obtain⟨f1,f2⟩:=Sh.aC8 A0 A1 (2^j);have c0:(A0:Int)*2^j=((A0*2^j:Nat):Int):=by push_cast;rfl
 have c3:((A1:Int)*18446744073709551616+A0)*2^k=(((A1*18446744073709551616+A0)*2^k:Nat):Int):=by rw[(om:(A1:Int)*18446744073709551616+A0=((A1*18446744073709551616+A0:Nat):Int))];generalize A1*18446744073709551616+A0=V;push_cast;rfl
 unfold qN qO;rw[c0,c3,IntKind.wrap_u64,e];omega
def aBX(a0 a1:Int)(k:Nat)(h1:k<64)(xk:0<=a0)(jo:0<=a1)(JL:aG a0)(NJ:aG a1):
  bits .or Y (a0/2^k) (IntKind.u64.wrap (a1*2^(64-k)))=jQ a1 a0 k/\a1/2^k=kG a1 a0 k:=by
 obtain⟨A0,rfl⟩:=Int.eq_ofNat_of_zero_le xk;obtain⟨A1,rfl⟩:=Int.eq_ofNat_of_zero_le jo;have hPQ:=Sh.split k om;obtain⟨f1,f2,f3,f4,f5⟩:=Sh.aCN A0 A1 (2^k) (2^(64-k)) hPQ (Sh.pos k) om;have c0:(A0:Int)/2^k=((A0/2^k:Nat):Int):=by push_cast;rfl
 have c1:(A1:Int)*2^(64-k)=((A1*2^(64-k):Nat):Int):=by push_cast;rfl
 have c2:(A1:Int)/2^k=((A1/2^k:Nat):Int):=by push_cast;rfl
 have c3:((A1:Int)*18446744073709551616+A0)/2^k=(((A1*18446744073709551616+A0)/2^k:Nat):Int):=by rw[(om:(A1:Int)*18446744073709551616+A0=((A1*18446744073709551616+A0:Nat):Int))];generalize A1*18446744073709551616+A0=V;push_cast;rfl
 unfold jQ kG;rw[c0,c1,c2,c3,IntKind.wrap_u64];constructor
 .have:((A1*2^(64-k):Nat):Int)%18446744073709551616=((A1*2^(64-k)%18446744073709551616:Nat):Int):=om;rw[this,bits_or_u64_nat _ _ om om,Nat.or_comm,f1,Sh.Fh _ _ _ f2,<-f1,<-f5];omega
 .rw[<-f4];omega
def aBY(a0 a1:Int)(j k:Nat)(hk:k=64+j)(xk:0<=a0)(jo:0<=a1)(JL:aG a0)(NJ:aG a1):
  a1/2^j=jQ a1 a0 k/\0=kG a1 a0 k:=by
 obtain⟨A0,rfl⟩:=Int.eq_ofNat_of_zero_le xk;obtain⟨A1,rfl⟩:=Int.eq_ofNat_of_zero_le jo;have e:2^k=18446744073709551616*2^j:=by rw[hk,Nat.pow_add]
 have c2:(A1:Int)/2^j=((A1/2^j:Nat):Int):=by push_cast;rfl
 have c3:((A1:Int)*18446744073709551616+A0)/2^k=(((A1*18446744073709551616+A0)/2^k:Nat):Int):=by rw[(om:(A1:Int)*18446744073709551616+A0=((A1*18446744073709551616+A0:Nat):Int))];generalize A1*18446744073709551616+A0=V;push_cast;rfl
 unfold jQ kG;rw[c2,c3,e,<-Nat.div_div_eq_div_mul];have e1:(A1*18446744073709551616+A0)/18446744073709551616=A1:=om;rw[e1];have:=Nat.div_le_self A1 (2^j);generalize A1/2^j=D at*
 omega
def Ve(h l:Int)(k:Nat):(h*18446744073709551616+l)/2^(k+1)=(h*18446744073709551616+l)/2^k/2:=by
 rw[Int.pow_succ,Int.ediv_ediv_of_nonneg (Int.pow_nonneg de)]
def bnd(n:Int):Int:=if n<0 then 0 else if 128<n then 128 else n
open Go.RowKit
def QU{w:World}{o:Obj}{t:TypeId}{x x' y y':Int}(h1:x=x')(h2:y=y'):(w.alloc (.cells #[J Y x,J Y y] t)).alloc o=(w.alloc (.cells #[J Y x',J Y y'] t)).alloc o:=by rw[h1,h2]
set_option maxHeartbeats 40000000
def aLp{P:Prop}(h:P:=by
 go_wp2_with (go_at_call 326;refine(H _).mono ?_;rintro e w' ⟨rfl,rfl⟩);clear H;refine wp_loop_rounds 3 ?_;exact aAR):P:=h
def aAR{P:Prop}(h:P:=by
 rw[rounds_succ];go_wp2;go_returns;exact⟨P6 (HM.out.1) (HM.out.2),⟨by go_grown,by go_grown⟩⟩):P:=h
def sJ(n:Int)(w:World):
  CT 326 #[J .i64 n] w λe w'=>e=.returned (J .i64 (bnd n))/\w'=w:=by
 go_enter func326,ntmps326;go_wp2;all_goals go_returns<;>(refine⟨?_,rfl⟩;refine bU ?_;refine congrArg (Value.int IntKind.i64) ?_;unfold bnd;(repeat' split)<;>omega)
def aJb(a0 a1 n:Int)(k:Nat)(hn:bnd n=(k:Int))(h1:k<64)(xk:0<=a0)(jo:0<=a1)(JL:aG a0)(NJ:aG a1)(w:World):
  QR 302 #[aN a0 a1,J .i64 n] w (aN (qN a1 a0 k) (qO a1 a0 k)):=by
 have HM:Hid (_/\_):=aB0 a0 a1 k h1 xk jo JL NJ;have H:=sJ n;rw[hn]at H;have hs:(k:Int)/64=0:=om;have WT:(k:Int)%64=k:=om;clear hn;go_enter func302,ntmps302;go_wp2_with (go_at_call 326;refine(H _).mono ?_;rintro e w' ⟨rfl,rfl⟩);clear H;refine wp_loop_rounds 3 ?_;rw[rounds_succ];go_wp2;rw[rounds_succ];go_wp2;go_region;go_wp2;exact aAR
def aGn(a0 a1 n:Int)(k:Nat)(j:Nat)(hn:bnd n=(k:Int))(hk:k=64+j)(hj:j<64)(xk:0<=a0)(jo:0<=a1)(JL:aG a0)(NJ:aG a1)(w:World):
  QR 302 #[aN a0 a1,J .i64 n] w (aN (qN a1 a0 k) (qO a1 a0 k)):=by
 have HM:Hid (_/\_):=aB1 a0 a1 j k hk xk jo;have H:=sJ n;rw[hn]at H;have hs:(k:Int)/64=1:=om;have WT:(k:Int)%64=j:=om;clear hk;clear hn;go_enter func302,ntmps302;go_wp2_with (go_at_call 326;refine(H _).mono ?_;rintro e w' ⟨rfl,rfl⟩);clear H;refine wp_loop_rounds 3 ?_;rw[rounds_succ];go_wp2;rw[rounds_succ];go_wp2;go_returns;exact⟨P6 (HM.out.2) (HM.out.1),⟨by go_grown,by go_grown⟩⟩
def aFD(a0 a1 n:Int)(k:Nat)(hn:bnd n=(k:Int))(h1:k<64)(xk:0<=a0)(jo:0<=a1)(JL:aG a0)(NJ:aG a1)(w:World):
  QR 301 #[aN a0 a1,J .i64 n] w (aN (jQ a1 a0 k) (kG a1 a0 k)):=by
 have HM:Hid (_/\_):=aBX a0 a1 k h1 xk jo JL NJ;have H:=sJ n;rw[hn]at H;have hs:(k:Int)/64=0:=om;have WT:(k:Int)%64=k:=om;clear hn;go_enter func301,ntmps301;go_wp2_with (go_at_call 326;refine(H _).mono ?_;rintro e w' ⟨rfl,rfl⟩);clear H;refine wp_loop_rounds 3 ?_;rw[rounds_succ];go_wp2;go_region;go_wp2;rw[rounds_succ];go_wp2;exact aAR
def aCO(a0 a1 n:Int)(k:Nat)(j:Nat)(hn:bnd n=(k:Int))(hk:k=64+j)(hj:j<64)(xk:0<=a0)(jo:0<=a1)(JL:aG a0)(NJ:aG a1)(w:World):
  QR 301 #[aN a0 a1,J .i64 n] w (aN (jQ a1 a0 k) (kG a1 a0 k)):=by
 have HM:Hid (_/\_):=aBY a0 a1 j k hk xk jo JL NJ;have H:=sJ n;rw[hn]at H;have hs:(k:Int)/64=1:=om;have WT:(k:Int)%64=j:=om;clear hk;clear hn;go_enter func301,ntmps301;go_wp2_with (go_at_call 326;refine(H _).mono ?_;rintro e w' ⟨rfl,rfl⟩);clear H;refine wp_loop_rounds 3 ?_;rw[rounds_succ];go_wp2;exact aAR
def aIo(a0 a1:Int)(xk:0<=a0)(jo:0<=a1):0=qN a1 a0 128/\0=qO a1 a0 128:=by
 have e:(2:Int)^128=340282366920938463463374607431768211456:=de;unfold qN qO;rw[e];omega
def aIl(a0 a1:Int)(xk:0<=a0)(jo:0<=a1)(JL:aG a0)(NJ:aG a1):0=jQ a1 a0 128/\0=kG a1 a0 128:=by
 have e:(2:Int)^128=340282366920938463463374607431768211456:=de;unfold jQ kG;rw[e];omega
def aGo(a0 a1 n:Int)(k:Nat)(hn:bnd n=(k:Int))(hk:k=128)(xk:0<=a0)(jo:0<=a1)(JL:aG a0)(NJ:aG a1)(w:World):
  QR 302 #[aN a0 a1,J .i64 n] w (aN (qN a1 a0 k) (qO a1 a0 k)):=by
 have HM:Hid (_/\_):=aIo a0 a1 xk jo;have H:=sJ n;rw[hn]at H;subst hk;clear hn;go_enter func302,ntmps302;exact aLp
def aCP(a0 a1 n:Int)(k:Nat)(hn:bnd n=(k:Int))(hk:k=128)(xk:0<=a0)(jo:0<=a1)(JL:aG a0)(NJ:aG a1)(w:World):
  QR 301 #[aN a0 a1,J .i64 n] w (aN (jQ a1 a0 k) (kG a1 a0 k)):=by
 have HM:Hid (_/\_):=aIl a0 a1 xk jo JL NJ;have H:=sJ n;rw[hn]at H;subst hk;clear hn;go_enter func301,ntmps301;exact aLp
def Ws(a0 a1 n:Int)(xk:0<=a0)(jo:0<=a1)(JL:aG a0)(NJ:aG a1)(w:World):
  QR 302 #[aN a0 a1,J .i64 n] w (aN (qN a1 a0 (bnd n).toNat) (qO a1 a0 (bnd n).toNat)):=by
 have hb:0<=bnd n/\bnd n<=128:=by unfold bnd;(repeat' split)<;>omega
 obtain⟨k,hk⟩:=Int.eq_ofNat_of_zero_le hb.1;have ek:(bnd n).toNat =k:=om;rw[ek];rcases Nat.lt_or_ge k 64 with h|h
 .exact aJb a0 a1 n k hk h xk jo JL NJ w
 .rcases Nat.lt_or_ge k 128 with h'|h'
  .exact aGn a0 a1 n k (k-64) hk om om xk jo JL NJ w
  .exact aGo a0 a1 n k hk om xk jo JL NJ w
def aCQ(a0 a1 n:Int)(xk:0<=a0)(jo:0<=a1)(JL:aG a0)(NJ:aG a1)(w:World):
  QR 301 #[aN a0 a1,J .i64 n] w (aN (jQ a1 a0 (bnd n).toNat) (kG a1 a0 (bnd n).toNat)):=by
 have hb:0<=bnd n/\bnd n<=128:=by unfold bnd;(repeat' split)<;>omega
 obtain⟨k,hk⟩:=Int.eq_ofNat_of_zero_le hb.1;have ek:(bnd n).toNat =k:=om;rw[ek];rcases Nat.lt_or_ge k 64 with h|h
 .exact aFD a0 a1 n k hk h xk jo JL NJ w
 .rcases Nat.lt_or_ge k 128 with h'|h'
  .exact aCO a0 a1 n k (k-64) hk om om xk jo JL NJ w
  .exact aCP a0 a1 n k hk om xk jo JL NJ w
def Dk(a0 a1:Int)(w:World):
  CT 248 #[aN a0 a1] w λe w'=>e=.returned (aN a1 a0)/\∃c1 c2:Array Value,w'=(w.alloc (.cells c1 257)).alloc (.cells c2 185):=by
 go_enter func248,ntmps248;go_wp2;go_returns;exact⟨rfl,_,_,rfl⟩
def qM(a0 a1:Int)(w:World):
  CT 300 #[aN a1 a0] w λe w'=>e=.returned (aN a0 a1)/\∃c1 c2:Array Value,w'=(w.alloc (.cells c1 185)).alloc (.cells c2 257):=by
 go_enter func300,ntmps300;go_wp2;go_returns;exact⟨rfl,_,_,rfl⟩
def aAD(a0 a1:Int)(w:World):
  QR 248 #[aN a0 a1] w (aN a1 a0):=by
 refine(Dk a0 a1 w).mono ?_;rintro e w' ⟨rfl,c1,c2,rfl⟩;exact⟨rfl,kr⟩
def fH(aF s:Int):Nat:=
 if aF=0 then(if s=1 then 2147483648 else 2147483647)
 else if aF=1 then(if s=1 then 9223372036854775808 else 9223372036854775807)
 else if aF=2 then(if s=1 then 0 else 4294967295)
 else if aF=3 then(if s=1 then 0 else 18446744073709551615)
 else 0
def gu(aF w:Int):Int:=if(aF=0\/aF=1)/\9223372036854775808<=w then 1 else 0
def jg(aF w:Int):Nat:=if(aF=0\/aF=1)/\9223372036854775808<=w then(18446744073709551616-w).toNat else w.toNat
def Vd(aF w:Int):gu aF w=0\/gu aF w=1:=by unfold gu;split<;>simp
def DU(aF w:Int)(h0:0<=w)(h1:aG w):jg aF w<18446744073709551616:=by unfold jg;split<;>omega
def iJ(aF w:Int):Bool:=decide ((0<=aF/\aF<=3)/\jg aF w<=fH aF (gu aF w))
def kU(a b:Int):Int:=if a<b then-1 else if b<a then 1 else 0
def xO{a b:Int}(h:a<b):kU a b=-1:=by unfold kU;rw[if_pos h]
def xP{a b:Int}(h:b<a):kU a b=1:=by unfold kU;rw[if_neg om,if_pos h]
def uJ{a b:Int}(h:a=b):kU a b=0:=by unfold kU;rw[if_neg om,if_neg (by omega)]
def wJ(a:Int):kU a a=0:=uJ rfl
def J8(a b:Int):kU a b=-1\/kU a b=0\/kU a b=1:=by unfold kU;split<;>(try split)<;>omega
def or3(a b c:Int):Int:=if a≠0 then a else if b≠0 then b else c
def KP:List Int:=[12311384997445461060,6896949616398116700,3175666228297764653,1183806766059182244,353476207714659139,83907343225073545,15749660485982248,2328616999791800,270433320942720,24618334939658,1753979576257,97691228987,4249834529,144306183,3822728,78971,1272,16]
def sO(i:Nat):Int:=KP.getD i 0
def vN:Array Value:=#[J Y 12311384997445461060,J Y 6896949616398116700,J Y 3175666228297764653,J Y 1183806766059182244,J Y 353476207714659139,J Y 83907343225073545,J Y 15749660485982248,J Y 2328616999791800,J Y 270433320942720,J Y 24618334939658,J Y 1753979576257,J Y 97691228987,J Y 4249834529,J Y 144306183,J Y 3822728,J Y 78971,J Y 1272,J Y 16]
def UZ(i:Nat)(h:i<18):vN[i]?=some (J Y (sO i)):=by
 obtain rfl|rfl|rfl|rfl|rfl|rfl|rfl|rfl|rfl|rfl|rfl|rfl|rfl|rfl|rfl|rfl|rfl|rfl:i=0\/i=1\/i=2\/i=3\/i=4\/i=5\/i=6\/i=7\/i=8\/i=9\/i=10\/i=11\/i=12\/i=13\/i=14\/i=15\/i=16\/i=17:=om
 all_goals rfl
def Xe{P:Int->Prop}{l:List Int}(h:∀x ∈ l,P x)(h0:P 0)(i:Nat):P (l.getD i 0):=by
 rw[List.getD_eq_getElem?_getD];cases e:l[i]? with
 |none=>exact h0
 |some x=>exact h x (List.mem_of_getElem? e)
def aET(i:Nat):0<=sO i/\sO i<18446744073709551616:=Xe (P:=λx=>0<=x/\aG x) (l:=KP) de de i
def above(f:Nat->Int)(u:Int):Nat->Nat
 |0=>0
 |k+1=>above f u k+if u<f k then 1 else 0
def Oc(f:Nat->Int)(u:Int)(k:Nat):above f u k<=k:=by
 induction k with
 |zero=>exact Nat.le_refl _
 |succ k ih=>unfold above;split<;>omega
def jU(u:Int):Nat:=above sO u 18
def Eu(u:Int):jU u<=18:=Oc _ _ _
def Tl(w:World):Prop:=∃t fr,w.heap[2]?=some (.cells vN t fr)
def Tl.below{w w':World}(h:Tl w)(b:Below w.heap.size w w'):Tl w':=by
 obtain⟨t,fr,h⟩:=h;refine⟨t,fr,?_⟩;have:2<w.heap.size:=by
  rcases Nat.lt_or_ge 2 w.heap.size with k|k
  .exact k
  .simp[k]at h
 rw[Below.block b _ this];exact h
def aLq{P:Prop}(h:P:=by
 go_wp2;go_returns;have e:(k:Int)=bnd n:=by unfold bnd;(repeat' split)<;>omega
 exact⟨LU (HF e).1 (HF e).2.1 (HF e).2.2,_,_,rfl⟩):P:=h
def Qe(h l:Int)(k:Nat)(h0:0<=h)(l0:0<=l):jY h l (k+1)=(jY h l k||decide ((h*18446744073709551616+l)/2^k%2=1)):=by
 obtain⟨H,rfl⟩:=Int.eq_ofNat_of_zero_le h0;obtain⟨L,rfl⟩:=Int.eq_ofNat_of_zero_le l0;unfold jY;rw[(om:(H:Int)*18446744073709551616+L=((H*18446744073709551616+L:Nat):Int))];generalize H*18446744073709551616+L=V;have c1:(V:Int)%2^(k+1)=((V%2^(k+1):Nat):Int):=by push_cast;rfl
 have c2:(V:Int)%2^k=((V%2^k:Nat):Int):=by push_cast;rfl
 have c3:(V:Int)/2^k=((V/2^k:Nat):Int):=by push_cast;rfl
 rw[c1,c2,c3,Nat.pow_succ,Nat.mod_mul];have hp:0<2^k:=Nat.pow_pos de;generalize 2^k=P at*
 generalize V%P=A at*
 generalize V/P=B at*
 rcases Nat.mod_two_eq_zero_or_one B with e|e
 .rw[e,Nat.mul_zero,Nat.add_zero];have:¬((B:Nat):Int)%2=1:=om;simp[this]
 .rw[e,Nat.mul_one];have:((B:Nat):Int)%2=1:=om;simp only[this,decide_true,Bool.or_true,decide_eq_true_eq];omega
def aC4(h l:Int):jY h l 0=false:=by
 unfold jY;rw[Int.pow_zero];simp[Int.emod_one]
def U4(h l n:Int)(Qv:0<=h)(Z4:0<=l)(hh1:aG h)(o9:aG l)(w:World):
  CT 279 #[aN h l,J .i64 n] w λe w'=>e=.returned (.tuple #[aN (kG h l (bnd n).toNat) (jQ h l (bnd n).toNat),.bool (jY h l (bnd n).toNat)])/\∃c1 c2:Array Value,w'=(w.alloc (.cells c1 185)).alloc (.cells c2 185):=by
 go_enter func279,ntmps279;go_wp2;go_loopw [6,7] (λb i wr=>∃(k:Nat) (X:Int) (L:Bool),k<=128/\((k:Int)<=n\/k=0)/\i=J .i64 k/\b=.bool L/\Hid (L=jY h l k)/\Hid (X=(h*18446744073709551616+l)/2^k)/\0<=X/\X<340282366920938463463374607431768211456/\wr=(w.alloc (.cells #[J Y (X/18446744073709551616),J Y (X%18446744073709551616)] 185)).alloc (.cells #[J Y 0,J Y 0] 185)) (λ_ i _=>128-(intOf i).toNat)
 case atStart=>exact⟨0,h*18446744073709551616+l,false,om,om,rfl,rfl,(aC4 h l).symm,by show _=_;rw[Int.pow_zero];omega,om,om,QU om om⟩
 case round=>
  obtain⟨k,X,L,hk,hkn,rfl,rfl,HL,HX,x0,x1,rfl⟩:=hrel;have fin:∀(h2:(k:Int)=bnd n),X/18446744073709551616=kG h l (bnd n).toNat /\X%18446744073709551616=jQ h l (bnd n).toNat /\L=jY h l (bnd n).toNat :=by
   intro h2;have:(bnd n).toNat =k:=om;unfold kG jQ;rw[this,<-HX.out];exact⟨rfl,rfl,HL.out⟩
  have HF:Hid (_->_):=fin;clear fin;by_cases h1:(k:Int)<n
  .by_cases h2:(k:Int)<128
   .have ZW:0<=X/2/\X/2<340282366920938463463374607431768211456:=om;by_cases h3:X%18446744073709551616%2=1
    .have hl:Hid (true=jY h l (k+1)):=by show _=_;rw[Qe h l k Qv Z4,<-HX.out,show decide (X%2=1)=true from decide_eq_true om,Bool.or_true]
     go_wp2;go_roundw
     case rel=>exact⟨k+1,X/2,true,om,om,by go_num,rfl,hl,by show _=_;rw[HX.out,Ve],ZW.1,ZW.2,QU (by first|omega|(simp only[IntKind.wrap_u64];omega)) (by first|omega|(simp only[IntKind.wrap_u64];omega))⟩
     case measure=>exact uz
    .have hl:Hid (L=jY h l (k+1)):=by show _=_;rw[Qe h l k Qv Z4,<-HX.out,show decide (X%2=1)=false from decide_eq_false om,Bool.or_false,HL.out]
     have h3':X%18446744073709551616%2=0:=om;clear h3;go_wp2;go_roundw
     case rel=>exact⟨k+1,X/2,L,om,om,by go_num,rfl,hl,by show _=_;rw[HX.out,Ve],ZW.1,ZW.2,QU (by first|omega|(simp only[IntKind.wrap_u64];omega)) (by first|omega|(simp only[IntKind.wrap_u64];omega))⟩
     case measure=>exact uz
   .exact aLq
  .exact aLq
def r_(a b c d:Int)(w:World):(Op.equalIn 10000 185 (aN a b) (aN c d)).run Tryz.prog w=.ok (a==c&&b==d) w:=by
 have u3:=Tryz.underlying71;have a3:=Tryz.isAgg71;have z3:=Tryz.sizeOf71;have hS:Tryz.prog.underlying 185=some (.struct (Tryz.prog.fieldsOf 185)):=by kernel_rfl
 rw[show(10000:Nat)=9999+1 from rfl,run_equalIn_agg w 9999 185 _ _ hS (by kernel_rfl)];simp only[Program.fieldsOf,Tryz.underlying185];go_simp;by_cases h1:a=c<;>by_cases h2:b=d<;>simp[h1,h2]
