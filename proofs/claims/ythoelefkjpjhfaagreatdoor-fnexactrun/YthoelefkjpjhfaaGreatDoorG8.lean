import Derived.Test.YthoelefkjpjhfaaGreatDoorA1
import Derived.Laws.Bits64b
import Derived.Laws.BitsAllLaws
import Derived.Test.YthoelefkjpjhfaaGreatDoorRows
import Derived.WalkLawsBesides
import Derived.Deep.DeepCutAuto
import Derived.WalkSpells
import Derived.Laws.Rows
import Derived.Laws.StructEq
set_option linter.all false
open Go.Value renaming int → J
open Go.IntKind renaming u64 → Y
open Go.Proofs.Tryz
namespace Go.Proofs.YthoelefkjpjhfaaGreatDoor
structure d_ where
 c:Int
 s:Int
 e:Int
 M:Nat
def Q9(aj:Int):d_:=⟨0,if aj=4 then 1 else 0,0,0⟩
def oG(x y:d_):Nat × Nat:=(x.M*2^(x.e-min x.e y.e).toNat,y.M*2^(y.e-min x.e y.e).toNat)
def zI(aj:Int)(x y:d_):d_:=
 if x.s=y.s then⟨1,x.s,min x.e y.e,(oG x y).1 +(oG x y).2⟩
 else if(oG x y).1 =(oG x y).2 then Q9 aj
 else if(oG x y).2 <(oG x y).1 then⟨1,x.s,min x.e y.e,(oG x y).1 -(oG x y).2⟩
 else⟨1,y.s,min x.e y.e,(oG x y).2 -(oG x y).1⟩
def kJ(aj:Int)(x y:d_):d_:=
 if 3<=max x.c y.c then⟨max x.c y.c,0,0,0⟩
 else if y.c<x.c then x
 else if x.c<y.c then y
 else if x.c=1 then zI aj x y
 else if x.s=y.s then x
 else if x.c=2 then⟨4,0,0,0⟩
 else Q9 aj
def mulS(s t:Int):Int:=if s=t then 0 else 1
def dn(x y:d_):d_:=
 if 3<=max x.c y.c then⟨max x.c y.c,0,0,0⟩
 else if min x.c y.c=0/\max x.c y.c=2 then⟨4,mulS x.s y.s,x.e+y.e,0⟩
 else if min x.c y.c=0 then⟨0,mulS x.s y.s,x.e+y.e,0⟩
 else if max x.c y.c=2 then⟨2,mulS x.s y.s,x.e+y.e,0⟩
 else⟨1,mulS x.s y.s,x.e+y.e,x.M*y.M⟩
def zW(x:d_):d_:={x with s:=1-x.s}
def cZ(p mn mx one aN sg nan aj:Int)(o:d_)(Z fl:Int):Prop:=
 o.c=0/\Z=sw o.s sg 0/\fl=0\/
 o.c=1/\(∃z,bM p mn mx one aN aj o.s o.M o.e false z fl/\Z=sw o.s sg z)\/
 o.c=2/\Z=sw o.s sg aN/\fl=0\/
 o.c=3/\Z=nan/\fl=0\/
 o.c=4/\Z=nan/\fl=1
def cZ.one{p mn mx one aN sg nan aj:Int}{o:d_}{Z fl Z' qQ:Int}(h:cZ p mn mx one aN sg nan aj o Z fl)(h':cZ p mn mx one aN sg nan aj o Z' qQ):Z=Z'/\fl=qQ:=by
 rcases h with⟨a,rfl,rfl⟩|⟨a,z,hz,rfl⟩|⟨a,rfl,rfl⟩|⟨a,rfl,rfl⟩|⟨a,rfl,rfl⟩<;>
 rcases h' with⟨a',rfl,rfl⟩|⟨a',z',Yx,rfl⟩|⟨a',rfl,rfl⟩|⟨a',rfl,rfl⟩|⟨a',rfl,rfl⟩<;>
 first|(exfalso;omega)|exact⟨rfl,rfl⟩|(obtain⟨rfl,rfl⟩:=bM.one hz Yx;exact⟨rfl,rfl⟩)
def bM.fl{p mn mx one aN aj aP:Int}{M:Nat}{e:Int}{rest:Bool}{z fl:Int}(h:bM p mn mx one aN aj aP M e rest z fl):fl=0\/fl=16\/fl=20\/fl=24:=by
 obtain⟨dh,E,r,r2,hf,h1,h2,h3,h4,h5,hc⟩:=h;omega
def yY(X k:Nat)(e q:Int)(h:e+k+1<=q):
  dH X e q=dH (X/2^k) (e+k) q/\bH X e q false=bH (X/2^k) (e+k) q (decide (X%2^k≠0)):=by
 obtain⟨d,hd⟩:∃d:Nat,q-(e+k)=(d:Int):=⟨(q-(e+k)).toNat,om⟩;have uT:1<=d:=om;have e1:(q-e).toNat =k+d:=om;have e2:(q-(e+k)).toNat =d:=om;unfold dH bH;rw[aH om,aH om,aH om,aH om,e1,e2];have a1:X/2^(k+d)=X/2^k/2^d:=by rw[jY,LK]
 refine⟨a1,?_⟩;unfold hr;have a2:X/2^(k+d-1)=X/2^k/2^(d-1):=by rw[(om:k+d-1=k+(d-1)),jY,LK]
 have a3:X%2^(k+d-1)=X%2^k+2^k*(X/2^k%2^(d-1)):=by rw[(om:k+d-1=k+(d-1)),jY,Nat.mod_mul]
 rw[a2,a3];have hp:0<2^k:=iQ de;have a4:(X%2^k+2^k*(X/2^k%2^(d-1))≠0\/false=true)↔(X/2^k%2^(d-1)≠0\/decide (X%2^k≠0)=true):=by
  generalize X/2^k%2^(d-1)=R;generalize X%2^k=S;rcases jL R with rfl|hR
  .simp
  .have:0<2^k*R:=Nat.mul_pos hp hR;simp;omega
 simp only[a4]
def BH(M:Nat)(e q:Int)(h:q<=e):bH M e q false=0:=by unfold bH;rw[aQ h];rfl
def BI(M:Nat)(e q:Int)(rest:Bool)(h:¬q<=e):bH M e q rest=hr M (q-e).toNat rest:=by unfold bH;rw[aH h]
def Tv(M k:Nat)(e q:Int):dH (M*2^k) (e-k) q=dH M e q/\bH (M*2^k) (e-k) q false=bH M e q false:=by
 have hp:0<2^k:=iQ de;by_cases h:e+1<=q
 .have:=yY (M*2^k) k (e-k) q om;rw[Nat.mul_div_cancel _ hp,Nat.mul_mod_left,(om:e-k+k=e)]at this;exact this
 .by_cases h1:q<=e-k
  .rw[BH _ _ _ h1,BH _ _ _ (om:q<=e)];unfold dH;rw[aQ h1,aQ (by omega)];refine⟨?_,rfl⟩;rw[kX,<-jY]
   congr 2
   omega
  .rw[BI _ _ _ _ h1,BH _ _ _ (om:q<=e)];unfold dH;rw[aH h1,aQ (by omega)];obtain⟨d,hd⟩:=dP ((q-(e-k)).toNat);obtain⟨j,hj⟩:=dP ((e-q).toNat);rw[hd,hj];have hk:k=j+d:=om;subst hk;have e1:M*2^(j+d)=M*2^j*2^d:=by rw[jY,kX]
   rw[e1,Nat.mul_div_cancel _ (iQ de)];refine⟨rfl,?_⟩;exact FK _ d om (Nat.mul_mod_left _ _)
def OB(M k:Nat)(h:0<M):nb (M*2^k)=nb M+k:=by
 have hp:0<2^k:=iQ de;have:=Fp (M*2^k) k (by rw[Nat.mul_div_cancel _ hp];exact h);rw[Nat.mul_div_cancel _ hp]at this;omega
def bM.scale{p mn mx one aN aj aP:Int}{M:Nat}{e z fl:Int}(k:Nat)(hM:0<M):bM p mn mx one aN aj aP (M*2^k) (e-k) false z fl↔bM p mn mx one aN aj aP M e false z fl:=by
 unfold bM;have hn:=OB M k hM;have e1:((nb (M*2^k):Nat):Int)+(e-k)-1=nb M+e-1:=by rw[hn];omega
 rw[e1];simp only[(Tv M k e _).1,(Tv M k e _).2]
def bM.trunc{p mn mx one aN aj aP:Int}{X:Nat}{e z fl:Int}(k:Nat)(hX:0<X/2^k)(hp:0<=p)(hn:X%2^k≠0->p+2<=(nb (X/2^k):Int)):
  bM p mn mx one aN aj aP (X/2^k) (e+k) (decide (X%2^k≠0)) z fl↔bM p mn mx one aN aj aP X e false z fl:=by
 by_cases hc:X%2^k=0
 .have e1:X=X/2^k*2^k:=by have:=Aj X (2^k);rw[hc,dM]at this;omega
  have:=bM.scale (p:=p) (mn:=mn) (mx:=mx) (one:=one) (aN:=aN) (aj:=aj) (aP:=aP) (e:=e+k) (z:=z) (fl:=fl) k hX;rw[<-e1,(om:e+k-k=e)]at this;rw[this];simp[hc]
 .have EH:=hn hc;have hs:=Fp X k hX;constructor
  .rintro⟨dh,E,r,r2,hf,h1,h2,h3,h4,h5,h6⟩;have t1:=yY X k e (E-p+1) om;have t2:=yY X k e (dh-p+1) om;refine⟨dh,E,r,r2,hf,om,h2,?_,?_,?_,h6⟩
   .rw[t1.2];exact h3
   .rw[t1.1];exact h4
   .rw[t2.1,t2.2];exact h5
  .rintro⟨dh,E,r,r2,hf,h1,h2,h3,h4,h5,h6⟩;have t1:=yY X k e (E-p+1) om;have t2:=yY X k e (dh-p+1) om;refine⟨dh,E,r,r2,hf,om,h2,?_,?_,?_,h6⟩
   .rw[<-t1.2];exact h3
   .rw[<-t1.1];exact h4
   .rw[<-t2.1,<-t2.2];exact h5
open Go.RowKit
def tu(h l:Int)(k:Nat):Int:=(h*18446744073709551616+l)*2^k%340282366920938463463374607431768211456/18446744073709551616
def tq(h l:Int)(k:Nat):Int:=(h*18446744073709551616+l)*2^k%340282366920938463463374607431768211456%18446744073709551616
def lY(h l:Int)(k:Nat):Int:=(h*18446744073709551616+l)/2^k/18446744073709551616
def lF(h l:Int)(k:Nat):Int:=(h*18446744073709551616+l)/2^k%18446744073709551616
def lU(h l:Int)(k:Nat):Bool:=decide (¬(h*18446744073709551616+l)%2^k=0)
namespace Sh
def split(k:Nat)(h:k<=64):2^k*2^(64-k)=18446744073709551616:=by
 rw[<-jY,(om:k+(64-k)=64)]
def pos(k:Nat):0<2^k:=iQ de
def aHK(A0 A1 P Q:Nat)(hPQ:P*Q=18446744073709551616)(hP:0<P)(h0:aI A0):
  A1*P%18446744073709551616=P*(A1%Q)/\A0/Q<P/\A1*P%18446744073709551616+A0/Q<18446744073709551616/\
  (A1*18446744073709551616+A0)*P%340282366920938463463374607431768211456/18446744073709551616=A1*P%18446744073709551616+A0/Q/\
  (A1*18446744073709551616+A0)*P%340282366920938463463374607431768211456%18446744073709551616=A0*P%18446744073709551616:=by
 have hQ:0<Q:=by
  rcases jL Q with h|h
  .rw[h]at hPQ;omega
  .exact h
 have e1:A1*P%18446744073709551616=P*(A1%Q):=by
  have:=Nat.mul_mod_mul_left P A1 Q;rw[hPQ]at this;rw[dM A1 P,this]
 have e2:A0*P/18446744073709551616=A0/Q:=by
  have:=Nat.mul_div_mul_left A0 Q hP;rw[hPQ]at this;rw[dM A0 P,this]
 have e3:A0/Q<P:=by
  apply Nat.div_lt_of_lt_mul;rw[dM];omega
 have e4:P*(A1%Q)+P<=18446744073709551616:=by
  have:A1%Q+1<=Q:=oN _ hQ;have:=Fh P this;rw[hPQ,Fj,kW]at this;exact this
 have e5:(A1*18446744073709551616+A0)*P=A1*P*18446744073709551616+A0*P:=by
  rw[Ak,Nat.mul_right_comm]
 rw[e5];refine⟨e1,e3,om,?_,?_⟩
 .generalize A1*P=U at*
  generalize A0*P=T at*
  generalize A0/Q=D at*
  generalize P*(A1%Q)=C at*
  omega
 .generalize A1*P=U at*
  generalize A0*P=T at*
  omega
def lw(A0 A1 P K:Nat):(A1*K+A0)*(K*P)=A1*P*(K*K)+A0*P*K:=by
 rw[Ak];simp only[dM,Oy]
def aEy(A0 A1 P:Nat):
  (A1*18446744073709551616+A0)*(18446744073709551616*P)%340282366920938463463374607431768211456/18446744073709551616=A0*P%18446744073709551616/\
  (A1*18446744073709551616+A0)*(18446744073709551616*P)%340282366920938463463374607431768211456%18446744073709551616=0:=by
 have e5:=lw A0 A1 P 18446744073709551616;rw[e5];generalize A1*P=U at*
 generalize A0*P=T at*
 omega
def aEc(A0 A1 P Q:Nat)(hPQ:P*Q=18446744073709551616)(hP:0<P)(h0:aI A0):
  A1*Q%18446744073709551616=Q*(A1%P)/\A0/P<Q/\A1*Q%18446744073709551616+A0/P<18446744073709551616/\
  (A1*18446744073709551616+A0)/P/18446744073709551616=A1/P/\
  (A1*18446744073709551616+A0)/P%18446744073709551616=A1*Q%18446744073709551616+A0/P:=by
 have hQ:0<Q:=by
  rcases jL Q with h|h
  .rw[h]at hPQ;omega
  .exact h
 have hQP:Q*P=18446744073709551616:=by rw[dM];exact hPQ
 have e1:A1*Q%18446744073709551616=Q*(A1%P):=by
  have:=Nat.mul_mod_mul_left Q A1 P;rw[hQP]at this;rw[dM A1 Q,this]
 have e2:A1*Q/18446744073709551616=A1/P:=by
  have:=Nat.mul_div_mul_left A1 P hQ;rw[hQP]at this;rw[dM A1 Q,this]
 have e3:A0/P<Q:=by
  apply Nat.div_lt_of_lt_mul;omega
 have e4:Q*(A1%P)+Q<=18446744073709551616:=by
  have:A1%P+1<=P:=oN _ hP;have:=Fh Q this;rw[hQP,Fj,kW]at this;exact this
 have e5:(A1*18446744073709551616+A0)/P=A1*Q+A0/P:=by
  have:A1*18446744073709551616=P*(A1*Q):=by rw[<-hPQ,Oy]
  rw[this,Nat.mul_add_div hP]
 rw[e5];refine⟨e1,e3,om,?_,?_⟩
 .generalize A1*Q=U at*
  generalize A0/P=D at*
  generalize A1/P=E at*
  generalize Q*(A1%P)=C at*
  omega
 .generalize A1*Q=U at*
  generalize A0/P=D at*
  generalize Q*(A1%P)=C at*
  omega
def H9(k:Nat)(c d:Nat)(h:d<2^k):(2^k*c)|||d=2^k*c+d:=(Nat.two_pow_add_eq_or_of_lt h c).symm
end Sh
def aDp(a0 a1:Int)(k:Nat)(h1:k<64)(zC:0<=a0)(kG:0<=a1)(L8:aI a0)(PD:aI a1):
  IntKind.u64.wrap (a0*2^k)=tq a1 a0 k/\bits .or Y (IntKind.u64.wrap (a1*2^k)) (a0/2^(64-k))=tu a1 a0 k:=by
 obtain⟨A0,rfl⟩:=lq zC;obtain⟨A1,rfl⟩:=lq kG;have hPQ:=Sh.split k om;obtain⟨f1,f2,f3,f4,f5⟩:=Sh.aHK A0 A1 (2^k) (2^(64-k)) hPQ (Sh.pos k) om;have c0:(A0:Int)*2^k=((A0*2^k:Nat):Int):=by push_cast;rfl
 have c1:(A1:Int)*2^k=((A1*2^k:Nat):Int):=by push_cast;rfl
 have c2:(A0:Int)/2^(64-k)=((A0/2^(64-k):Nat):Int):=by push_cast;rfl
 have c3:((A1:Int)*18446744073709551616+A0)*2^k=(((A1*18446744073709551616+A0)*2^k:Nat):Int):=by rw[(om:(A1:Int)*18446744073709551616+A0=((A1*18446744073709551616+A0:Nat):Int))];generalize A1*18446744073709551616+A0=V;push_cast;rfl
 unfold tq tu;rw[c0,c1,c2,c3,iT,iT];constructor
 .have:((A0*2^k:Nat):Int)%18446744073709551616=((A0*2^k%18446744073709551616:Nat):Int):=om;rw[this,<-f5];omega
 .have:((A1*2^k:Nat):Int)%18446744073709551616=((A1*2^k%18446744073709551616:Nat):Int):=om;rw[this,bits_or_u64_nat _ _ om om,f1,Sh.H9 k _ _ f2,<-f1,<-f4];omega
def aDq(a0 a1:Int)(j k:Nat)(hk:k=64+j)(zC:0<=a0)(kG:0<=a1):
  IntKind.u64.wrap (a0*2^j)=tu a1 a0 k/\0=tq a1 a0 k:=by
 obtain⟨A0,rfl⟩:=lq zC;obtain⟨A1,rfl⟩:=lq kG;have e:2^k=18446744073709551616*2^j:=by rw[hk,jY]
 obtain⟨f1,f2⟩:=Sh.aEy A0 A1 (2^j);have c0:(A0:Int)*2^j=((A0*2^j:Nat):Int):=by push_cast;rfl
 have c3:((A1:Int)*18446744073709551616+A0)*2^k=(((A1*18446744073709551616+A0)*2^k:Nat):Int):=by rw[(om:(A1:Int)*18446744073709551616+A0=((A1*18446744073709551616+A0:Nat):Int))];generalize A1*18446744073709551616+A0=V;push_cast;rfl
 unfold tq tu;rw[c0,c3,iT,e];omega
def aDm(a0 a1:Int)(k:Nat)(h1:k<64)(zC:0<=a0)(kG:0<=a1)(L8:aI a0)(PD:aI a1):
  bits .or Y (a0/2^k) (IntKind.u64.wrap (a1*2^(64-k)))=lF a1 a0 k/\a1/2^k=lY a1 a0 k:=by
 obtain⟨A0,rfl⟩:=lq zC;obtain⟨A1,rfl⟩:=lq kG;have hPQ:=Sh.split k om;obtain⟨f1,f2,f3,f4,f5⟩:=Sh.aEc A0 A1 (2^k) (2^(64-k)) hPQ (Sh.pos k) om;have c0:(A0:Int)/2^k=((A0/2^k:Nat):Int):=by push_cast;rfl
 have c1:(A1:Int)*2^(64-k)=((A1*2^(64-k):Nat):Int):=by push_cast;rfl
 have c2:(A1:Int)/2^k=((A1/2^k:Nat):Int):=by push_cast;rfl
 have c3:((A1:Int)*18446744073709551616+A0)/2^k=(((A1*18446744073709551616+A0)/2^k:Nat):Int):=by rw[(om:(A1:Int)*18446744073709551616+A0=((A1*18446744073709551616+A0:Nat):Int))];generalize A1*18446744073709551616+A0=V;push_cast;rfl
 unfold lF lY;rw[c0,c1,c2,c3,iT];constructor
 .have:((A1*2^(64-k):Nat):Int)%18446744073709551616=((A1*2^(64-k)%18446744073709551616:Nat):Int):=om;rw[this,bits_or_u64_nat _ _ om om,Nat.or_comm,f1,Sh.H9 _ _ _ f2,<-f1,<-f5];omega
 .rw[<-f4];omega
def aDn(a0 a1:Int)(j k:Nat)(hk:k=64+j)(zC:0<=a0)(kG:0<=a1)(L8:aI a0)(PD:aI a1):
  a1/2^j=lF a1 a0 k/\0=lY a1 a0 k:=by
 obtain⟨A0,rfl⟩:=lq zC;obtain⟨A1,rfl⟩:=lq kG;have e:2^k=18446744073709551616*2^j:=by rw[hk,jY]
 have c2:(A1:Int)/2^j=((A1/2^j:Nat):Int):=by push_cast;rfl
 have c3:((A1:Int)*18446744073709551616+A0)/2^k=(((A1*18446744073709551616+A0)/2^k:Nat):Int):=by rw[(om:(A1:Int)*18446744073709551616+A0=((A1*18446744073709551616+A0:Nat):Int))];generalize A1*18446744073709551616+A0=V;push_cast;rfl
 unfold lF lY;rw[c2,c3,e,<-LK];have e1:(A1*18446744073709551616+A0)/18446744073709551616=A1:=om;rw[e1];have:=Nat.div_le_self A1 (2^j);generalize A1/2^j=D at*
 omega
def Xh(h l:Int)(k:Nat):(h*18446744073709551616+l)/2^(k+1)=(h*18446744073709551616+l)/2^k/2:=by
 rw[Int.pow_succ,Int.ediv_ediv_of_nonneg (Int.pow_nonneg de)]
def bnd(n:Int):Int:=if n<0 then 0 else if 128<n then 128 else n
open Go.RowKit
def TS{w:ak}{o:Obj}{t:TypeId}{x x' y y':Int}(h1:x=x')(h2:y=y'):(w.alloc (.cells #[J Y x,J Y y] t)).alloc o=(w.alloc (.cells #[J Y x',J Y y'] t)).alloc o:=by rw[h1,h2]
set_option maxHeartbeats 40000000
def aMV{P:Prop}(h:P:=by
 go_wp2_with (go_at_call 326;refine(H _).mono ?_;rintro e w' ⟨rfl,rfl⟩);clear H;refine wp_loop_rounds 3 ?_;exact aCe):P:=h
def aCe{P:Prop}(h:P:=by
 rw[uP];go_wp2;go_returns;exact⟨Si (HM.out.1) (HM.out.2),⟨by go_grown,by go_grown⟩⟩):P:=h
def vC(n:Int)(w:ak):
  CT 326 #[J .i64 n] w λe w'=>e=.returned (J .i64 (bnd n))/\w'=w:=by
 go_enter func326,ntmps326;go_wp2;all_goals go_returns<;>(refine⟨?_,rfl⟩;refine b_ ?_;refine lu (Value.int IntKind.i64) ?_;unfold bnd;(repeat' split)<;>omega)
def aKC(a0 a1 n:Int)(k:Nat)(hn:bnd n=(k:Int))(h1:k<64)(zC:0<=a0)(kG:0<=a1)(L8:aI a0)(PD:aI a1)(w:ak):
  QR 302 #[aS a0 a1,J .i64 n] w (aS (tq a1 a0 k) (tu a1 a0 k)):=by
 have HM:Hid (_/\_):=aDp a0 a1 k h1 zC kG L8 PD;have H:=vC n;rw[hn]at H;have hs:(k:Int)/64=0:=om;have YA:(k:Int)%64=k:=om;clear hn;go_enter func302,ntmps302;go_wp2_with (go_at_call 326;refine(H _).mono ?_;rintro e w' ⟨rfl,rfl⟩);clear H;refine wp_loop_rounds 3 ?_;rw[uP];go_wp2;rw[uP];go_wp2;go_region;go_wp2;exact aCe
def aHL(a0 a1 n:Int)(k:Nat)(j:Nat)(hn:bnd n=(k:Int))(hk:k=64+j)(hj:j<64)(zC:0<=a0)(kG:0<=a1)(L8:aI a0)(PD:aI a1)(w:ak):
  QR 302 #[aS a0 a1,J .i64 n] w (aS (tq a1 a0 k) (tu a1 a0 k)):=by
 have HM:Hid (_/\_):=aDq a0 a1 j k hk zC kG;have H:=vC n;rw[hn]at H;have hs:(k:Int)/64=1:=om;have YA:(k:Int)%64=j:=om;clear hk;clear hn;go_enter func302,ntmps302;go_wp2_with (go_at_call 326;refine(H _).mono ?_;rintro e w' ⟨rfl,rfl⟩);clear H;refine wp_loop_rounds 3 ?_;rw[uP];go_wp2;rw[uP];go_wp2;go_returns;exact⟨Si (HM.out.2) (HM.out.1),⟨by go_grown,by go_grown⟩⟩
def aG3(a0 a1 n:Int)(k:Nat)(hn:bnd n=(k:Int))(h1:k<64)(zC:0<=a0)(kG:0<=a1)(L8:aI a0)(PD:aI a1)(w:ak):
  QR 301 #[aS a0 a1,J .i64 n] w (aS (lF a1 a0 k) (lY a1 a0 k)):=by
 have HM:Hid (_/\_):=aDm a0 a1 k h1 zC kG L8 PD;have H:=vC n;rw[hn]at H;have hs:(k:Int)/64=0:=om;have YA:(k:Int)%64=k:=om;clear hn;go_enter func301,ntmps301;go_wp2_with (go_at_call 326;refine(H _).mono ?_;rintro e w' ⟨rfl,rfl⟩);clear H;refine wp_loop_rounds 3 ?_;rw[uP];go_wp2;go_region;go_wp2;rw[uP];go_wp2;exact aCe
def aEd(a0 a1 n:Int)(k:Nat)(j:Nat)(hn:bnd n=(k:Int))(hk:k=64+j)(hj:j<64)(zC:0<=a0)(kG:0<=a1)(L8:aI a0)(PD:aI a1)(w:ak):
  QR 301 #[aS a0 a1,J .i64 n] w (aS (lF a1 a0 k) (lY a1 a0 k)):=by
 have HM:Hid (_/\_):=aDn a0 a1 j k hk zC kG L8 PD;have H:=vC n;rw[hn]at H;have hs:(k:Int)/64=1:=om;have YA:(k:Int)%64=j:=om;clear hk;clear hn;go_enter func301,ntmps301;go_wp2_with (go_at_call 326;refine(H _).mono ?_;rintro e w' ⟨rfl,rfl⟩);clear H;refine wp_loop_rounds 3 ?_;rw[uP];go_wp2;exact aCe
def aJO(a0 a1:Int)(zC:0<=a0)(kG:0<=a1):0=tq a1 a0 128/\0=tu a1 a0 128:=by
 have e:(2:Int)^128=340282366920938463463374607431768211456:=de;unfold tq tu;rw[e];omega
def aJL(a0 a1:Int)(zC:0<=a0)(kG:0<=a1)(L8:aI a0)(PD:aI a1):0=lF a1 a0 128/\0=lY a1 a0 128:=by
 have e:(2:Int)^128=340282366920938463463374607431768211456:=de;unfold lF lY;rw[e];omega
def aHM(a0 a1 n:Int)(k:Nat)(hn:bnd n=(k:Int))(hk:k=128)(zC:0<=a0)(kG:0<=a1)(L8:aI a0)(PD:aI a1)(w:ak):
  QR 302 #[aS a0 a1,J .i64 n] w (aS (tq a1 a0 k) (tu a1 a0 k)):=by
 have HM:Hid (_/\_):=aJO a0 a1 zC kG;have H:=vC n;rw[hn]at H;subst hk;clear hn;go_enter func302,ntmps302;exact aMV
def aEe(a0 a1 n:Int)(k:Nat)(hn:bnd n=(k:Int))(hk:k=128)(zC:0<=a0)(kG:0<=a1)(L8:aI a0)(PD:aI a1)(w:ak):
  QR 301 #[aS a0 a1,J .i64 n] w (aS (lF a1 a0 k) (lY a1 a0 k)):=by
 have HM:Hid (_/\_):=aJL a0 a1 zC kG L8 PD;have H:=vC n;rw[hn]at H;subst hk;clear hn;go_enter func301,ntmps301;exact aMV
def Yf(a0 a1 n:Int)(zC:0<=a0)(kG:0<=a1)(L8:aI a0)(PD:aI a1)(w:ak):
  QR 302 #[aS a0 a1,J .i64 n] w (aS (tq a1 a0 (bnd n).toNat) (tu a1 a0 (bnd n).toNat)):=by
 have hb:0<=bnd n/\bnd n<=128:=by unfold bnd;(repeat' split)<;>omega
 obtain⟨k,hk⟩:=lq hb.1;have ek:(bnd n).toNat =k:=om;rw[ek];rcases uq k 64 with h|h
 .exact aKC a0 a1 n k hk h zC kG L8 PD w
 .rcases uq k 128 with h'|h'
  .exact aHL a0 a1 n k (k-64) hk om om zC kG L8 PD w
  .exact aHM a0 a1 n k hk om zC kG L8 PD w
def aEf(a0 a1 n:Int)(zC:0<=a0)(kG:0<=a1)(L8:aI a0)(PD:aI a1)(w:ak):
  QR 301 #[aS a0 a1,J .i64 n] w (aS (lF a1 a0 (bnd n).toNat) (lY a1 a0 (bnd n).toNat)):=by
 have hb:0<=bnd n/\bnd n<=128:=by unfold bnd;(repeat' split)<;>omega
 obtain⟨k,hk⟩:=lq hb.1;have ek:(bnd n).toNat =k:=om;rw[ek];rcases uq k 64 with h|h
 .exact aG3 a0 a1 n k hk h zC kG L8 PD w
 .rcases uq k 128 with h'|h'
  .exact aEd a0 a1 n k (k-64) hk om om zC kG L8 PD w
  .exact aEe a0 a1 n k hk om zC kG L8 PD w
def EO(a0 a1:Int)(w:ak):
  CT 248 #[aS a0 a1] w λe w'=>e=.returned (aS a1 a0)/\∃c1 c2:Array Value,w'=(w.alloc (.cells c1 257)).alloc (.cells c2 185):=by
 go_enter func248,ntmps248;go_wp2;go_returns;exact⟨rfl,_,_,rfl⟩
def sW(a0 a1:Int)(w:ak):
  CT 300 #[aS a1 a0] w λe w'=>e=.returned (aS a0 a1)/\∃c1 c2:Array Value,w'=(w.alloc (.cells c1 185)).alloc (.cells c2 257):=by
 go_enter func300,ntmps300;go_wp2;go_returns;exact⟨rfl,_,_,rfl⟩
def aB0(a0 a1:Int)(w:ak):
  QR 248 #[aS a0 a1] w (aS a1 a0):=by
 refine(EO a0 a1 w).mono ?_;rintro e w' ⟨rfl,c1,c2,rfl⟩;exact⟨rfl,kr⟩
def gu(aG s:Int):Nat:=
 if aG=0 then(if s=1 then 2147483648 else 2147483647)
 else if aG=1 then(if s=1 then 9223372036854775808 else 9223372036854775807)
 else if aG=2 then(if s=1 then 0 else 4294967295)
 else if aG=3 then(if s=1 then 0 else 18446744073709551615)
 else 0
def g_(aG w:Int):Int:=if(aG=0\/aG=1)/\9223372036854775808<=w then 1 else 0
def jQ(aG w:Int):Nat:=if(aG=0\/aG=1)/\9223372036854775808<=w then(18446744073709551616-w).toNat else w.toNat
def Xg(aG w:Int):g_ aG w=0\/g_ aG w=1:=by unfold g_;split<;>simp
def Fv(aG w:Int)(h0:0<=w)(h1:aI w):jQ aG w<18446744073709551616:=by unfold jQ;split<;>omega
def jk(aG w:Int):Bool:=decide ((0<=aG/\aG<=3)/\jQ aG w<=gu aG (g_ aG w))
def mM(a b:Int):Int:=if a<b then-1 else if b<a then 1 else 0
def zO{a b:Int}(h:a<b):mM a b=-1:=by unfold mM;rw[aQ h]
def zQ{a b:Int}(h:b<a):mM a b=1:=by unfold mM;rw[aH om,aQ h]
def xB{a b:Int}(h:a=b):mM a b=0:=by unfold mM;rw[aH om,aH (by omega)]
def y8(a:Int):mM a a=0:=xB rfl
def MP(a b:Int):mM a b=-1\/mM a b=0\/mM a b=1:=by unfold mM;split<;>(try split)<;>omega
def or3(a b c:Int):Int:=if a≠0 then a else if b≠0 then b else c
def ET:List Int:=[12311384997445461060,6896949616398116700,3175666228297764653,1183806766059182244,353476207714659139,83907343225073545,15749660485982248,2328616999791800,270433320942720,24618334939658,1753979576257,97691228987,4249834529,144306183,3822728,78971,1272,16]
def vH(i:Nat):Int:=ET.getD i 0
def sZ:Array Value:=#[J Y 12311384997445461060,J Y 6896949616398116700,J Y 3175666228297764653,J Y 1183806766059182244,J Y 353476207714659139,J Y 83907343225073545,J Y 15749660485982248,J Y 2328616999791800,J Y 270433320942720,J Y 24618334939658,J Y 1753979576257,J Y 97691228987,J Y 4249834529,J Y 144306183,J Y 3822728,J Y 78971,J Y 1272,J Y 16]
def WX(i:Nat)(h:i<18):sZ[i]?=some (J Y (vH i)):=by
 obtain rfl|rfl|rfl|rfl|rfl|rfl|rfl|rfl|rfl|rfl|rfl|rfl|rfl|rfl|rfl|rfl|rfl|rfl:i=0\/i=1\/i=2\/i=3\/i=4\/i=5\/i=6\/i=7\/i=8\/i=9\/i=10\/i=11\/i=12\/i=13\/i=14\/i=15\/i=16\/i=17:=om
 all_goals rfl
def YO{P:Int->Prop}{l:List Int}(h:∀x ∈ l,P x)(h0:P 0)(i:Nat):P (l.getD i 0):=by
 rw[qF];cases e:l[i]? with
 |none=>exact h0
 |some x=>exact h x (List.mem_of_getElem? e)
def aGk(i:Nat):0<=vH i/\vH i<18446744073709551616:=YO (P:=λx=>0<=x/\aI x) (l:=ET) de de i
def above(f:Nat->Int)(u:Int):Nat->Nat
 |0=>0
 |k+1=>above f u k+if u<f k then 1 else 0
def Qa(f:Nat->Int)(u:Int)(k:Nat):above f u k<=k:=by
 induction k with
 |zero=>exact dJ _
 |succ k ih=>unfold above;split<;>omega
def lK(u:Int):Nat:=above vH u 18
def Gn(u:Int):lK u<=18:=Qa _ _ _
def Tl(w:ak):Prop:=∃t fr,w.heap[2]?=some (.cells sZ t fr)
def Tl.below{w w':ak}(h:Tl w)(b:Below w.heap.size w w'):Tl w':=by
 obtain⟨t,fr,h⟩:=h;refine⟨t,fr,?_⟩;have:2<w.heap.size:=by
  rcases uq 2 w.heap.size with k|k
  .exact k
  .simp[k]at h
 rw[Below.block b _ this];exact h
def aMW{P:Prop}(h:P:=by
 go_wp2;go_returns;have e:(k:Int)=bnd n:=by unfold bnd;(repeat' split)<;>omega
 exact⟨Ob (HF e).1 (HF e).2.1 (HF e).2.2,_,_,rfl⟩):P:=h
def SG(h l:Int)(k:Nat)(h0:0<=h)(l0:0<=l):lU h l (k+1)=(lU h l k||decide ((h*18446744073709551616+l)/2^k%2=1)):=by
 obtain⟨H,rfl⟩:=lq h0;obtain⟨L,rfl⟩:=lq l0;unfold lU;rw[(om:(H:Int)*18446744073709551616+L=((H*18446744073709551616+L:Nat):Int))];generalize H*18446744073709551616+L=V;have c1:(V:Int)%2^(k+1)=((V%2^(k+1):Nat):Int):=by push_cast;rfl
 have c2:(V:Int)%2^k=((V%2^k:Nat):Int):=by push_cast;rfl
 have c3:(V:Int)/2^k=((V/2^k:Nat):Int):=by push_cast;rfl
 rw[c1,c2,c3,jE,Nat.mod_mul];have hp:0<2^k:=iQ de;generalize 2^k=P at*
 generalize V%P=A at*
 generalize V/P=B at*
 rcases Nat.mod_two_eq_zero_or_one B with e|e
 .rw[e,Nat.mul_zero,Nat.add_zero];have:¬((B:Nat):Int)%2=1:=om;simp[this]
 .rw[e,kW];have:((B:Nat):Int)%2=1:=om;simp only[this,decide_true,Bool.or_true,decide_eq_true_eq];omega
def aEu(h l:Int):lU h l 0=false:=by
 unfold lU;rw[Int.pow_zero];simp[Int.emod_one]
def WZ(h l n:Int)(Tc:0<=h)(hl0:0<=l)(hh1:aI h)(qZ:aI l)(w:ak):
  CT 279 #[aS h l,J .i64 n] w λe w'=>e=.returned (.tuple #[aS (lY h l (bnd n).toNat) (lF h l (bnd n).toNat),.bool (lU h l (bnd n).toNat)])/\∃c1 c2:Array Value,w'=(w.alloc (.cells c1 185)).alloc (.cells c2 185):=by
 go_enter func279,ntmps279;go_wp2;go_loopw [6,7] (λb i wr=>∃(k:Nat) (X:Int) (L:Bool),k<=128/\((k:Int)<=n\/k=0)/\i=J .i64 k/\b=.bool L/\Hid (L=lU h l k)/\Hid (X=(h*18446744073709551616+l)/2^k)/\0<=X/\X<340282366920938463463374607431768211456/\wr=(w.alloc (.cells #[J Y (X/18446744073709551616),J Y (X%18446744073709551616)] 185)).alloc (.cells #[J Y 0,J Y 0] 185)) (λ_ i _=>128-(intOf i).toNat)
 case atStart=>exact⟨0,h*18446744073709551616+l,false,om,om,rfl,rfl,(aEu h l).symm,by show _=_;rw[Int.pow_zero];omega,om,om,TS om om⟩
 case round=>
  obtain⟨k,X,L,hk,hkn,rfl,rfl,HL,HX,x0,x1,rfl⟩:=hrel;have fin:∀(h2:(k:Int)=bnd n),X/18446744073709551616=lY h l (bnd n).toNat /\X%18446744073709551616=lF h l (bnd n).toNat /\L=lU h l (bnd n).toNat :=by
   intro h2;have:(bnd n).toNat =k:=om;unfold lY lF;rw[this,<-HX.out];exact⟨rfl,rfl,HL.out⟩
  have HF:Hid (_->_):=fin;clear fin;by_cases h1:(k:Int)<n
  .by_cases h2:(k:Int)<128
   .have hx2:0<=X/2/\X/2<340282366920938463463374607431768211456:=om;by_cases h3:X%18446744073709551616%2=1
    .have hl:Hid (true=lU h l (k+1)):=by show _=_;rw[SG h l k Tc hl0,<-HX.out,show decide (X%2=1)=true from h_ om,Bool.or_true]
     go_wp2;go_roundw
     case rel=>exact⟨k+1,X/2,true,om,om,jS,rfl,hl,by show _=_;rw[HX.out,Xh],hx2.1,hx2.2,TS (by first|omega|(simp only[iT];omega)) (by first|omega|(simp only[iT];omega))⟩
     case measure=>exact qL
    .have hl:Hid (L=lU h l (k+1)):=by show _=_;rw[SG h l k Tc hl0,<-HX.out,show decide (X%2=1)=false from gV om,Bool.or_false,HL.out]
     have h3':X%18446744073709551616%2=0:=om;clear h3;go_wp2;go_roundw
     case rel=>exact⟨k+1,X/2,L,om,om,jS,rfl,hl,by show _=_;rw[HX.out,Xh],hx2.1,hx2.2,TS (by first|omega|(simp only[iT];omega)) (by first|omega|(simp only[iT];omega))⟩
     case measure=>exact qL
   .exact aMW
  .exact aMW
def uV(a b c d:Int)(w:ak):(Op.equalIn 10000 185 (aS a b) (aS c d)).run prog w=.ok (a==c&&b==d) w:=by
 have u3:=underlying71;have a3:=isAgg71;have z3:=sizeOf71;have hS:prog.underlying 185=some (.struct (prog.fieldsOf 185)):=by kernel_rfl
 rw[show(10000:Nat)=9999+1 from rfl,run_equalIn_agg w 9999 185 _ _ hS (by kernel_rfl)];simp only[Program.fieldsOf,underlying185];go_simp;by_cases h1:a=c<;>by_cases h2:b=d<;>simp[h1,h2]
