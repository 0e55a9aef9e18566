import Derived.WalkKit
import Derived.Lib.BitFns
import Derived.Test.YthoelefkjpjhfaaGreatDoorRows
import Derived.ProofKit
import Derived.Handy
import Derived.Deep.MidRow
set_option linter.all false
namespace Go.Proofs.YthoelefkjpjhfaaGreatDoor
variable {w W c:World}{b o n N m k F j i M:Nat}{v u:Value}{a p:Addr}{x x' y y' mn mx aN aj aP e z fl z' qQ:Int}{xs:Array Value}{rest b':Bool}{o1:Obj}{t:TypeId}
theorem om{P:Prop}(h:P:=by omega):P:=h
theorem de{P:Prop}(h:P:=by decide):P:=h
theorem wi{P:Prop}(h:P:=by rw[IntKind.wrap_i64];omega):P:=h
theorem wu{P:Prop}(h:P:=by rw[IntKind.wrap_u64];omega):P:=h
abbrev iK(M:Nat):Value:=.agg #[.int .u64 ((M/18446744073709551616:Nat):Int),.int .u64 ((M%18446744073709551616:Nat):Int)]
abbrev iP(p q r:Int)(M:Nat)(b:Bool)(u:Int):Value:=.agg #[.int .i64 p,.int .i64 q,.int .i64 r,.int .u64 ((M/18446744073709551616:Nat):Int),.int .u64 ((M%18446744073709551616:Nat):Int),.bool b,.int .i64 u]
def aH:=@if_neg
def aQ:=@if_pos
def gV:=@decide_eq_false
def h_:=@decide_eq_true
def bG:=@absurd
def gY:=@bodyPost_ret
def lu:=@congrArg
def uP:=@rounds_succ
def Am:=@beq_false_of_ne
def dV:=@World.size_alloc
def jW:=@World.size_setCell
def jg:=@World.size_drew
def dM:=@Nat.mul_comm
def jL:=@Nat.eq_zero_or_pos
def dJ:=@Nat.le_refl
def pU:=@Nat.pow_le_pow_right
def jE:=@Nat.pow_succ
def lq:=@Int.eq_ofNat_of_zero_le
def lQ:=@Nat.mod_eq_of_lt
def fV:=@Nat.zero_le
def iQ:=@Nat.pow_pos
def jY:=@Nat.pow_add
def kX:=@Nat.mul_assoc
def qF:=@List.getD_eq_getElem?_getD
def iT:=@IntKind.wrap_u64
def dI:=@IntKind.wrap_i64
def Ap:=@Array.getElem?_eq_some_iff
def LK:=@Nat.div_div_eq_div_mul
def Fh:=@Nat.mul_le_mul_left
def kW:=@Nat.mul_one
def xU:=@Nat.div_eq_of_lt
def Dj:=@List.getElem?_eq_getElem
def uq:=@Nat.lt_or_ge
def oN:=@Nat.mod_lt
def Aj:=@Nat.div_add_mod
def aEo:=@Nat.div_lt_iff_lt_mul
def Oy:=@Nat.mul_left_comm
def wP:=@Nat.pow_zero
def yI:=@Nat.le_trans
def Ie:=@Nat.lt_of_lt_of_le
def Bj:=@Int.mul_nonneg
def Fj:=@Nat.mul_add
def LJ:=@Nat.lt_of_le_of_lt
def Yv:=@Int.mul_le_mul_of_nonneg_left
def FH:=@Int.natCast_pow
def FI:=@Int.natCast_mul
def Ak:=@Nat.add_mul
def Oz:=@Nat.lt_trichotomy
def MZ:=@World.ownsRow_lit
abbrev ak:=World
abbrev aJ:=ByteArray
theorem dP{A:Type}(a:A):∃b,a=b:=⟨_,rfl⟩
theorem x_n{A:Type}(a:A):∃b,b=a:=⟨_,rfl⟩
theorem jA{P:Prop}(h:P:=by simp;omega):P:=h
abbrev zK(n:Nat):Prop:=¬9223372036854775807<n/\n<=9223372036854775807
theorem j_{P:Prop}(h:P:=by simp[go_sem]):P:=h
theorem jS{P:Prop}(h:P:=by go_num):P:=h
theorem qL{P:Prop}(h:P:=by simp[intOf]<;>omega):P:=h
theorem jK(n:Nat):0<4294967296^n:=Nat.pow_pos (by decide)
def dg(N j:Nat):Nat:=N/4294967296^j%4294967296
theorem l9(N j:Nat):dg N j<4294967296:=Nat.mod_lt _ (by decide)
def ZU(n N:Nat):List Value:=(List.range n).map λj=>Value.int .u32 (dg N j:Int)
theorem zF(n N:Nat):(ZU n N).length =n:=by simp[ZU]
theorem aFs(n N:Nat):ZU (n+1) N=ZU n N++[Value.int .u32 (dg N n:Int)]:=by simp[ZU,List.range_succ]
theorem EP(n N j:Nat)(h:j<n):(ZU n N)[j]?=some (Value.int .u32 (dg N j:Int)):=by simp[ZU,h]
theorem aFr(N:Nat):ZU 0 N=[]:=rfl
def Nm(n N:Nat):Prop:=N<4294967296^n/\(n=0\/4294967296^(n-1)<=N)
theorem Oo{a:Nat}(h:a<=b):4294967296^a<=4294967296^b:=Nat.pow_le_pow_right (by decide) h
theorem Nm.le(h:Nm n N)(k:N<4294967296^m):n<=m:=by
 rcases h.2 with h0|h1
 .omega
 .rcases Nat.lt_or_ge m n with c|c
  .have:=Oo (show m<=n-1 by omega);omega
  .exact c
theorem Nm.one(h:Nm n N)(k:Nm m N):n=m:=Nat.le_antisymm (h.le k.1) (k.le h.1)
theorem Nm.zero(h:Nm 0 N):N=0:=by have:=h.1;simp at this;exact this
theorem Nm.pos(h:Nm n N)(hn:0<n):0<N:=by
 rcases h.2 with h0|h1
 .omega
 .have:=jK (n-1);omega
theorem Nm.iff(h:Nm n N):n=0↔N=0:=by
 refine⟨λe=>by subst e;exact h.zero,λe=>?_⟩;rcases Nat.eq_zero_or_pos n with c|c
 .exact c
 .have:=h.pos c;omega
theorem sV(h:N<4294967296^n)(hj:n<=j):dg N j=0:=by
 have:=Oo hj;unfold dg;rw[Nat.div_eq_of_lt (by omega)]
theorem aBH(h:N<4294967296^(n+1)):dg N n=N/4294967296^n:=by
 unfold dg;refine Nat.mod_eq_of_lt ?_;rw[Nat.div_lt_iff_lt_mul (jK n),Nat.mul_comm,<-Nat.pow_succ];exact h
theorem SE(h:N<4294967296^(n+1))(h0:dg N n=0):N<4294967296^n:=by
 rw[aBH h]at h0;exact(Nat.div_eq_zero_iff_lt (jK n)).mp h0
theorem YP(h0:dg N n≠0):4294967296^n<=N:=by
 rcases Nat.lt_or_ge N (4294967296^n)with c|c
 .exact absurd (sV c (Nat.le_refl _)) h0
 .exact c
theorem rU(z:Nat):2^(32*z)=4294967296^z:=by rw[Nat.pow_mul]
theorem aDr(A s i c:Nat)(hc:c=A%4294967296^i*2^s/4294967296^i):
  A*2^s/4294967296^i%4294967296=(dg A i*2^s+c)%4294967296/\A%4294967296^(i+1)*2^s/4294967296^(i+1)=(dg A i*2^s+c)/4294967296:=by
 have hp:=jK i;refine⟨?_,?_⟩
 .have e:A*2^s=A%4294967296^i*2^s+4294967296^i*(A/4294967296^i*2^s):=by
   conv=>lhs;rw[<-Nat.mod_add_div A (4294967296^i)]
   rw[Nat.add_mul,Nat.mul_assoc]
  rw[e,Nat.add_mul_div_left _ _ hp,<-hc];unfold dg;rw[Nat.add_comm];rw[Nat.add_mod,Nat.mul_mod]
  conv=>rhs;rw[Nat.add_mod,Nat.mul_mod,Nat.mod_mod]
 .have e:A%4294967296^(i+1)*2^s=A%4294967296^i*2^s+4294967296^i*(dg A i*2^s):=by
   rw[Nat.pow_succ,Nat.mod_mul,Nat.add_mul,Nat.mul_assoc];rfl
  rw[e,Nat.pow_succ,<-Nat.div_div_eq_div_mul,Nat.add_mul_div_left _ _ hp,<-hc,Nat.add_comm]
theorem aJM(A s z j:Nat)(h:j<z):dg (A*2^(32*z+s)) j=0:=by
 unfold dg;obtain⟨k,rfl⟩:∃k,z=j+(k+1):=⟨z-j-1,by omega⟩;rw[Nat.pow_add,rU,Nat.pow_add,Nat.pow_succ];have e:A*(4294967296^j*(4294967296^k*4294967296)*2^s)=4294967296^j*(4294967296*(A*4294967296^k*2^s)):=by
  simp only[Nat.mul_assoc,Nat.mul_left_comm,Nat.mul_comm]
 rw[e,Nat.mul_div_cancel_left _ (jK j),Nat.mul_mod_right]
theorem aGq(A s z i:Nat):dg (A*2^(32*z+s)) (z+i)=A*2^s/4294967296^i%4294967296:=by
 unfold dg;have e:A*2^(32*z+s)=4294967296^z*(A*2^s):=by
  rw[Nat.pow_add,rU];simp only[Nat.mul_assoc,Nat.mul_left_comm,Nat.mul_comm]
 rw[e,Nat.pow_add,Nat.mul_div_mul_left _ _ (jK z)]
theorem aJN(A s z n:Nat)(h:A<4294967296^n)(hs:s<32):dg (A*2^(32*z+s)) (z+n)=A%4294967296^n*2^s/4294967296^n/\A*2^(32*z+s)<4294967296^(z+n+1):=by
 have hb:A*2^s<4294967296^n*4294967296:=by
  have h1:2^s<=2^32:=Nat.pow_le_pow_right (by decide) (by omega);have h2:A*2^s<=A*4294967296:=Nat.mul_le_mul_left _ h1;omega
 refine⟨?_,?_⟩
 .rw[aGq,Nat.mod_eq_of_lt h];exact Nat.mod_eq_of_lt ((Nat.div_lt_iff_lt_mul (jK n)).mpr (by omega))
 .have e:A*2^(32*z+s)=4294967296^z*(A*2^s):=by
   rw[Nat.pow_add,rU];simp only[Nat.mul_assoc,Nat.mul_left_comm,Nat.mul_comm]
  rw[e,Nat.add_assoc,Nat.pow_add];exact Nat.mul_lt_mul_of_pos_left (by rw[Nat.pow_succ];exact hb) (jK z)
theorem aDo(d s c:Nat)(hd:d<4294967296)(hs:s<32)(hc:c<4294967296):d*2^s+c<18446744073709551616/\d*2^s<18446744073709551616:=by
 have h1:2^s<=2^31:=Nat.pow_le_pow_right (by decide) (by omega);have h2:d*2^s<=d*2147483648:=Nat.mul_le_mul_left _ h1;omega
theorem Ur(A s i:Nat)(hs:s<32):A%4294967296^i*2^s/4294967296^i<4294967296:=by
 rw[Nat.div_lt_iff_lt_mul (jK i)];have h0:=Nat.mod_lt A (jK i);have h1:2^s<=2^32:=Nat.pow_le_pow_right (by decide) (by omega);have h2:A%4294967296^i*2^s<=A%4294967296^i*4294967296:=Nat.mul_le_mul_left _ h1;omega
theorem aNZ(A s z k:Nat)(hs:s<32):dg (A/2^(32*z+s)) k=(dg A (z+k)+dg A (z+k+1)*4294967296)/2^s%4294967296:=by
 have e0:A/2^(32*z+s)/4294967296^k=A/4294967296^(z+k)/2^s:=by
  rw[Nat.div_div_eq_div_mul,Nat.div_div_eq_div_mul,Nat.pow_add,rU,Nat.pow_add]
  congr 1
  simp only[Nat.mul_assoc,Nat.mul_left_comm,Nat.mul_comm]
 have e1:dg A (z+k)+dg A (z+k+1)*4294967296=A/4294967296^(z+k)%(4294967296*4294967296):=by
  unfold dg;rw[Nat.mod_mul,Nat.pow_succ,<-Nat.div_div_eq_div_mul,Nat.mul_comm 4294967296]
 rw[e1];unfold dg;rw[e0];generalize A/4294967296^(z+k)=q;have e2:(2:Nat)^s*4294967296 ∣ 4294967296*4294967296:=by
  refine Nat.mul_dvd_mul_right ?_ 4294967296;rw[show(4294967296:Nat)=2^32 from rfl];exact Nat.pow_dvd_pow 2 (by omega)
 rw[<-Nat.mod_mul_right_div_self,<-Nat.mod_mul_right_div_self (q%(4294967296*4294967296)),Nat.mod_mod_of_dvd q e2]
theorem aNY(A s z n:Nat)(h:A<4294967296^n)(hz:z<=n):A/2^(32*z+s)<4294967296^(n-z):=by
 have hp:0<2^(32*z+s):=Nat.pow_pos (by decide);rw[Nat.div_lt_iff_lt_mul hp];have e:4294967296^n=4294967296^(n-z)*4294967296^z:=by rw[<-Nat.pow_add];congr 1;omega
 have e2:(4294967296:Nat)^z<=2^(32*z+s):=by rw[<-rU];exact Nat.pow_le_pow_right (by decide) (by omega)
 have:=Nat.mul_le_mul_left (4294967296^(n-z)) e2;omega
theorem aGp(A s z n:Nat)(h:A<4294967296^n)(hz:n<=z):A/2^(32*z+s)=0:=by
 refine Nat.div_eq_of_lt ?_;have e2:(4294967296:Nat)^n<=2^(32*z+s):=by rw[<-rU];exact Nat.pow_le_pow_right (by decide) (by omega)
 omega
theorem TF(a b i c:Nat)(hc:c=(a%4294967296^i+b%4294967296^i)/4294967296^i):
  dg (a+b) i=(c+dg a i+dg b i)%4294967296/\(a%4294967296^(i+1)+b%4294967296^(i+1))/4294967296^(i+1)=(c+dg a i+dg b i)/4294967296/\c<=1:=by
 have hp:=jK i;refine⟨?_,?_,?_⟩
 .have e:a+b=(a%4294967296^i+b%4294967296^i)+4294967296^i*(a/4294967296^i+b/4294967296^i):=by
   have h1:=Nat.mod_add_div a (4294967296^i);have h2:=Nat.mod_add_div b (4294967296^i);rw[Nat.mul_add];omega
  have e2:(a+b)/4294967296^i=c+(a/4294967296^i+b/4294967296^i):=by
   conv=>lhs;rw[e]
   rw[Nat.add_mul_div_left _ _ hp,<-hc]
  unfold dg;rw[e2];omega
 .have e:a%4294967296^(i+1)+b%4294967296^(i+1)=(a%4294967296^i+b%4294967296^i)+4294967296^i*(dg a i+dg b i):=by
   rw[Nat.pow_succ,Nat.mod_mul,Nat.mod_mul,Nat.mul_add];unfold dg;omega
  rw[e,Nat.pow_succ,<-Nat.div_div_eq_div_mul,Nat.add_mul_div_left _ _ hp,<-hc,Nat.add_assoc]
 .have h1:=Nat.mod_lt a hp;have h2:=Nat.mod_lt b hp;have:c<2:=by rw[hc,Nat.div_lt_iff_lt_mul hp];omega
  omega
theorem II{a:Nat}(ha:a<4294967296^n)(hb:b<4294967296^m)(hn:n<=k)(hm:m<=k):a+b<4294967296^(k+1):=by
 have h1:=Oo hn;have h2:=Oo hm;rw[Nat.pow_succ];omega
theorem aC6{a:Nat}(ha:a<4294967296^n)(hb:b<4294967296^m)(hn:n<=k)(hm:m<=k):dg (a+b) k=(a%4294967296^k+b%4294967296^k)/4294967296^k:=by
 have h1:=Oo hn;have h2:=Oo hm;rw[aBH (II ha hb hn hm),Nat.mod_eq_of_lt (by omega),Nat.mod_eq_of_lt (by omega)]
def ZO(a b i:Nat):Nat:=if a%4294967296^i<b%4294967296^i then 1 else 0
theorem aBR(a b i:Nat):ZO a b i<=1:=by unfold ZO;split<;>omega
theorem aJE(a b i:Nat)(h:b<=a):(a-b)/4294967296^i=a/4294967296^i-b/4294967296^i-ZO a b i/\b/4294967296^i+ZO a b i<=a/4294967296^i:=by
 have hp:=jK i;have h1:=Nat.mod_add_div a (4294967296^i);have h2:=Nat.mod_add_div b (4294967296^i);have h3:=Nat.mod_lt a hp;have h4:=Nat.mod_lt b hp;unfold ZO;generalize 4294967296^i=P at*
 generalize a/P=qa at*
 generalize b/P=qb at*
 generalize a%P=ra at*
 generalize b%P=rb at*
 have hq:qb+(if ra<rb then 1 else 0)<=qa:=by
  rcases Nat.lt_or_ge qa (qb+(if ra<rb then 1 else 0))with c|c
  .exfalso;split at c
   .have:=Nat.mul_le_mul_left P (show qa<=qb by omega);omega
   .have:=Nat.mul_le_mul_left P (show qa+1<=qb by omega);rw[Nat.mul_add]at this;omega
  .exact c
 refine⟨?_,hq⟩;split
 .rename_i fJ
  rw[if_pos fJ]at hq;obtain⟨t,rfl⟩:∃t,qa=qb+1+t:=⟨qa-(qb+1),by omega⟩;have e:a-b=(P+ra-rb)+P*t:=by
   rw[Nat.mul_add,Nat.mul_add]at h1;omega
  rw[e,Nat.add_mul_div_left _ _ hp,Nat.div_eq_of_lt (by omega)];omega
 .rename_i fJ
  rw[if_neg fJ]at hq;obtain⟨t,rfl⟩:∃t,qa=qb+t:=⟨qa-qb,by omega⟩;have e:a-b=(ra-rb)+P*t:=by
   rw[Nat.mul_add]at h1;omega
  rw[e,Nat.add_mul_div_left _ _ hp,Nat.div_eq_of_lt (by omega)];omega
theorem Zh(a b i:Nat):ZO a b (i+1)=if dg a i<dg b i+ZO a b i then 1 else 0:=by
 have hp:=jK i;have h3:=Nat.mod_lt a hp;have h4:=Nat.mod_lt b hp;unfold ZO;rw[Nat.pow_succ,Nat.mod_mul,Nat.mod_mul];show(if a%4294967296^i+4294967296^i*dg a i<b%4294967296^i+4294967296^i*dg b i then 1 else 0)=_;generalize dg a i=da at*
 generalize dg b i=db at*
 generalize 4294967296^i=P at*
 generalize a%P=ra at*
 generalize b%P=rb at*
 rcases Nat.lt_trichotomy da db with c|c|c
 .have:=Nat.mul_le_mul_left P (show da+1<=db by omega);rw[Nat.mul_add]at this;rw[if_pos (by omega),if_pos (by omega)]
 .subst c;by_cases k:ra<rb
  .rw[if_pos (by omega),if_pos k,if_pos (by omega)]
  .rw[if_neg (by omega),if_neg k,if_neg (by omega)]
 .have:=Nat.mul_le_mul_left P (show db+1<=da by omega);rw[Nat.mul_add]at this;rw[if_neg (by omega)];by_cases k:ra<rb
  .rw[if_pos k,if_neg (by omega)]
  .rw[if_neg k,if_neg (by omega)]
theorem aGm(a b i:Nat)(h:b<=a):dg (a-b) i=if dg a i<dg b i+ZO a b i then dg a i+4294967296-(dg b i+ZO a b i)else dg a i-(dg b i+ZO a b i):=by
 obtain⟨e,hq⟩:=aJE a b i h;have hb:=aBR a b i;unfold dg;rw[e];generalize ZO a b i=r at*
 generalize a/4294967296^i=qa at*
 generalize b/4294967296^i=qb at*
 split<;>omega
theorem Zg(a b:Nat):ZO a b 0=0:=by simp[ZO,Nat.mod_one]
theorem aLn{a:Nat}(h:a/4294967296^(i+1)=b/4294967296^(i+1)):(dg a i<dg b i->a<b)/\(dg b i<dg a i->b<a)/\(dg a i=dg b i->a/4294967296^i=b/4294967296^i):=by
 have e1:=Nat.div_add_mod (a/4294967296^i) 4294967296;have e2:=Nat.div_add_mod (b/4294967296^i) 4294967296;rw[Nat.pow_succ,<-Nat.div_div_eq_div_mul,<-Nat.div_div_eq_div_mul]at h;have m1:a<b\/b/4294967296^i<=a/4294967296^i:=by
  rcases Nat.lt_or_ge a b with c|c
  .exact .inl c
  .exact .inr (Nat.div_le_div_right c)
 have m2:b<a\/a/4294967296^i<=b/4294967296^i:=by
  rcases Nat.lt_or_ge b a with c|c
  .exact .inl c
  .exact .inr (Nat.div_le_div_right c)
 unfold dg;generalize a/4294967296^i=qa at*
 generalize b/4294967296^i=qb at*
 refine⟨λk=>?_,λk=>?_,λk=>?_⟩<;>omega
theorem Nm.lt{a:Nat}(h:Nm n a)(k:Nm m b)(hl:n<m):a<b:=by
 have:=h.1;have h2:=Oo (show n<=m-1 by omega);rcases k.2 with k0|k1<;>omega
theorem aDa(N i:Nat):N/4294967296^(i+1)*4294967296+dg N i=N/4294967296^i:=by
 unfold dg;rw[Nat.pow_succ,<-Nat.div_div_eq_div_mul];have:=Nat.div_add_mod (N/4294967296^i) 4294967296;omega
def nb(N:Nat):Nat:=if N=0 then 0 else Nat.log2 N+1
theorem MJ:nb 0=0:=rfl
theorem U5(N:Nat)(h:0<N):nb N=1+nb (N/2):=by
 unfold nb;rw[if_neg (by omega),Nat.log2_def];split
 .rw[if_neg (by omega)];omega
 .rw[if_pos (by omega)]
theorem Fp(N k:Nat)(h:0<N/2^k):nb N=k+nb (N/2^k):=by
 induction k with
 |zero=>simp
 |succ k ih=>
  have e:N/2^(k+1)=N/2^k/2:=by rw[Nat.pow_succ,<-Nat.div_div_eq_div_mul]
  rw[e]at h⊢
  have h2:0<N/2^k:=by omega
  rw[ih h2,U5 _ h2];omega
theorem Bc(N:Nat):N<2^nb N:=by
 unfold nb;split
 .rename_i h;subst h;decide
 .exact Nat.lt_log2_self
theorem X_(N:Nat)(h:0<N):2^(nb N-1)<=N:=by
 unfold nb;rw[if_neg (by omega)];exact Nat.log2_self_le (by omega)
theorem D8(N:Nat)(h:0<N):0<nb N:=by
 unfold nb;rw[if_neg (by omega)];omega
theorem vS(h:N<2^k):nb N<=k:=by
 rcases Nat.eq_zero_or_pos N with c|c
 .subst c;simp[MJ]
 .rcases Nat.lt_or_ge k (nb N)with d|d
  .have:=Nat.pow_le_pow_right (show 0<2 by decide) (show k<=nb N-1 by omega);have:=X_ N c;omega
  .exact d
theorem zY(h:2^k<=N):k<nb N:=by
 rcases Nat.lt_or_ge k (nb N)with d|d
 .exact d
 .have:=Nat.pow_le_pow_right (show 0<2 by decide) d;have:=Bc N;omega
theorem aOw(h:Nm (n+1) N):nb N=n*32+nb (dg N n)/\dg N n≠0:=by
 have e:4294967296^n=2^(32*n):=(rU n).symm;have h0:0<N/4294967296^n:=by
  rcases h.2 with c|c
  .omega
  .exact Nat.div_pos c (jK n)
 rw[aBH h.1];refine⟨?_,by omega⟩;rw[e]at h0⊢
 rw[Fp N (32*n) h0,Nat.mul_comm]
theorem aNe{P:Prop}(h:P:=by
 rcases Nat.eq_zero_or_pos (M/P%2)with c|c
 .exact c
 .have:1<=M/P%2:=c;have:=Nat.mul_le_mul_left P this;omega):P:=h
def dH(M:Nat)(e q:Int):Nat:=if q<=e then M*2^(e-q).toNat else M/2^(q-e).toNat
def hr(M d:Nat)(rest:Bool):Nat:=(if M/2^(d-1)%2=1 then 2 else 0)+(if M%2^(d-1)≠0\/rest=true then 1 else 0)
def bH(M:Nat)(e q:Int)(rest:Bool):Nat:=if q<=e then(if rest then 1 else 0)else hr M (q-e).toNat rest
def up(aj aP:Int)(lo half:Nat):Bool:=decide (aj=0/\(half=3\/half=2/\lo%2=1)\/aj=1/\2<=half\/aj=3/\0<half/\aP=0\/aj=4/\0<half/\aP=1)
def chosen(aj aP:Int)(lo half:Nat):Nat:=lo+(if up aj aP lo half then 1 else 0)
theorem aRf(M d:Nat)(rest:Bool):hr M d rest<=3:=by unfold hr;split<;>split<;>omega
theorem iZ(M:Nat)(e q:Int)(rest:Bool):bH M e q rest<=3:=by
 unfold bH;split
 .split<;>omega
 .exact aRf _ _ _
theorem BR(M d:Nat)(hd:1<=d):M%2^d=M%2^(d-1)+2^(d-1)*(M/2^(d-1)%2)/\M%2^(d-1)<2^(d-1)/\M/2^(d-1)%2<2:=by
 refine⟨?_,Nat.mod_lt _ (Nat.pow_pos (by decide)),Nat.mod_lt _ (by decide)⟩;obtain⟨k,rfl⟩:∃k,d=k+1:=⟨d-1,by omega⟩;rw[Nat.add_sub_cancel,Nat.pow_succ,Nat.mod_mul]
theorem FK(M d:Nat)(hd:1<=d)(h:M%2^d=0):hr M d false=0:=by
 obtain⟨e,a,b⟩:=BR M d hd;have p:0<2^(d-1):=Nat.pow_pos (by decide);unfold hr;generalize 2^(d-1)=P at*
 have h1:M/P%2=0:=by
  exact aNe
 rw[h1]at e;rw[if_neg (by omega),if_neg (by simp;omega)]
theorem aH5(M d:Nat)(rest:Bool)(hd:1<=d)(h:M%2^d<2^(d-1))(hn:M%2^d≠0\/rest=true):hr M d rest=1:=by
 obtain⟨e,a,b⟩:=BR M d hd;unfold hr;generalize 2^(d-1)=P at*
 have h1:M/P%2=0:=by
  exact aNe
 rw[h1]at e;rw[if_neg (by omega),if_pos];rcases hn with hn|hn
 .left;omega
 .right;exact hn
theorem aOT(M d:Nat)(hd:1<=d)(h:M%2^d=2^(d-1)):hr M d false=2:=by
 obtain⟨e,a,b⟩:=BR M d hd;unfold hr;generalize 2^(d-1)=P at*
 have h1:M/P%2=1:=by
  rcases(show M/P%2=0\/M/P%2=1 by omega)with c|c
  .rw[c]at e;omega
  .exact c
 rw[h1]at e;rw[if_pos h1,if_neg (by simp;omega)]
theorem YB(M d:Nat)(rest:Bool)(hd:1<=d)(h:2^(d-1)<=M%2^d)(hn:M%2^d≠2^(d-1)\/rest=true):hr M d rest=3:=by
 obtain⟨e,a,b⟩:=BR M d hd;unfold hr;generalize 2^(d-1)=P at*
 have h1:M/P%2=1:=by
  rcases(show M/P%2=0\/M/P%2=1 by omega)with c|c
  .rw[c]at e;omega
  .exact c
 rw[h1]at e;rw[if_pos h1,if_pos];rcases hn with hn|hn
 .left;omega
 .right;exact hn
def kN(aN aj aP:Int):Int:=if aj=0\/aj=1\/aj=3/\aP=0\/aj=4/\aP=1 then aN else aN-1
theorem gZ{a:Nat}(h:a<=b):2^a<=2^b:=Nat.pow_le_pow_right (by decide) h
theorem uf(M:Nat)(e q:Int)(P:Nat)(h:(nb M:Int)+e<=q+P):dH M e q<2^P:=by
 have hM:=Bc M;unfold dH;split
 .rename_i c
  have h1:M*2^(e-q).toNat <2^nb M*2^(e-q).toNat :=Nat.mul_lt_mul_of_pos_right hM (Nat.pow_pos (by decide));rw[<-Nat.pow_add]at h1;have h2:=gZ (show nb M+(e-q).toNat <=P by omega);omega
 .rename_i c
  rw[Nat.div_lt_iff_lt_mul (Nat.pow_pos (by decide)),<-Nat.pow_add];have h2:=gZ (show nb M<=P+(q-e).toNat by omega);omega
theorem PV(M:Nat)(e q:Int)(P:Nat)(hM0:0<M)(h:q+P<=(nb M:Int)+e-1):2^P<=dH M e q:=by
 have hM:=X_ M hM0;have hp:=D8 M hM0;unfold dH;split
 .rename_i c
  have h1:=Nat.mul_le_mul_right (2^(e-q).toNat) hM;rw[<-Nat.pow_add]at h1;have h2:=gZ (show P<=nb M-1+(e-q).toNat by omega);omega
 .rename_i c
  rw[Nat.le_div_iff_mul_le (Nat.pow_pos (by decide)),<-Nat.pow_add];have h2:=gZ (show P+(q-e).toNat <=nb M-1 by omega);omega
theorem mF(aj aP:Int)(lo half:Nat):lo<=chosen aj aP lo half/\chosen aj aP lo half<=lo+1:=by
 unfold chosen;split<;>omega
theorem aCV(M:Nat)(e q:Int)(rest:Bool)(hM:0<M)(h:(nb M:Int)+e<=q-1):dH M e q=0/\bH M e q rest=1:=by
 have h1:=Bc M;have hp:=D8 M hM;have hq:¬q<=e:=by omega
 obtain⟨d,hd⟩:∃d:Nat,(q-e).toNat =d+1:=⟨(q-e).toNat -1,by omega⟩;have h2:=gZ (show nb M<=d by omega);have h3:=gZ (show d<=d+1 by omega);refine⟨?_,?_⟩
 .unfold dH;rw[if_neg hq,hd];exact Nat.div_eq_of_lt (by omega)
 .unfold bH hr;have lM:M≠0:=by omega
  rw[if_neg hq,hd,Nat.add_sub_cancel,Nat.div_eq_of_lt (by omega),Nat.mod_eq_of_lt (show M<2^d by omega)];rw[if_neg (by decide),if_pos (Or.inl lM)]
def bM(p mn mx one aN aj aP:Int)(M:Nat)(e:Int)(rest:Bool)(z fl:Int):Prop:=
  ∃(dh E:Int) (r r2:Nat) (hf:Nat),dh=nb M+e-1/\(dh<mn/\E=mn\/mn<=dh/\E=dh)/\
    hf=bH M e (E-p+1) rest/\r=chosen aj aP (dH M e (E-p+1)) hf/\r2=chosen aj aP (dH M e (dh-p+1)) (bH M e (dh-p+1) rest)/\
    (mx<dh/\z=kN aN aj aP/\fl=20\/
     dh<=mx/\aN<=r+one*(E-mn)/\z=kN aN aj aP/\fl=20\/
     dh<=mx/\r+one*(E-mn)<aN/\z=r+one*(E-mn)/\(hf=0/\fl=0\/0<hf/\(dh<mn-1\/dh=mn-1/\(r2:Int)<2*one)/\fl=24\/0<hf/\(mn<=dh\/dh=mn-1/\2*one<=(r2:Int))/\fl=16))
theorem bM.one{p one:Int}(h:bM p mn mx one aN aj aP M e rest z fl)(h':bM p mn mx one aN aj aP M e rest z' qQ):z=z'/\fl=qQ:=by
 obtain⟨dh,E,r,r2,hf,h1,h2,h3,h4,h5,hc⟩:=h;obtain⟨top',E',r',r2',hf',h1',h2',h3',h4',h5',EK⟩:=h';have e1:dh=top':=by omega
 subst e1;have e2:E=E':=by omega
 subst e2;have e3:hf=hf':=by rw[h3,h3']
 subst e3;have e4:r=r':=by rw[h4,h4']
 subst e4;have e5:r2=r2':=by rw[h5,h5']
 subst e5;generalize one*(E-mn)=Y at*
 generalize kN aN aj aP=O at*
 rcases hc with⟨a,rfl,rfl⟩|⟨a,b,rfl,rfl⟩|⟨a,b,rfl,c⟩
 .rcases EK with⟨a',rfl,rfl⟩|⟨a',b',rfl,rfl⟩|⟨a',b',rfl,c'⟩
  .exact⟨rfl,rfl⟩
  .omega
  .omega
 .rcases EK with⟨a',rfl,rfl⟩|⟨a',b',rfl,rfl⟩|⟨a',b',rfl,c'⟩
  .omega
  .exact⟨rfl,rfl⟩
  .omega
 .rcases EK with⟨a',rfl,rfl⟩|⟨a',b',rfl,rfl⟩|⟨a',b',rfl,c'⟩
  .omega
  .omega
  .refine⟨rfl,?_⟩;omega
theorem CV(n:Nat)(h:n<18446744073709551616):Go.Lib.bitLen n=nb n:=by
 induction n using Nat.strongRecOn with
 |ind n ih=>
  rcases Nat.eq_zero_or_pos n with rfl|hp
  .decide+kernel
  .rw[Go.Lib.bitLen_half n (by omega) (by simpa using h),U5 n hp,ih (n/2) (by omega) (by omega)]
def sw(aP sg z:Int):Int:=if aP=1 then z+sg else z
open Go.RowKit
structure Gr (w w':World):Prop where
 grown:Grown w w'
 below:Below w.heap.size w w'
theorem Gr.refl(w:World):Gr w w:=⟨Grown.refl _,Below.refl _ _⟩
theorem Gr.trans{a b:World}(h:Gr a b)(k:Gr b c):Gr a c:=by
 obtain⟨⟨h1,h2,h3⟩,hb⟩:=h;obtain⟨⟨k1,k2,k3⟩,kb⟩:=k;exact⟨⟨World.keptBut_trans h1 ⟨k1.1,k1.2.1,λi hi=>k1.2.2 i (by omega)⟩,λx=>(k2 x).trans (h2 x),Nat.le_trans h3 k3⟩,hb.trans (kb.mono h3)⟩
theorem Gr.alloc(h:Gr W w)(c:Array Value)(t:TypeId):Gr W (w.alloc (.cells c t)):=⟨h.grown.alloc c t,h.below.alloc h.below.size _⟩
theorem Gr.drew(h:Gr W w):Gr W w.drew:=⟨h.grown.drew,h.below.drew⟩
theorem Gr.setCell(h:Gr W w)(ha:W.heap.size<=a.block)(v:Value):Gr W (w.setCell a v):=⟨h.grown.setCell ha v,h.below.setCell ha v⟩
theorem Gr.size(h:Gr W w):W.heap.size<=w.heap.size:=h.below.size
theorem Gr.cells(h:Gr W w):∀b o,b<W.heap.size->w.cell? ⟨b,o,none⟩=W.cell? ⟨b,o,none⟩:=λb o hb=>h.below.cell (p:=⟨b,o,none⟩) hb
theorem Gr.eY(h:Gr W w):∀a,w.frozen? a=W.frozen? a:=h.grown.2.1
theorem Gr.has(h:Gr W w)(hb:b<W.heap.size)(hv:W.cell? ⟨b,o,none⟩=some v):w.cell? ⟨b,o,none⟩=some v:=(h.cells b o hb).trans hv
theorem b_{a b:Value}(h:a=b):Ending.returned a=.returned b:=by rw[h]
theorem Ob{b:Bool}(h1:x=x')(h2:y=y')(h3:b=b'):Ending.returned (.tuple #[.agg #[.int .u64 x,.int .u64 y],.bool b])=.returned (.tuple #[.agg #[.int .u64 x',.int .u64 y'],.bool b']):=by rw[h1,h2,h3]
theorem Si(h1:x=x')(h2:y=y'):Ending.returned (.agg #[.int .u64 x,.int .u64 y])=.returned (.agg #[.int .u64 x',.int .u64 y']):=by rw[h1,h2]
theorem Gr.old(h:Gr W w)(hv:W.cell? ⟨b,o,none⟩=some v):w.cell? ⟨b,o,none⟩=some v:=by
 refine h.has ?_ hv;rcases Nat.lt_or_ge b W.heap.size with k|k
 .exact k
 .simp[World.cell?,k]at hv
theorem aA(hv:w.cell? ⟨b,o,none⟩=some v):b<w.heap.size:=by
 rcases Nat.lt_or_ge b w.heap.size with k|k
 .exact k
 .simp[World.cell?,k]at hv
theorem bC(ob:Obj)(hv:w.cell? ⟨b,o,none⟩=some v):(w.alloc ob).cell? ⟨b,o,none⟩=some v:=by
 have:=aA hv;exact(World.cell?_of_block (w:=w) (a:=⟨b,o,none⟩) (Below.heap_alloc w ob b this)).trans hv
theorem aZ(lM:p.block≠b)(hv:w.cell? ⟨b,o,none⟩=some v):(w.setCell p u).cell? ⟨b,o,none⟩=some v:=by
 rw[World.cell?_setCell_other]
 .exact hv
 .intro e;rw[e]at lM;exact lM rfl
theorem TA(o2:Obj)(hb:b<w.heap.size)(hv:(w.alloc o1).cell? ⟨b,o,none⟩=some v):(w.alloc o2).cell? ⟨b,o,none⟩=some v:=by
 refine bC o2 ?_;exact(World.cell?_of_block (w:=w) (a:=⟨b,o,none⟩) (Below.heap_alloc w o1 b hb)).symm.trans hv
theorem sH(hv:w.cell? a=some v):w.drew.cell? a=some v:=hv
theorem dG(hv:(w.cell? ⟨b,o,none⟩).isSome =true):(w.setCell ⟨b,o,none⟩ v).cell? ⟨b,o,none⟩=some v:=World.cell?_setCell_same' _ _ _ hv
theorem lI(hv:w.cell? a=some v):(w.cell? a).isSome =true:=by rw[hv];rfl
theorem Vt(h:Gr W w)(hv:(W.cell? ⟨b,o,none⟩).isSome =true):(w.cell? ⟨b,o,none⟩).isSome =true:=by
 obtain⟨v,hv⟩:=Option.isSome_iff_exists.mp hv;exact lI (h.old hv)
theorem Iw(ob:Obj)(hv:(w.cell? ⟨b,o,none⟩).isSome =true):((w.alloc ob).cell? ⟨b,o,none⟩).isSome =true:=by
 obtain⟨v,hv⟩:=Option.isSome_iff_exists.mp hv;exact lI (bC ob hv)
theorem has_set(hv:(w.cell? a).isSome =true):((w.setCell p u).cell? a).isSome =true:=by
 obtain⟨v,hv⟩:=Option.isSome_iff_exists.mp hv;obtain⟨v',h'⟩:=cell?_setCell_some (p:=p) (x:=u) hv;exact lI h'
theorem bQ(lM:k≠o)(hv:w.cell? ⟨b,o,none⟩=some v):(w.setCell ⟨b,k,none⟩ u).cell? ⟨b,o,none⟩=some v:=by
 rw[World.cell?_setCell_other]
 .exact hv
 .intro e;injection e with e1 e2 e3;exact lM e2
theorem iY(h:Gr W w)(hv:W.frozen? a=false):w.frozen? a=false:=(h.eY a).trans hv
theorem dw{c:Array Value}(hv:w.frozen? a=false):(w.alloc (.cells c t)).frozen? a=false:=(frozen?_alloc_cells w c t a).trans hv
theorem bD(hv:w.frozen? a=false):(w.setCell p v).frozen? a=false:=(World.frozen?_setCell _ _ _ _).trans hv
theorem uU(hv:w.frozen? a=false):w.drew.frozen? a=false:=hv
theorem Vy(hb:w.heap.size<=b):w.frozen? ⟨b,o,none⟩=false:=by
 have:w.heap[b]?=none:=by simp[hb]
 simp[World.frozen?,this]
theorem kq{P:Prop}(h:P:=by(go_split_ands;(repeat' (first|(with_reducible assumption)|(with_reducible refine Gr.old (by with_reducible assumption) ?_)|(simp[go_sem];first|done|rfl)|(with_reducible refine bC _ ?_)|(with_reducible refine sH ?_)|(with_reducible refine iY (by with_reducible assumption) ?_)|(with_reducible refine dw ?_)|(with_reducible refine uU ?_))))):P:=h
theorem ks{P:Prop}(h:P:=by(go_split_ands;(repeat' (first|(with_reducible assumption)|(with_reducible refine Gb.old (by with_reducible assumption) ?_)|(with_reducible refine Gr.old (by with_reducible assumption) ?_)|(with_reducible refine sH ?_)|(simp[go_sem];first|done|rfl)|(with_reducible refine Gb.Iy (by with_reducible assumption) (by first|(with_reducible assumption)|(with_reducible exact sH (by with_reducible assumption))) ?_)|(with_reducible refine iY (by with_reducible assumption) ?_)|(with_reducible refine uU ?_)|go_size)))):P:=h
theorem kb{P:Prop}(h:P:=by(go_split_ands;(repeat' (first|(with_reducible assumption)|(with_reducible refine lI (by with_reducible assumption))|(with_reducible refine Gr.old (by with_reducible assumption) ?_)|(with_reducible refine Gb.old (by with_reducible assumption) ?_)|(with_reducible refine TA _ ?_ (by with_reducible assumption);omega)|(with_reducible refine dG ?_)|(with_reducible refine Vt (by with_reducible assumption) ?_)|(with_reducible refine has_set ?_)|(with_reducible refine bQ ?_ ?_;omega)|(with_reducible refine aZ ?_ ?_;(dsimp only;omega))|(simp[go_sem];first|done|rfl)|(with_reducible refine bC _ ?_)|(with_reducible refine sH ?_)|(with_reducible refine Iw _ ?_)|(with_reducible refine iY (by with_reducible assumption) ?_)|(with_reducible refine Gb.Iy (by with_reducible assumption) (by first|(with_reducible assumption)|(with_reducible exact sH (by with_reducible assumption))) ?_)|(with_reducible refine Gb.fz (by with_reducible assumption) ?_ ?_)|go_size|(with_reducible refine dw ?_)|(with_reducible refine bD ?_)|(with_reducible refine uU ?_))))):P:=h
theorem kl{P:Prop}(h:P:=by(go_split_ands;(repeat' (first|(with_reducible assumption)|(with_reducible refine lI (by with_reducible assumption))|(with_reducible refine Gr.old (by with_reducible assumption) ?_)|(with_reducible refine TA _ ?_ (by with_reducible assumption);omega)|(with_reducible refine dG ?_)|(with_reducible refine Vt (by with_reducible assumption) ?_)|(with_reducible refine has_set ?_)|(with_reducible refine bQ ?_ ?_;omega)|(with_reducible refine aZ ?_ ?_;(dsimp only;omega))|(simp[go_sem];first|done|rfl)|(with_reducible refine bC _ ?_)|(with_reducible refine sH ?_)|(with_reducible refine Iw _ ?_)|(with_reducible refine iY (by with_reducible assumption) ?_)|(with_reducible refine dw ?_)|(with_reducible refine bD ?_)|(with_reducible refine uU ?_))))):P:=h
theorem kr{P:Prop}(h:P:=by(repeat' (first|(with_reducible assumption)|(with_reducible exact Gr.refl _)|(with_reducible refine Gr.alloc ?_ _ _)|(with_reducible refine Gr.drew ?_)|(with_reducible refine Gr.setCell ?_ ?_ _)|(with_reducible refine Gr.trans ?_ (by with_reducible assumption))|go_size))):P:=h
theorem kg{P:Prop}(h:P:=by(repeat' (first|(with_reducible assumption)|(with_reducible exact Gb.refl _)|(with_reducible exact Hid.out (by with_reducible assumption))|(with_reducible refine Gb.alloc ?_ _)|(with_reducible refine Gb.drew ?_)|(with_reducible refine Gb.setCell ?_ ?_ _)|(with_reducible refine Gb.trans ?_ (by with_reducible assumption))|(with_reducible refine Gb.trans ?_ (Gr.gb (by with_reducible assumption)))|go_size))):P:=h
abbrev vI(n:Int):Value:=.int .i64 n
abbrev vU(n:Int):Value:=.int .u64 n
abbrev KR(F:Nat)(xs:Array Value)(v:Value):Prop:=Hid (∀w,Calls Tryz.prog F xs w λe w'=>e=.returned v/\Gr w w')
abbrev KW(F:Nat)(xs:Array Value)(v:Value):Prop:=Hid (∀w,Calls Tryz.prog F xs w λe w'=>e=.returned v/\w=w')
abbrev CT(F:Nat)(xs:Array Value)(w:World)(Q:Ending->World->Prop):Prop:=Calls Tryz.prog F xs w Q
abbrev QR(F:Nat)(xs:Array Value)(w:World)(v:Value):Prop:=Calls Tryz.prog F xs w λe w'=>e=.returned v/\Gr w w'
abbrev QW(F:Nat)(xs:Array Value)(w:World)(v:Value):Prop:=Calls Tryz.prog F xs w λe w'=>e=.returned v/\w=w'
abbrev lW(w:World)(b i0 i1:Nat)(v0 v1:Value):Prop:=w.cell? ⟨b,i0,none⟩=some v0/\w.cell? ⟨b,i1,none⟩=some v1
abbrev jU(w:World)(b i0 i1 i2:Nat)(v0 v1 v2:Value):Prop:=w.cell? ⟨b,i0,none⟩=some v0/\lW w b i1 i2 v1 v2
abbrev pG(w:World)(b i0 i1 i2 i3:Nat)(v0 v1 v2 v3:Value):Prop:=w.cell? ⟨b,i0,none⟩=some v0/\jU w b i1 i2 i3 v1 v2 v3
abbrev uj(w:World)(b i0 i1 i2 i3 i4:Nat)(v0 v1 v2 v3 v4:Value):Prop:=w.cell? ⟨b,i0,none⟩=some v0/\pG w b i1 i2 i3 i4 v1 v2 v3 v4
abbrev KE6(w:World)(b i0 i1 i2 i3 i4 i5:Nat)(v0 v1 v2 v3 v4 v5:Value):Prop:=w.cell? ⟨b,i0,none⟩=some v0/\uj w b i1 i2 i3 i4 i5 v1 v2 v3 v4 v5
abbrev ZC(w:World)(b i0 i1 i2 i3 i4 i5 i6:Nat)(v0 v1 v2 v3 v4 v5 v6:Value):Prop:=w.cell? ⟨b,i0,none⟩=some v0/\KE6 w b i1 i2 i3 i4 i5 i6 v1 v2 v3 v4 v5 v6
abbrev ZB(w:World)(b i0:Nat)(v0:Value):Prop:=w.cell? ⟨b,i0,none⟩=some v0/\w.frozen? ⟨b,i0,none⟩=false
abbrev jX(w:World)(b i0 i1:Nat)(v0 v1:Value):Prop:=w.cell? ⟨b,i0,none⟩=some v0/\w.frozen? ⟨b,i0,none⟩=false/\ZB w b i1 v1
abbrev KF3(w:World)(b i0 i1 i2:Nat)(v0 v1 v2:Value):Prop:=w.cell? ⟨b,i0,none⟩=some v0/\w.frozen? ⟨b,i0,none⟩=false/\jX w b i1 i2 v1 v2
abbrev qU(w:World)(b i0 i1 i2 i3:Nat)(v0 v1 v2 v3:Value):Prop:=w.cell? ⟨b,i0,none⟩=some v0/\w.frozen? ⟨b,i0,none⟩=false/\KF3 w b i1 i2 i3 v1 v2 v3
abbrev Qo(w:World)(b i0 i1 i2 i3 i4:Nat)(v0 v1 v2 v3 v4:Value):Prop:=w.cell? ⟨b,i0,none⟩=some v0/\w.frozen? ⟨b,i0,none⟩=false/\qU w b i1 i2 i3 i4 v1 v2 v3 v4
abbrev KF6(w:World)(b i0 i1 i2 i3 i4 i5:Nat)(v0 v1 v2 v3 v4 v5:Value):Prop:=w.cell? ⟨b,i0,none⟩=some v0/\w.frozen? ⟨b,i0,none⟩=false/\Qo w b i1 i2 i3 i4 i5 v1 v2 v3 v4 v5
abbrev yx(w:World)(b i0 i1 i2 i3 i4 i5 i6:Nat)(v0 v1 v2 v3 v4 v5 v6:Value):Prop:=w.cell? ⟨b,i0,none⟩=some v0/\w.frozen? ⟨b,i0,none⟩=false/\KF6 w b i1 i2 i3 i4 i5 i6 v1 v2 v3 v4 v5 v6
theorem eU(hv:w.cell? ⟨b,o,none⟩=some v)(ob:Obj):(w.alloc ob).cell? ⟨b,o,none⟩=some v:=bC ob hv
theorem SN(hv:w.frozen? ⟨b,o,none⟩=false)(c:Array Value)(t:TypeId):(w.alloc (.cells c t)).frozen? ⟨b,o,none⟩=false:=dw hv
theorem kw{P:Program}{Q:Ending->World->Prop}(h:Calls P F xs w λe w'=>e=.returned v/\w=w')(k:Q (.returned v) w):Calls P F xs w Q:=h.mono λe w' h=>by obtain⟨rfl,rfl⟩:=h;exact k
theorem ku{P:Program}{R:World->Prop}{Q:Ending->World->Prop}(h:Calls P F xs w λe w'=>e=.returned v/\R w')(k:∀w',R w'->Q (.returned v) w'):Calls P F xs w Q:=h.mono λe w' h=>by obtain⟨rfl,h⟩:=h;exact k _ h
theorem cO{P:Program}{fn:Func}{a:Act}{S:World->Prop}(hr:(results fn a.tmps).run P w=.ok v w)(hd:a.defers=[]:=by rfl)(hS:S w:=by exact kr):bodyPost P fn (λe w'=>e=.returned v/\S w') .ret a w:=bodyPost_ret hr hd ⟨rfl,hS⟩
theorem dX{P:Program}{fn:Func}{a:Act}{S:World->Prop}(hr:(results fn a.tmps).run P w=.ok v w)(hd:a.defers=[]:=by rfl)(hS:S w:=by exact kg):bodyPost P fn (λe w'=>e=.returned v/\S w') .ret a w:=bodyPost_ret hr hd ⟨rfl,hS⟩
abbrev eu(p q r s:Int)(k:Nat):Value:=.agg #[.int .i64 p,.int .i64 q,.int .i64 r,.int .i64 s,.func (.func k) #[] #[]]
abbrev bP(p q r s t:Int)(b:Bool)(u:Int):Value:=.agg #[.int .i64 p,.int .i64 q,.int .i64 r,.int .u64 s,.int .u64 t,.bool b,.int .i64 u]
abbrev fG(p q r s:Int):Value:=.agg #[.int .i64 p,.int .i64 q,.int .i64 r,.int .u64 s]
abbrev lT(p q r:Int):Value:=.agg #[.int .i64 p,.int .i64 q,.int .i64 r]
abbrev aU(p q:Int):Value:=.agg #[.int .u64 p,.int .i64 q]
abbrev aS(p q:Int):Value:=.agg #[.int .u64 p,.int .u64 q]
abbrev kV(p q:Int):Value:=.agg #[.int .i64 p,.int .i64 q]
abbrev aF(b n c:Nat):Value:=.slice (some ⟨b,0,none⟩) n c
abbrev aB(w:World)(b o:Nat)(v:Value):Prop:=w.cell? ⟨b,o,none⟩=some v
abbrev dL(w:World)(b o:Nat):Prop:=w.frozen? ⟨b,o,none⟩=false
abbrev aI{α:Type}[LT α][OfNat α 18446744073709551616](x:α):Prop:=x<18446744073709551616
