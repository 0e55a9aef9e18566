import Derived.Test.YtnbbfeknbfohhaaGreatDoorA6
set_option linter.unusedVariables false
set_option linter.unusedSimpArgs false
namespace Go.Proofs.YtnbbfeknbfohhaaGreatDoor
def dW(k:Nat):Nat:=1152921504606846976/2^k
def dS(c:Nat→Nat→Nat)(N:Nat):Nat→Nat × Nat
 |0=>(0,N)
 |k+1=>if c (dS c N k).1 (dW k)≤(dS c N k).2 then((dS c N k).1 |||dW k,((dS c N k).2 -c (dS c N k).1 (dW k))*2%18446744073709551616)else((dS c N k).1,(dS c N k).2 *2%18446744073709551616)
def dD(c:Nat→Nat→Nat)(N k:Nat):Nat:=if c (dS c N k).1 (dW k)≤(dS c N k).2 then 1 else 0
def dR(c:Nat→Nat→Nat)(N k:Nat):Nat:=if c (dS c N k).1 (dW k)≤(dS c N k).2 then(dS c N k).2 -c (dS c N k).1 (dW k)else(dS c N k).2
def dC(c:Nat→Nat→Nat)(N:Nat):Nat→Nat
 |0=>0
 |k+1=>dC c N k*2%18446744073709551616|||dD c N k
theorem G9(c:Nat→Nat→Nat)(N k:Nat):dD c N k≤1:=by unfold dD;split<;>omega
theorem VD(c:Nat→Nat→Nat)(N k:Nat):(dS c N (k+1)).2 =dR c N k*2%18446744073709551616:=by
 unfold dR;rw[dS];split<;>rfl
theorem or_bit(a d:Nat)(h:d≤1):a*2%18446744073709551616|||d=(a*2+d)%18446744073709551616:=by
 have e:a*2%18446744073709551616=2^1*(a%9223372036854775808):=om
 rw[e,←Nat.two_pow_add_eq_or_of_lt (show d<2^1 by omega)]
 omega
theorem Jz(N D k:Nat)(hN:N<2*D)(hD:D≤4611686018427387904):
  dR (fun _ _=>D) N k=N*2^k%D∧dC (fun _ _=>D) N (k+1)=N*2^k/D%18446744073709551616:=by
 have hD0:0<D:=om
 induction k with
 |zero=>
  have e1:(dS (fun _ _=>D) N 0).2 =N:=rfl
  rw[Nat.pow_zero,Nat.mul_one]
  simp only[dC,dR,dD,e1,Nat.zero_mul,Nat.zero_mod,Nat.zero_or]
  by_cases h:D≤N
  ·rw[if_pos h,if_pos h]
   have h1:N/D=1:=by rw[Nat.div_eq_iff hD0];omega
   have h2:=Nat.div_add_mod N D
   rw[h1,Nat.mul_one]at h2
   exact⟨om,by rw[h1]⟩
  ·rw[if_neg h,if_neg h]
   exact⟨(Nat.mod_eq_of_lt om).symm,by rw[Nat.div_eq_of_lt (by omega)]⟩
 |succ k ih=>
  obtain⟨i1,i2⟩:=ih
  have hr:N*2^k%D<D:=Nat.mod_lt _ hD0
  have e1:(dS (fun _ _=>D) N (k+1)).2 =N*2^k%D*2:=by rw[VD,i1,Nat.mod_eq_of_lt (by omega)]
  have hda:=Nat.div_add_mod (N*2^k) D
  obtain⟨q,hq⟩:∃q,q=N*2^k/D:=⟨_,rfl⟩
  obtain⟨r,hrr⟩:∃r,r=N*2^k%D:=⟨_,rfl⟩
  rw[←hq,←hrr]at hda
  rw[←hrr]at e1 hr
  rw[←hq]at i2
  have hpw:N*2^(k+1)=D*(2*q)+2*r:=by
   rw[Nat.pow_succ,←Nat.mul_assoc,←hda,Nat.add_mul,Nat.mul_assoc,Nat.mul_comm q 2,Nat.mul_comm r 2]
  rw[dC,or_bit _ _ (G9 _ _ _),i2]
  simp only[dR,dD,e1]
  by_cases h:D≤r*2
  ·rw[if_pos h,if_pos h]
   have e3:N*2^(k+1)=D*(2*q+1)+(2*r-D):=by rw[hpw,Nat.mul_add,Nat.mul_one];omega
   have e4:N*2^(k+1)/D=2*q+1:=by rw[e3,Nat.mul_add_div hD0,Nat.div_eq_of_lt (by omega)]
   have e5:N*2^(k+1)%D=2*r-D:=by rw[e3,Nat.mul_add_mod,Nat.mod_eq_of_lt (by omega)]
   rw[e4,e5]
   exact⟨om,om⟩
  ·rw[if_neg h,if_neg h]
   have e4:N*2^(k+1)/D=2*q:=by rw[hpw,Nat.mul_add_div hD0,Nat.div_eq_of_lt om,Nat.add_zero]
   have e5:N*2^(k+1)%D=2*r:=by rw[hpw,Nat.mul_add_mod,Nat.mod_eq_of_lt (by omega)]
   rw[e4,e5]
   exact⟨om,om⟩
def aO(b w:Nat):Nat:=(2*b%18446744073709551616+w)%18446744073709551616
theorem qQ(k:Nat)(h:k≤60):dW k=2^(60-k):=by
 unfold dW
 rw[show 1152921504606846976=2^60 by decide,Nat.pow_div h (by decide)]
theorem wz(t w:Nat)(i:Nat)(h:w=2^i):(2*w*t)|||w=2*w*t+w:=by
 subst h
 rw[show 2*2^i=2^(i+1) by rw[Nat.pow_succ,Nat.mul_comm],Nat.two_pow_add_eq_or_of_lt (Nat.pow_lt_pow_right de om)]
def V3(N k t b l C w:Nat):Prop:=b=2*w*t∧C=t∧b+2*w≤2305843009213693952∧N*1152921504606846976=b*b+l*w∧l<4*b+4*w
theorem Fq(N:Nat)(h1:N<4611686018427387904):V3 N 0 0 0 N 0 1152921504606846976:=by
 refine⟨om,rfl,om,om,om⟩
theorem Yq:dW 0=1152921504606846976:=by unfold dW;rw[Nat.pow_zero,Nat.div_one]
theorem Nj(N k:Nat)(h1:N<4611686018427387904)(hk:k≤60):
  ∃t,V3 N k t (dS aO N k).1 (dS aO N k).2 (dC aO N k) (dW k):=by
 induction k with
 |zero=>exact⟨0,by rw[Yq,dS,dC];exact Fq N h1⟩
 |succ k ih=>
  obtain⟨t,i1,i2,i3,i4,i5⟩:=ih om
  have hw:dW k=2*dW (k+1):=by rw[qQ k om,qQ (k+1) hk,show 60-k=60-(k+1)+1 by omega,Nat.pow_succ,Nat.mul_comm]
  have hw0:0<dW (k+1):=by rw[qQ (k+1) hk];exact Nat.pow_pos de
  have hor:=wz t (dW k) (60-k) (qQ k om)
  obtain⟨b,hb⟩:∃b,b=(dS aO N k).1 :=⟨_,rfl⟩
  obtain⟨l,hl⟩:∃l,l=(dS aO N k).2 :=⟨_,rfl⟩
  obtain⟨v,hv⟩:∃v,v=dW (k+1):=⟨_,rfl⟩
  rw[←hv]at hw hw0
  rw[hw]at i1 i3 i4 i5 hor
  rw[←hb]at i1 i3 i4 i5
  rw[←hl]at i4 i5
  rw[←i1]at hor
  have hc:aO b (2*v)=2*b+2*v:=by unfold aO;omega
  have htv:dC aO N k*2%18446744073709551616=dC aO N k*2:=by
   refine Nat.mod_eq_of_lt ?_
   rw[i2]
   have hm:1*(4*t)≤v*(4*t):=Nat.mul_le_mul_right _ hw0
   have:b=v*(4*t):=by rw[i1,←Nat.mul_assoc 2 2 v,Nat.mul_comm (2*2) v,Nat.mul_assoc v]
   omega
  by_cases h:2*b+2*v≤l
  ·have hd:dD aO N k=1:=by unfold dD;rw[hw,←hb,←hl,hc,if_pos h]
   have hS:dS aO N (k+1)=(b+2*v,(l-(2*b+2*v))*2):=by
    rw[dS,hw,←hb,←hl,hc,if_pos h,hor,Nat.mod_eq_of_lt (by omega)]
   refine⟨2*t+1,?_,?_,?_,?_,?_⟩
   ·rw[hS,←hv];dsimp only
    rw[i1,Nat.mul_add,Nat.mul_one]
    have:2*(2*v)*t=2*v*(2*t):=by simp[Nat.mul_comm,Nat.mul_left_comm,Nat.mul_assoc]
    omega
   ·rw[dC,or_bit _ _ (G9 _ _ _),hd,i2,Nat.mod_eq_of_lt (by rw[i2]at htv;omega)];omega
   ·rw[hS,←hv];dsimp only;omega
   ·rw[hS,←hv];dsimp only
    rw[i4]
    obtain⟨m,hm⟩:∃m,l=2*b+2*v+m:=⟨l-(2*b+2*v),om⟩
    rw[hm,show 2*b+2*v+m-(2*b+2*v)=m by omega]
    simp only[Nat.add_mul,Nat.mul_add]
    have e1:2*b*(2*v)=2*v*b+b*(2*v):=by rw[Nat.mul_comm (2*v) b];rw[Nat.mul_assoc 2 b];omega
    have e2:m*2*v=m*(2*v):=Nat.mul_assoc _ _ _
    omega
   ·rw[hS,←hv];dsimp only;omega
  ·have hd:dD aO N k=0:=by unfold dD;rw[hw,←hb,←hl,hc,if_neg h]
   have hS:dS aO N (k+1)=(b,l*2):=by
    rw[dS,hw,←hb,←hl,hc,if_neg h,Nat.mod_eq_of_lt (by omega)]
   refine⟨2*t,?_,?_,?_,?_,?_⟩
   ·rw[hS,←hv];dsimp only
    rw[i1]
    simp[Nat.mul_comm,Nat.mul_left_comm,Nat.mul_assoc]
   ·rw[dC,or_bit _ _ (G9 _ _ _),hd,i2,Nat.add_zero,Nat.mod_eq_of_lt (by rw[i2]at htv;omega)];omega
   ·rw[hS,←hv];dsimp only;omega
   ·rw[hS,←hv];dsimp only
    rw[i4,Nat.mul_assoc]
   ·rw[hS,←hv];dsimp only;omega
theorem Fp(N k:Nat)(h1:N<4611686018427387904)(hk:k<60):
  N*1152921504606846976=dC aO N (k+1)*dW k*(dC aO N (k+1)*dW k)+dR aO N k*dW k∧dR aO N k<2*(dC aO N (k+1)*dW k)+dW k∧dC aO N (k+1)<18446744073709551616:=by
 obtain⟨t,i1,i2,i3,i4,i5⟩:=Nj N (k+1) h1 om
 obtain⟨t0,j1,j2,j3,j4,j5⟩:=Nj N k h1 om
 have hw:dW k=2*dW (k+1):=by rw[qQ k om,qQ (k+1) om,show 60-k=60-(k+1)+1 by omega,Nat.pow_succ,Nat.mul_comm]
 have hw0:0<dW (k+1):=by rw[qQ (k+1) (by omega)];exact Nat.pow_pos de
 have hle:dR aO N k≤(dS aO N k).2 :=by unfold dR;split<;>omega
 have e1:=VD aO N k
 rw[Nat.mod_eq_of_lt (by omega)]at e1
 have e2:(dS aO N (k+1)).1 =dC aO N (k+1)*dW k:=by rw[i1,i2,hw,Nat.mul_comm]
 rw[e2]at i3 i4 i5
 rw[e1]at i4 i5
 refine⟨?_,om,?_⟩
 ·rw[i4,Nat.mul_assoc (dR aO N k) 2,←hw]
 ·have:dC aO N (k+1)*1≤dC aO N (k+1)*dW k:=Nat.mul_le_mul_left _ om
  omega
def nC(t:Bool):Nat:=if t then 1 else 0
theorem Uo(t:Bool):nC t≤1:=by cases t<;>decide
theorem aH.cut{p mn mx one inf mode sign:Int}{m:Nat}{e z fl:Int}(k:Nat)(t:Bool)(hX:0<m/2^k)(hp:0≤p)(hn:p+2≤(nb (m/2^k):Int))(st:Bool)(hst:st=(decide (m%2^k≠0)||t)):
  aH p mn mx one inf mode sign (m/2^k) (e+k) st z fl↔aH p mn mx one inf mode sign (2*m+nC t) (e-1) false z fl:=by
 have hb:=Uo t
 have hp2:0<2^k:=Nat.pow_pos de
 have e1:(2*m+nC t)/2^(k+1)=m/2^k:=by
  rw[Nat.pow_succ,Nat.mul_comm (2^k) 2,←Nat.div_div_eq_div_mul]
  rw[show(2*m+nC t)/2=m by omega]
 have e2:(2*m+nC t)%2^(k+1)=2*(m%2^k)+nC t:=by
  have h1:=Nat.div_add_mod (2*m+nC t) (2^(k+1))
  rw[e1]at h1
  have h2:=Nat.div_add_mod m (2^k)
  have h3:2^(k+1)*(m/2^k)=2*(2^k*(m/2^k)):=by rw[Nat.pow_succ,Nat.mul_comm (2^k) 2,Nat.mul_assoc]
  omega
 have h:=aH.trunc (p:=p) (mn:=mn) (mx:=mx) (one:=one) (inf:=inf) (mode:=mode) (sign:=sign) (X:=2*m+nC t) (e:=e-1) (z:=z) (fl:=fl) (k+1) (by rw[e1];exact hX) hp (fun _=>by rw[e1];exact hn)
 rw[e1,e2,show e-1+((k+1:Nat):Int)=e+k by omega]at h
 have e3:decide (2*(m%2^k)+nC t≠0)=st:=by
  rw[hst]
  cases t
  ·simp[nC];omega
  ·simp[nC]
 rw[e3]at h
 exact h
theorem aH.rest{p mn mx one inf mode sign:Int}{m:Nat}{e z fl:Int}(t:Bool)(hX:0<m)(hp:0≤p)(hn:p+2≤(nb m:Int)):
  aH p mn mx one inf mode sign m e t z fl↔aH p mn mx one inf mode sign (2*m+nC t) (e-1) false z fl:=by
 have h:=aH.cut (p:=p) (mn:=mn) (mx:=mx) (one:=one) (inf:=inf) (mode:=mode) (sign:=sign) (m:=m) (e:=e) (z:=z) (fl:=fl) 0 t (by rw[Nat.pow_zero,Nat.div_one];exact hX) hp (by rw[Nat.pow_zero,Nat.div_one];exact hn) t (by rw[Nat.pow_zero,Nat.mod_one];simp)
 rw[Nat.pow_zero,Nat.div_one,show e+((0:Nat):Int)=e by omega]at h
 exact h
theorem XE(A B s k:Nat)(hB:0<B):A*2^(s+k)/B/2^k=A*2^s/B∧(decide (A*2^(s+k)/B%2^k≠0)||decide (A*2^(s+k)%B≠0))=decide (A*2^s%B≠0):=by
 have hp2:0<2^k:=Nat.pow_pos de
 have e0:A*2^(s+k)=A*2^s*2^k:=by rw[Nat.pow_add,Nat.mul_assoc]
 rw[e0]
 obtain⟨X,hX⟩:∃X,X=A*2^s:=⟨_,rfl⟩
 rw[←hX]
 have e1:X*2^k/B/2^k=X/B:=by rw[Nat.div_div_eq_div_mul,Nat.mul_div_mul_right _ _ hp2]
 refine⟨e1,?_⟩
 have h1:=Nat.div_add_mod (X*2^k) B
 have h2:=Nat.div_add_mod (X*2^k/B) (2^k)
 have h3:=Nat.div_add_mod X B
 rw[e1]at h2
 by_cases c:X%B=0
 ·rw[c,Nat.add_zero]at h3
  have h4:X*2^k=B*(X/B*2^k):=by rw[←Nat.mul_assoc,h3]
  have h5:X*2^k/B=X/B*2^k:=by rw[h4,Nat.mul_div_cancel_left _ hB]
  have h6:X*2^k%B=0:=by rw[h4];exact Nat.mul_mod_right _ _
  rw[h5,Nat.mul_mod_left,h6,c]
  rfl
 ·rw[decide_eq_true (p:=X%B≠0) c]
  by_cases c1:X*2^k%B=0
  ·by_cases c2:X*2^k/B%2^k=0
   ·exfalso
    rw[c1,Nat.add_zero]at h1
    rw[c2,Nat.add_zero]at h2
    rw[←h2,Nat.mul_comm (2^k),←Nat.mul_assoc]at h1
    have h7:B*(X/B)=X:=Nat.eq_of_mul_eq_mul_right hp2 h1
    omega
   ·simp[c2]
  ·simp[c1]
theorem Nk(A B s q:Nat)(hB:0<B)(hA:2^q*B≤A*2^s):q+1≤nb (A*2^s/B):=by
 have:2^q≤A*2^s/B:=by rw[Nat.le_div_iff_mul_le hB];exact hA
 exact sG this
def lg(m r:Nat):Prop:=r*r≤m∧m<(r+1)*(r+1)
theorem lQ{a b:Nat}(h:a*a<b*b):a<b:=by
 rcases Nat.lt_or_ge a b with c|c
 ·exact c
 ·have:=Nat.mul_le_mul c c;omega
theorem lg.one{m r s:Nat}(h:lg m r)(k:lg m s):r=s:=by
 have h1:r<s+1:=lQ (Nat.lt_of_le_of_lt h.1 k.2)
 have h2:s<r+1:=lQ (Nat.lt_of_le_of_lt k.1 h.2)
 omega
theorem lg.scale{m r C:Nat}(t:Nat)(h:lg m C)(k:lg (m*2^(2*t)) r):r/2^t=C∧(decide (r%2^t≠0)||decide (r*r≠m*2^(2*t)))=decide (C*C≠m):=by
 have hp2:0<2^t:=Nat.pow_pos de
 have e0:2^(2*t)=2^t*2^t:=by rw[←Nat.pow_add];congr 1;omega
 rw[e0]at k⊢
 obtain⟨P,hP⟩:∃P,P=2^t:=⟨_,rfl⟩
 rw[←hP]at k hp2⊢
 have sq:∀a:Nat,a*P*(a*P)=a*a*(P*P):=fun a=>by simp only[Nat.mul_comm,Nat.mul_left_comm,Nat.mul_assoc]
 have e1:C*P≤r:=by
  have:C*P*(C*P)<(r+1)*(r+1):=by
   rw[sq];exact Nat.lt_of_le_of_lt (Nat.mul_le_mul_right _ h.1) k.2
  have:=lQ this
  omega
 have e2:r<(C+1)*P:=by
  refine lQ (Nat.lt_of_le_of_lt k.1 ?_)
  rw[sq]
  exact Nat.mul_lt_mul_of_pos_right h.2 (Nat.mul_pos hp2 hp2)
 have e3:r/P=C:=by
  rw[Nat.div_eq_iff hp2]
  rw[Nat.add_mul]at e2
  omega
 refine⟨e3,?_⟩
 have h2:=Nat.div_add_mod r P
 rw[e3]at h2
 by_cases c:C*C=m
 ·have:lg (m*(P*P)) (C*P):=by
   refine⟨?_,?_⟩
   ·rw[sq,c];exact Nat.le_refl _
   ·rw[←c,←sq];exact Nat.mul_lt_mul'' (Nat.lt_succ_self _) (Nat.lt_succ_self _)
  have hr:=k.one this
  have h4:r%P=0:=by rw[hr];exact Nat.mul_mod_left _ _
  have h5:r*r=m*(P*P):=by rw[hr,sq,c]
  rw[h4,h5,c]
  simp
 ·rw[decide_eq_true (p:=C*C≠m) c]
  by_cases c1:r%P=0
  ·by_cases c2:r*r=m*(P*P)
   ·exfalso
    rw[c1,Nat.add_zero,Nat.mul_comm]at h2
    rw[←h2,sq]at c2
    exact c (Nat.eq_of_mul_eq_mul_right (Nat.mul_pos hp2 hp2) c2)
   ·simp[c2]
  ·simp[c1]
theorem zo(A p od:Nat)(hp1:1≤p)(hp:p≤53)(hod:od≤1)(hA:A<2^p):
  lg (A*2^(p+5+od)) (dC aO (A*2^(61-p+od)) (p+3))∧(dR aO (A*2^(61-p+od)) (p+2)≠0↔dC aO (A*2^(61-p+od)) (p+3)*dC aO (A*2^(61-p+od)) (p+3)≠A*2^(p+5+od))∧dC aO (A*2^(61-p+od)) (p+3)<18446744073709551616:=by
 have hN:A*2^(61-p+od)<4611686018427387904:=by
  have h1:A*2^(61-p+od)<2^p*2^(61-p+od):=Nat.mul_lt_mul_of_pos_right hA (Nat.pow_pos de)
  rw[←Nat.pow_add]at h1
  have h2:2^(p+(61-p+od))≤2^62:=Nat.pow_le_pow_right de om
  have h3:2^62=4611686018427387904:=de
  omega
 obtain⟨d1,d2,d3⟩:=Fp (A*2^(61-p+od)) (p+2) hN om
 have hw:dW (p+2)=2^(58-p):=by rw[qQ _ (by omega)];congr 1;omega
 obtain⟨W,hW⟩:∃W,W=2^(58-p):=⟨_,rfl⟩
 rw[hw,←hW]at d1 d2
 have hW0:0<W:=by rw[hW];exact Nat.pow_pos de
 have hL:A*2^(61-p+od)*1152921504606846976=A*2^(p+5+od)*(W*W):=by
  rw[hW,←Nat.pow_add,Nat.mul_assoc,Nat.mul_assoc,show 1152921504606846976=2^60 by decide,←Nat.pow_add,←Nat.pow_add]
  congr 2
  omega
 rw[hL]at d1
 obtain⟨C,hC⟩:∃C,C=dC aO (A*2^(61-p+od)) (p+3):=⟨_,rfl⟩
 obtain⟨R,hR⟩:∃R,R=dR aO (A*2^(61-p+od)) (p+2):=⟨_,rfl⟩
 obtain⟨m,hm⟩:∃m,m=A*2^(p+5+od):=⟨_,rfl⟩
 rw[show p+2+1=p+3 from rfl]at d1 d2 d3
 rw[←hC,←hR,←hm]at d1
 rw[←hC,←hR]at d2
 rw[←hC]at d3
 rw[←hC,←hR,←hm]
 have sq:C*W*(C*W)=C*C*(W*W):=by simp only[Nat.mul_comm,Nat.mul_left_comm,Nat.mul_assoc]
 rw[sq]at d1
 have hWW:0<W*W:=Nat.mul_pos hW0 hW0
 refine⟨⟨?_,?_⟩,?_,d3⟩
 ·refine Nat.le_of_mul_le_mul_right ?_ hWW
  rw[d1];omega
 ·refine Nat.lt_of_mul_lt_mul_right (a:=W*W) ?_
  rw[d1]
  have h1:(C+1)*(C+1)*(W*W)=C*C*(W*W)+(2*(C*W)+W)*W:=by
   simp only[Nat.add_mul,Nat.mul_add,Nat.one_mul,Nat.mul_one]
   have:2*(C*W)*W=C*(W*W)+C*(W*W):=by rw[Nat.mul_assoc,Nat.mul_assoc,Nat.two_mul]
   omega
  rw[h1]
  have:=Nat.mul_lt_mul_of_pos_right d2 hW0
  omega
 ·constructor
  ·intro h c
   rw[←c]at d1
   have:0<R*W:=Nat.mul_pos om hW0
   omega
  ·intro h c
   rw[c,Nat.zero_mul,Nat.add_zero]at d1
   exact h (Nat.eq_of_mul_eq_mul_right hWW d1).symm
