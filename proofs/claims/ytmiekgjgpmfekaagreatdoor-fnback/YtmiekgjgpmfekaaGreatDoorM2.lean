import Derived.Test.YtmiekgjgpmfekaaGreatDoorG0
import Derived.Test.YtmiekgjgpmfekaaGreatDoorG4
import Derived.Sort.LoopGhostIn
set_option linter.all false
open Go.Proofs.YtmiekgjgpmfekaaGreatDoor renaming vU → Y
open Go.Ending renaming returned → Z
open Go.Proofs.Tryz
namespace Go.Proofs.YtmiekgjgpmfekaaGreatDoor
open Go.RowKit
attribute [local go_sem] aj
variable{w:World}{n cap N b m base b' cap' M n' N' g V r A Bv a s C:Nat}{v v2:Value}{p mn mx inf mode sign e z fl:Int}
theorem Own.store(h:Own w base (aB g n cap) n V)(k d:Nat)(hk:k<n)(hd:d<4294967296):
  Own (w.setCell ⟨g,k,none⟩ (.int .u32 (d:Int))) base (aB g n cap) n (put V k d):=by
 refine⟨?_,h.2⟩;rw[<-aAK n V k d hk hd];exact(h.1.stored k _).1
theorem Own.at(h:Own w base (aB g n cap) n V)(k:Nat)(hk:k<n):
  w.cell? ⟨g,k,none⟩=some (.int .u32 (dg V k:Int))/\w.frozen? ⟨g,k,none⟩=false:=by
 refine⟨?_,h.1.frozenAt k⟩;rw[h.1.cellAt k om,yI n V k hk]
theorem Own.where(h:Own w base v n N):∃g cap,v=aB g n cap/\base<=g/\n<=cap:=by
 obtain⟨⟨h1,h2⟩,h3⟩:=h;rcases h2 with⟨rfl,_⟩|⟨g,cap,cur,rfl,hb,hh,hc,hm,hs,ht⟩
 ·exact absurd rfl h3
 ·exact⟨g,cap,rfl,hb,hc⟩
set_option maxRecDepth 1000000
set_option maxHeartbeats 40000000
theorem QS(hn:n<=1000000)(hA:A<4294967296^n)(hm:m<=1000000)(hB:Bv<4294967296^m)
  (hcell:∀j,j<n->aj w b j (.int .u32 (dg A j:Int))) (hcap:n<=cap) (hcell':∀j,j<m->aj w b' j (.int .u32 (dg Bv j:Int))) (hcap':m<=cap') (hM:M=A*Bv):
  CT 103 #[aB b n cap,aB b' m cap'] w fun e w'=>∃v' k,e=Z v'/\Big w' v' k M/\k<=n+m/\Gb w w':=by
 have HC:Hid _:=hcell;have HA:Hid _:=hA;have OL:Hid _:=hcell';have HB:Hid _:=hB;have HM:Hid _:=hM;clear hcell hA hM hcell' hB;go_enter func103,ntmps103;go_wp2;go_loopw [5,6] (fun v i wr=>∃k:Nat,k<=n+m/\i=.int .i64 k/\Own wr w.heap.size v k 0/\Gb w wr) (fun _ i _=>n+m-(intOf i).toNat)
 case atStart=>exact⟨0,Nat.zero_le _,rfl,lY w _,(Gb.refl w).alloc _⟩
 case round=>
  obtain⟨k,hk,rfl,hown,hgb⟩:=hrel;have hsz:=hgb.size;have HO:Hid _:=hown;have HG:Hid _:=hgb;clear hown hgb;by_cases hl:k<n+m
  ·have hl':(k:Int)<(n:Int)+(m:Int):=om;have HD:Hid (((dg 0 k:Nat):Int)=0):=by show _=_;unfold dg;simp
   go_wp2_with (at_builtin;refine dB rfl _ _ rfl w.heap.size k 0 _ wr.heap.size rfl (Own.alloc HO.out _) rfl (by rw[HD.out];simp[go_sem]) om (by simp[go_sem];omega) ?_;intro v' w1 hown1 hb1);go_roundw
   case rel=>exact⟨k+1,om,by go_num,hown1,Gb.below (Gb.alloc HG.out _) hb1 (Nat.le_refl _)⟩
   case measure=>simp[intOf]<;>omega
  ·have HSM:Hid (k=n+m):=by show _=_;omega
   have hk2:k<=2000000:=om;have hl':¬(k:Int)<(n:Int)+(m:Int):=om;obtain⟨g,c0,rfl,hg,hcg⟩:=Own.where HO.out;have HL:Hid _:=hl;clear hl;go_wp2;clear hk hl';go_loopw [7] (fun i wr'=>∃i':Nat,i'<=n/\i=.int .i64 i'/\Own wr' w.heap.size (aB g k c0) k (A%4294967296^i'*Bv)/\Gb w wr') (fun i _=>n-(intOf i).toNat)
   case atStart=>exact⟨0,Nat.zero_le _,rfl,by rw[Nat.pow_zero,Nat.mod_one,Nat.zero_mul];exact HO.out,HG.out⟩
   case round=>
    clear HO HG hsz;obtain⟨i,hi,rfl,hown,hgb⟩:=hrel;have HO:Hid _:=hown;have HG:Hid _:=hgb;clear hown hgb;by_cases hin:i<n
    ·have hin':(i:Int)<(n:Int):=om;go_wp2;go_loopw [8,9] (fun c j wr'=>∃(j' c' V:Nat),j'<=m/\j=.int .i64 j'/\c=Y c'/\Hid (Iq A Bv m i j' V c')/\Own wr' w.heap.size (aB g k c0) k V/\Gb w wr') (fun _ j _=>m-(intOf j).toNat)
     case atStart=>exact⟨0,0,_,Nat.zero_le _,rfl,rfl,Qv A Bv m i HB.out,HO.out,HG.out⟩
     case round=>
      clear HO HG;obtain⟨j,c,V,hj,rfl,rfl,HI,hown,hgb⟩:=hrel;have HO:Hid _:=hown;have HG:Hid _:=hgb;clear hown hgb;have hcl:c<4294967296:=HI.out.2.2;by_cases hjm:j<m
      ·have uf:(j:Int)<(m:Int):=om;obtain⟨K,hK⟩:∃K:Nat,K=i+j:=⟨_,rfl⟩;have hKs:K<k:=by have:=HSM.out;omega
       have hKI:IntKind.i64.wrap ((i:Int)+(j:Int))=(K:Int):=by rw[IntKind.wrap_i64]<;>omega
       obtain⟨hcv,hzv⟩:=Own.at HO.out K hKs;have hca:aj wr b i (.int .u32 (dg A i:Int)):=Gb.old HG.out (HC i hin);have hcb:aj wr b' j (.int .u32 (dg Bv j:Int)):=Gb.old HG.out (OL j hjm);have ha:=jf A i;have hb:=jf Bv j;have hv:=jf V K;have hx:=G_ _ _ _ _ ha hb hv hcl;obtain⟨y,hy⟩:∃y:Nat,y=dg A i*dg Bv j:=⟨_,rfl⟩;rw[<-hy]at hx;obtain⟨z,hz⟩:∃z:Nat,z=y+dg V K:=⟨_,rfl⟩;obtain⟨x,hx0⟩:∃x:Nat,x=z+c:=⟨_,rfl⟩;have hw1:IntKind.u64.wrap ((dg A i:Int)*(dg Bv j:Int))=(y:Int):=by
        have e:(dg A i:Int)*(dg Bv j:Int)=(y:Int):=by rw[hy];push_cast;rfl
        rw[e,IntKind.wrap_u64];omega
       have hw2:IntKind.u64.wrap ((y:Int)+(dg V K:Int))=(z:Int):=wu;have hw3:IntKind.u64.wrap ((z:Int)+(c:Int))=(x:Int):=wu;rw[<-hz,<-hx0]at hx;have HS:Hid (Iq A Bv m i (j+1) (put V K (x%4294967296)) (x/4294967296)):=by
        have h:=Qw HI.out hjm;rw[<-hK,<-hy,<-hz,<-hx0]at h;exact h
       have hput:=Own.store HO.out K (x%4294967296) hKs om;have hxc:((x%4294967296:Nat):Int)=(x:Int)%4294967296:=om;rw[hxc]at hput;have HP:Hid _:=hput;have HK:Hid _:=hK;clear hput hy hz hx0 hK hxc;generalize dg A i=ta at*
       generalize dg Bv j=tb at*
       generalize dg V K=tv at*
       go_wp2;go_region;all_goals (try go_wp2)
       all_goals go_roundw
       all_goals first
        |exact⟨j+1,x/4294967296,_,om,by go_num,by go_num,HS.out,Own.drew HP.out,Gb.drew (Gb.setCell HG.out hg _)⟩
        |exact⟨j+1,x/4294967296,_,om,by go_num,by go_num,HS.out,HP.out,Gb.setCell HG.out hg _⟩
        |(simp[intOf]<;>omega)
      ·have uf:¬(j:Int)<(m:Int):=om;obtain rfl:j=m:=om;have HE:Hid _:=Vr HI.out HB.out;obtain⟨K,hK⟩:∃K:Nat,K=i+j:=⟨_,rfl⟩;rw[<-hK]at HE;have hKs:K<k:=by have:=HSM.out;omega
       have hKI:IntKind.i64.wrap ((i:Int)+(j:Int))=(K:Int):=by rw[IntKind.wrap_i64]<;>omega
       have hKJ:(i:Int)+(j:Int)=(K:Int):=om;obtain⟨hcv,hzv⟩:=Own.at HO.out K hKs;have hput:=Own.store HO.out K c hKs hcl;rw[HE.out]at hput;have HP:Hid _:=hput;have HK:Hid _:=hK;clear hput hK HE;generalize dg V K=tv at*
       go_wp2;go_roundw
       case rel=>exact⟨i+1,om,by go_num,HP.out,Gb.setCell HG.out hg _⟩
       case measure=>simp[intOf]<;>omega
    ·have hin':¬(i:Int)<(n:Int):=om;obtain rfl:i=n:=om;have HF:Hid (Raw wr (aB g k c0) k M):=by
      have h1:=HO.out;rw[Nat.mod_eq_of_lt HA.out,<-HM.out]at h1;refine Own.raw h1 ?_;rw[HM.out,HSM.out,Nat.pow_add];rcases Nat.eq_zero_or_pos Bv with e|e
      ·rw[e,Nat.mul_zero];exact Nat.mul_pos (f_ _) (f_ _)
      ·exact Nat.mul_lt_mul_of_lt_of_le HA.out (Nat.le_of_lt HB.out) (f_ _)
     go_wp2_with (go_at_call 162;refine(jZ HF.out om).mono ?_;rintro e w' ⟨v'',k',rfl,hw,hbig,hk'⟩;subst hw);go_returns;exact⟨_,_,rfl,hbig,by have:=HSM.out;omega,HG.out⟩
theorem wz(h:Big w v n N)(hn:n<=1000000)(h':Big w v2 n' N')(hn':n'<=1000000):
  CT 103 #[v,v2] w fun e w'=>∃v' k,e=Z v'/\Big w' v' k (N*N')/\k<=n+n'/\Gb w w':=by
 obtain⟨hnm,hN,b,cap,rfl,hcap,hmx,hcell⟩:=h;obtain⟨hnm',hN',b',cap',rfl,hcap',Jz,hcell'⟩:=h';exact QS hn hN hn' hN' hcell hcap hcell' hcap' rfl
def n_(t:Bool):Nat:=if t then 1 else 0
theorem YT(t:Bool):n_ t<=1:=by cases t<;>decide
theorem aO.cut{one:Int}(k:Nat)(t:Bool)(hX:0<m/2^k)(hp:0<=p)(hn:p+2<=(nb (m/2^k):Int))(st:Bool)(hst:st=(decide (m%2^k≠0)||t)):
  aO p mn mx one inf mode sign (m/2^k) (e+k) st z fl↔aO p mn mx one inf mode sign (2*m+n_ t) (e-1) false z fl:=by
 have hb:=YT t;have hp2:0<2^k:=Nat.pow_pos de;have e1:(2*m+n_ t)/2^(k+1)=m/2^k:=by
  rw[Nat.pow_succ,Nat.mul_comm (2^k) 2,<-Nat.div_div_eq_div_mul];rw[show(2*m+n_ t)/2=m by omega]
 have e2:(2*m+n_ t)%2^(k+1)=2*(m%2^k)+n_ t:=by
  have h1:=Nat.div_add_mod (2*m+n_ t) (2^(k+1));rw[e1]at h1;have h2:=Nat.div_add_mod m (2^k);have h3:2^(k+1)*(m/2^k)=2*(2^k*(m/2^k)):=by rw[Nat.pow_succ,Nat.mul_comm (2^k) 2,Nat.mul_assoc]
  omega
 have h:=aO.trunc (p:=p) (mn:=mn) (mx:=mx) (one:=one) (inf:=inf) (mode:=mode) (sign:=sign) (X:=2*m+n_ t) (e:=e-1) (z:=z) (fl:=fl) (k+1) (by rw[e1];exact hX) hp (fun _=>by rw[e1];exact hn);rw[e1,e2,show e-1+((k+1:Nat):Int)=e+k by omega]at h;have e3:decide (2*(m%2^k)+n_ t≠0)=st:=by
  rw[hst];cases t
  ·simp[n_];omega
  ·simp[n_]
 rw[e3]at h;exact h
theorem aO.rest{one:Int}(t:Bool)(hX:0<m)(hp:0<=p)(hn:p+2<=(nb m:Int)):
  aO p mn mx one inf mode sign m e t z fl↔aO p mn mx one inf mode sign (2*m+n_ t) (e-1) false z fl:=by
 have h:=aO.cut (p:=p) (mn:=mn) (mx:=mx) (one:=one) (inf:=inf) (mode:=mode) (sign:=sign) (m:=m) (e:=e) (z:=z) (fl:=fl) 0 t (by rw[Nat.pow_zero,Nat.div_one];exact hX) hp (by rw[Nat.pow_zero,Nat.div_one];exact hn) t (by rw[Nat.pow_zero,Nat.mod_one];simp);rw[Nat.pow_zero,Nat.div_one,show e+((0:Nat):Int)=e by omega]at h;exact h
theorem aBo(A B s k:Nat)(hB:0<B):A*2^(s+k)/B/2^k=A*2^s/B/\(decide (A*2^(s+k)/B%2^k≠0)||decide (A*2^(s+k)%B≠0))=decide (A*2^s%B≠0):=by
 have hp2:0<2^k:=Nat.pow_pos de;have e0:A*2^(s+k)=A*2^s*2^k:=by rw[Nat.pow_add,Nat.mul_assoc]
 rw[e0];obtain⟨X,hX⟩:∃X,X=A*2^s:=⟨_,rfl⟩;rw[<-hX];have e1:X*2^k/B/2^k=X/B:=by rw[Nat.div_div_eq_div_mul,Nat.mul_div_mul_right _ _ hp2]
 refine⟨e1,?_⟩;have h1:=Nat.div_add_mod (X*2^k) B;have h2:=Nat.div_add_mod (X*2^k/B) (2^k);have h3:=Nat.div_add_mod X B;rw[e1]at h2;by_cases c:X%B=0
 ·rw[c,Nat.add_zero]at h3;have h4:X*2^k=B*(X/B*2^k):=by rw[<-Nat.mul_assoc,h3]
  have h5:X*2^k/B=X/B*2^k:=by rw[h4,Nat.mul_div_cancel_left _ hB]
  have h6:X*2^k%B=0:=by rw[h4];exact Nat.mul_mod_right _ _
  rw[h5,Nat.mul_mod_left,h6,c];rfl
 ·rw[decide_eq_true (p:=X%B≠0) c];by_cases c1:X*2^k%B=0
  ·by_cases c2:X*2^k/B%2^k=0
   ·exfalso;rw[c1,Nat.add_zero]at h1;rw[c2,Nat.add_zero]at h2;rw[<-h2,Nat.mul_comm (2^k),<-Nat.mul_assoc]at h1;have h7:B*(X/B)=X:=Nat.eq_of_mul_eq_mul_right hp2 h1;omega
   ·simp[c2]
  ·simp[c1]
theorem SY(A B s q:Nat)(hB:0<B)(hA:2^q*B<=A*2^s):q+1<=nb (A*2^s/B):=by
 have:2^q<=A*2^s/B:=by rw[Nat.le_div_iff_mul_le hB];exact hA
 exact pq this
def lT(m r:Nat):Prop:=r*r<=m/\m<(r+1)*(r+1)
theorem mJ(h:a*a<b*b):a<b:=by
 rcases Nat.lt_or_ge a b with c|c
 ·exact c
 ·have:=Nat.mul_le_mul c c;omega
theorem lT.one(h:lT m r)(k:lT m s):r=s:=by
 have h1:r<s+1:=mJ (Nat.lt_of_le_of_lt h.1 k.2);have h2:s<r+1:=mJ (Nat.lt_of_le_of_lt k.1 h.2);omega
theorem lT.scale(t:Nat)(h:lT m C)(k:lT (m*2^(2*t)) r):r/2^t=C/\(decide (r%2^t≠0)||decide (r*r≠m*2^(2*t)))=decide (C*C≠m):=by
 have hp2:0<2^t:=Nat.pow_pos de;have e0:2^(2*t)=2^t*2^t:=by rw[<-Nat.pow_add];congr 1;omega
 rw[e0]at k⊢
 obtain⟨P,hP⟩:∃P,P=2^t:=⟨_,rfl⟩;rw[<-hP]at k hp2⊢
 have sq:∀a:Nat,a*P*(a*P)=a*a*(P*P):=fun a=>by simp only[Nat.mul_comm,Nat.mul_left_comm,Nat.mul_assoc]
 have e1:C*P<=r:=by
  have:C*P*(C*P)<(r+1)*(r+1):=by
   rw[sq];exact Nat.lt_of_le_of_lt (Nat.mul_le_mul_right _ h.1) k.2
  have:=mJ this;omega
 have e2:r<(C+1)*P:=by
  refine mJ (Nat.lt_of_le_of_lt k.1 ?_);rw[sq];exact Nat.mul_lt_mul_of_pos_right h.2 (Nat.mul_pos hp2 hp2)
 have e3:r/P=C:=by
  rw[Nat.div_eq_iff hp2];rw[Nat.add_mul]at e2;omega
 refine⟨e3,?_⟩;have h2:=Nat.div_add_mod r P;rw[e3]at h2;by_cases c:C*C=m
 ·have:lT (m*(P*P)) (C*P):=by
   refine⟨?_,?_⟩
   ·rw[sq,c];exact Nat.le_refl _
   ·rw[<-c,<-sq];exact Nat.mul_lt_mul'' (Nat.lt_succ_self _) (Nat.lt_succ_self _)
  have hr:=k.one this;have h4:r%P=0:=by rw[hr];exact Nat.mul_mod_left _ _
  have h5:r*r=m*(P*P):=by rw[hr,sq,c]
  rw[h4,h5,c];simp
 ·rw[decide_eq_true (p:=C*C≠m) c];by_cases c1:r%P=0
  ·by_cases c2:r*r=m*(P*P)
   ·exfalso;rw[c1,Nat.add_zero,Nat.mul_comm]at h2;rw[<-h2,sq]at c2;exact c (Nat.eq_of_mul_eq_mul_right (Nat.mul_pos hp2 hp2) c2)
   ·simp[c2]
  ·simp[c1]
theorem Ep(A p od:Nat)(hp1:1<=p)(hp:p<=53)(hod:od<=1)(hA:A<2^p):
  lT (A*2^(p+5+od)) (dC bH (A*2^(61-p+od)) (p+3))/\(dR bH (A*2^(61-p+od)) (p+2)≠0↔dC bH (A*2^(61-p+od)) (p+3)*dC bH (A*2^(61-p+od)) (p+3)≠A*2^(p+5+od))/\dC bH (A*2^(61-p+od)) (p+3)<18446744073709551616:=by
 have hN:A*2^(61-p+od)<4611686018427387904:=by
  have h1:A*2^(61-p+od)<2^p*2^(61-p+od):=Nat.mul_lt_mul_of_pos_right hA (Nat.pow_pos de);rw[<-Nat.pow_add]at h1;have h2:2^(p+(61-p+od))<=2^62:=Nat.pow_le_pow_right de om;have h3:2^62=4611686018427387904:=de;omega
 obtain⟨d1,d2,d3⟩:=LX (A*2^(61-p+od)) (p+2) hN om;have hw:dW (p+2)=2^(58-p):=by rw[vF _ (by omega)];congr 1;omega
 obtain⟨W,hW⟩:∃W,W=2^(58-p):=⟨_,rfl⟩;rw[hw,<-hW]at d1 d2;have hW0:0<W:=by rw[hW];exact Nat.pow_pos de
 have hL:A*2^(61-p+od)*1152921504606846976=A*2^(p+5+od)*(W*W):=by
  rw[hW,<-Nat.pow_add,Nat.mul_assoc,Nat.mul_assoc,show 1152921504606846976=2^60 by decide,<-Nat.pow_add,<-Nat.pow_add]
  congr 2
  omega
 rw[hL]at d1;obtain⟨C,hC⟩:∃C,C=dC bH (A*2^(61-p+od)) (p+3):=⟨_,rfl⟩;obtain⟨R,hR⟩:∃R,R=dR bH (A*2^(61-p+od)) (p+2):=⟨_,rfl⟩;obtain⟨m,hm⟩:∃m,m=A*2^(p+5+od):=⟨_,rfl⟩;rw[show p+2+1=p+3 from rfl]at d1 d2 d3;rw[<-hC,<-hR,<-hm]at d1;rw[<-hC,<-hR]at d2;rw[<-hC]at d3;rw[<-hC,<-hR,<-hm];have sq:C*W*(C*W)=C*C*(W*W):=by simp only[Nat.mul_comm,Nat.mul_left_comm,Nat.mul_assoc]
 rw[sq]at d1;have hWW:0<W*W:=Nat.mul_pos hW0 hW0;refine⟨⟨?_,?_⟩,?_,d3⟩
 ·refine Nat.le_of_mul_le_mul_right ?_ hWW;rw[d1];omega
 ·refine Nat.lt_of_mul_lt_mul_right (a:=W*W) ?_;rw[d1];have h1:(C+1)*(C+1)*(W*W)=C*C*(W*W)+(2*(C*W)+W)*W:=by
   simp only[Nat.add_mul,Nat.mul_add,Nat.one_mul,Nat.mul_one];have:2*(C*W)*W=C*(W*W)+C*(W*W):=by rw[Nat.mul_assoc,Nat.mul_assoc,Nat.two_mul]
   omega
  rw[h1];have:=Nat.mul_lt_mul_of_pos_right d2 hW0;omega
 ·constructor
  ·intro h c;rw[<-c]at d1;have:0<R*W:=Nat.mul_pos om hW0;omega
  ·intro h c;rw[c,Nat.zero_mul,Nat.add_zero]at d1;exact h (Nat.eq_of_mul_eq_mul_right hWW d1).symm
def BJ(X d:Nat):Bool:=decide (d<2*(X%d)\/d=2*(X%d)/\X/d%2=1)
def Vg(X d:Nat):Nat:=if BJ X d then d-X%d else X%d
def NT(C L:Nat):Bool:=decide (C%2=1/\(C/2%2=1\/L≠0))
def aB8(C L B:Nat):Nat:=if NT C L then B-L else if C%2=1 then B else L
theorem aHY(X B:Nat)(hB:0<B):NT (2*X/B) (2*X%B)=BJ X B/\aB8 (2*X/B) (2*X%B) B=2*Vg X B:=by
 obtain⟨q,hq⟩:∃q,q=X/B:=⟨_,rfl⟩;obtain⟨r,hr⟩:∃r,r=X%B:=⟨_,rfl⟩;have h1:=Nat.div_add_mod X B;have h2:=Nat.mod_lt X hB;rw[<-hq,<-hr]at h1;rw[<-hr]at h2;unfold aB8 Vg NT BJ;rw[<-hq,<-hr];have e0:2*X=B*(2*q)+2*r:=by rw[<-h1,Nat.mul_add,<-Nat.mul_assoc,<-Nat.mul_assoc,Nat.mul_comm 2 B]
 by_cases c:B<=2*r
 ·have e1:2*X=B*(2*q+1)+(2*r-B):=by rw[e0,Nat.mul_add,Nat.mul_one];omega
  have e2:2*X/B=2*q+1:=by rw[e1,Nat.mul_add_div hB,Nat.div_eq_of_lt (by omega)]
  have e3:2*X%B=2*r-B:=by rw[e1,Nat.mul_add_mod,Nat.mod_eq_of_lt (by omega)]
  rw[e2,e3];have e4:decide ((2*q+1)%2=1/\((2*q+1)/2%2=1\/2*r-B≠0))=decide (B<2*r\/B=2*r/\q%2=1):=by
   rw[decide_eq_decide];omega
  rw[e4];refine⟨rfl,?_⟩;rw[if_pos (show(2*q+1)%2=1 by omega)];by_cases c1:B<2*r\/B=2*r/\q%2=1
  ·rw[decide_eq_true c1,if_pos rfl,if_pos rfl];omega
  ·rw[decide_eq_false c1,if_neg de,if_neg (by decide)];omega
 ·have e2:2*X/B=2*q:=by rw[e0,Nat.mul_add_div hB,Nat.div_eq_of_lt om,Nat.add_zero]
  have e3:2*X%B=2*r:=by rw[e0,Nat.mul_add_mod,Nat.mod_eq_of_lt (by omega)]
  rw[e2,e3];have e4:decide (2*q%2=1/\(2*q/2%2=1\/2*r≠0))=decide (B<2*r\/B=2*r/\q%2=1):=by
   rw[decide_eq_decide];omega
  rw[e4];refine⟨rfl,?_⟩;rw[if_neg (show ¬2*q%2=1 by omega),decide_eq_false (show ¬(B<2*r\/B=2*r/\q%2=1) by omega),if_neg de,if_neg (by decide)]
theorem aHX(A B:Nat)(hB:0<B)(hA:A<2*B):NT (A/B) (A%B)=BJ A (2*B)/\aB8 (A/B) (A%B) B=Vg A (2*B):=by
 unfold aB8 Vg NT BJ;rw[Nat.mod_eq_of_lt hA,Nat.div_eq_of_lt hA];by_cases c:B<=A
 ·have e2:A/B=1:=by rw[Nat.div_eq_iff hB];omega
  have e3:A%B=A-B:=by have:=Nat.div_add_mod A B;rw[e2,Nat.mul_one]at this;omega
  rw[e2,e3];have e4:decide (1%2=1/\(1/2%2=1\/A-B≠0))=decide (2*B<2*A\/2*B=2*A/\0%2=1):=by
   rw[decide_eq_decide];omega
  rw[e4];refine⟨rfl,?_⟩;by_cases c1:2*B<2*A\/2*B=2*A/\0%2=1
  ·rw[decide_eq_true c1,if_pos rfl,if_pos rfl];omega
  ·rw[decide_eq_false c1,if_neg de,if_pos de,if_neg (by decide)];omega
 ·have e2:A/B=0:=Nat.div_eq_of_lt om;have e3:A%B=A:=Nat.mod_eq_of_lt om;rw[e2,e3];rw[decide_eq_false (show ¬(2*B<2*A\/2*B=2*A/\0%2=1) by omega),decide_eq_false (show ¬(0%2=1/\(0/2%2=1\/A≠0)) by omega)];exact⟨rfl,by simp⟩
theorem aGf(A d:Nat)(h:2*A<d):BJ A d=false/\Vg A d=A:=by
 have:BJ A d=false:=by unfold BJ;rw[Nat.mod_eq_of_lt (by omega)];exact decide_eq_false om
 exact⟨this,by unfold Vg;rw[this,Nat.mod_eq_of_lt (by omega)];rfl⟩
open Go.RowKit Go.Shelf
theorem Sj{P:Prop}(h:P:=by
 refine⟨fun h=>(by cases h),?_⟩;refine hR.mono ?_;rintro e W3 (⟨hlt,rfl,hJ3,hk3⟩|⟨heq,rfl,hJx3⟩)
 ·gi_wp2
  gi_roundg (N-(k+1))
  case rel=>
   obtain⟨n1,n2⟩:=HN.out;have hs1:=HR2.out;have hv1:=HV.out;refine⟨k+1,hlt,rfl,?_,?_,?_,hJ3,hB.trans hk3⟩
   ·rw[<-n1,hs1]
   ·rw[<-n1,hs1];dsimp only;go_num
   ·rw[<-n2,hv1];go_num
  case measure=>omega
 ·gi_wp2
  refine bodyPost_ret (results_none rfl _ _ _) rfl ?_;exact⟨⟨_,rfl⟩,hJx3⟩):P:=h
attribute [local go_sem] Oper.semAt_some
theorem Jd(a b:Nat)(ha:a<18446744073709551616)(hb:b<18446744073709551616):bits .or .u64 (a:Int) (b:Int)=((a|||b:Nat):Int)/\a|||b<18446744073709551616:=by
 have h:a|||b<2^64:=Nat.or_lt_two_pow (by simpa using ha) (by simpa using hb);exact⟨u64_or_nat a b ha hb,by simpa using h⟩
theorem Z8(c:Nat->Nat->Nat)(N k:Nat)(hN:N<18446744073709551616):(dS c N k).1 <18446744073709551616/\(dS c N k).2 <18446744073709551616:=by
 induction k with
 |zero=>rw[dS];exact⟨by dsimp only;omega,hN⟩
 |succ k ih=>
  have hw:dW k<18446744073709551616:=by unfold dW;exact Nat.lt_of_le_of_lt (Nat.div_le_self _ _) de
  rw[dS];split
  ·exact⟨(Jd _ _ ih.1 hw).2,Nat.mod_lt _ de⟩
  ·exact⟨ih.1,Nat.mod_lt _ de⟩
theorem aBp(B D:Nat)(b v:Int)(h:aj w B 0 (Y (D:Int))):
  CT 241 #[Y b,Y v,.pointer (some ⟨B,0,none⟩)] w fun e w'=>e=Z (Y (D:Int))/\w'=w:=by
 go_enter func241,ntmps241;go_wp2;go_returns;exact⟨rfl,rfl⟩
theorem Yq(b v:Nat)(w:World):
  CT 240 #[Y (b:Int),Y (v:Int)] w fun e w'=>e=Z (Y ((bH b v:Nat):Int))/\w'=w:=by
 have e1:((bH b v:Nat):Int)=IntKind.u64.wrap (IntKind.u64.wrap (2*(b:Int))+(v:Int)):=by rw[IntKind.wrap_u64,IntKind.wrap_u64];unfold bH;omega
 go_enter func240,ntmps240;go_wp2;go_returns;exact⟨by rw[e1];rfl,rfl⟩
theorem Vh(n N Nn D n₀ B1 B2 B3:Nat)(hNn:Nn<18446744073709551616)(hD:D<18446744073709551616)(hN:1<=N)(b1:B1<n₀)(b2:B2<n₀)(b3:B3<n₀)(h1:aj w B1 0 (Y (Nn:Int)))
  (h2:aj w B2 0 (.func (.func 241) #[] #[.pointer (some ⟨B3,0,none⟩)])) (h3:aj w B3 0 (Y (D:Int))):
  Hands Fence.wide n Tryz.prog 243 #[.pointer (some ⟨B1,0,none⟩),.pointer (some ⟨B2,0,none⟩)] n₀ N (fun i=>#[Y ((dD (fun _ _=>D) Nn i:Nat):Int),Y ((dR (fun _ _=>D) Nn i:Nat):Int)]) w:=by
 intro l J Jx W hW hJ hY h0;have c1:aj W B1 0 (Y (Nn:Int)):=(hW.cell (p:=⟨B1,0,none⟩) b1).trans h1;refine callsIn_of_wp func243 rfl trivial ?_ rfl;simp only[ntmps243,List.size_toArray,List.length_cons,List.length_nil,Nat.reduceAdd,Nat.reduceSub,Array.replicate_succ,Array.replicate_zero,List.push_toArray,List.append_toArray,List.nil_append,List.cons_append]
 gi_wp2
 gi_loopg [4,5,6] N (fun m b lf v wr=>∃k:Nat,k<N/\m=N-k/\b=Y ((dS (fun _ _=>D) Nn k).1 :Int)/\lf=Y ((dS (fun _ _=>D) Nn k).2 :Int)/\v=Y (dW k:Int)/\J k wr/\Below n₀ w wr)
 case atStart=>exact⟨0,om,rfl,by rw[dS];rfl,by rw[dS],by unfold dW;rfl,h0,hW⟩
 case round=>
  obtain⟨k,hk,rfl,rfl,rfl,rfl,hJk,hB⟩:=hrel;have c2:aj wr B2 0 (.func (.func 241) #[] #[.pointer (some ⟨B3,0,none⟩)]):=(hB.cell (p:=⟨B2,0,none⟩) b2).trans h2;have c3:aj wr B3 0 (Y (D:Int)):=(hB.cell (p:=⟨B3,0,none⟩) b3).trans h3;obtain⟨fn,tmps,assign,body,hy,hR⟩:=hY k wr hk hJk;obtain⟨s1,s2⟩:=Z8 (fun _ _=>D) Nn k hNn;have hs1:dS (fun _ _=>D) Nn (k+1)=if D<=(dS (fun _ _=>D) Nn k).2 then((dS (fun _ _=>D) Nn k).1 |||dW k,((dS (fun _ _=>D) Nn k).2 -D)*2%18446744073709551616)else((dS (fun _ _=>D) Nn k).1,(dS (fun _ _=>D) Nn k).2 *2%18446744073709551616):=by rw[dS]
  have hd:dD (fun _ _=>D) Nn k=if D<=(dS (fun _ _=>D) Nn k).2 then 1 else 0:=rfl
  have hr:dR (fun _ _=>D) Nn k=if D<=(dS (fun _ _=>D) Nn k).2 then(dS (fun _ _=>D) Nn k).2 -D else(dS (fun _ _=>D) Nn k).2 :=rfl
  have hw1:dW k<18446744073709551616:=by unfold dW;exact Nat.lt_of_le_of_lt (Nat.div_le_self _ _) de
  have hw2:dW (k+1)=dW k/2:=by unfold dW;rw[Nat.pow_succ,Nat.div_div_eq_div_mul]
  obtain⟨S1,hS1⟩:∃x,x=dS (fun _ _=>D) Nn (k+1):=⟨_,rfl⟩;obtain⟨V1,hV1⟩:∃x,x=dW (k+1):=⟨_,rfl⟩;rw[<-hS1]at hs1;rw[<-hV1]at hw2;have HN:Hid (S1=dS (fun _ _=>D) Nn (k+1)/\V1=dW (k+1)):=⟨hS1,hV1⟩;have HV:Hid (V1=dW k/2):=hw2;clear hS1 hV1 hw2;generalize dS (fun _ _=>D) Nn k=st at*
  obtain⟨b,L⟩:=st;dsimp only at*
  generalize dW k=v at*
  generalize dD (fun _ _=>D) Nn k=dd at*
  generalize dR (fun _ _=>D) Nn k=rr at*
  have HC:Hid (∀w,aj w B3 0 (Y (D:Int))->CT 241 #[Y (b:Int),Y (v:Int),.pointer (some ⟨B3,0,none⟩)] w fun e w'=>e=Z (Y (D:Int))/\w'=w):=fun w h=>aBp B3 D _ _ h;by_cases hle:D<=L
  ·rw[if_pos hle]at hs1 hd hr;subst hd;have hle':(D:Int)<=(L:Int):=om;obtain⟨o1,o2⟩:=Jd b v s1 hw1;generalize b|||v=bv at*
   rw[show((1:Nat):Int)=1 from rfl]at hy;have g1:(L:Int)-(D:Int)=(rr:Int):=om;have HR2:Hid (S1=(bv,rr*2%18446744073709551616)):=by show _=_;rw[hs1,hr]
   have hrr:rr<18446744073709551616:=om;clear hr hs1
   gi_wp2_with (refine⟨trivial,fun h=>(by cases h),?_⟩;refine(callsIn_wide.2 (HC _ c3)).mono ?_;rintro e wq ⟨rfl,hwq⟩;subst hwq)
   exact Sj
  ·rw[if_neg hle]at hs1 hd hr;subst hd;have hle':¬(D:Int)<=(L:Int):=om;rw[show((0:Nat):Int)=0 from rfl]at hy;subst hr;have HR2:Hid (S1=(b,rr*2%18446744073709551616)):=hs1;clear hs1
   gi_wp2_with (refine⟨trivial,fun h=>(by cases h),?_⟩;refine(callsIn_wide.2 (HC _ c3)).mono ?_;rintro e wq ⟨rfl,hwq⟩;subst hwq)
   exact Sj
theorem PI(n N Nn n₀ B1 B2:Nat)(hNn:Nn<18446744073709551616)(hN:1<=N)(b1:B1<n₀)(b2:B2<n₀)(h1:aj w B1 0 (Y (Nn:Int)))
  (h2:aj w B2 0 (.func (.func 240) #[] #[])):
  Hands Fence.wide n Tryz.prog 243 #[.pointer (some ⟨B1,0,none⟩),.pointer (some ⟨B2,0,none⟩)] n₀ N (fun i=>#[Y ((dD bH Nn i:Nat):Int),Y ((dR bH Nn i:Nat):Int)]) w:=by
 intro l J Jx W hW hJ hY h0;have c1:aj W B1 0 (Y (Nn:Int)):=(hW.cell (p:=⟨B1,0,none⟩) b1).trans h1;refine callsIn_of_wp func243 rfl trivial ?_ rfl;simp only[ntmps243,List.size_toArray,List.length_cons,List.length_nil,Nat.reduceAdd,Nat.reduceSub,Array.replicate_succ,Array.replicate_zero,List.push_toArray,List.append_toArray,List.nil_append,List.cons_append]
 gi_wp2
 gi_loopg [4,5,6] N (fun m b lf v wr=>∃k:Nat,k<N/\m=N-k/\b=Y ((dS bH Nn k).1 :Int)/\lf=Y ((dS bH Nn k).2 :Int)/\v=Y (dW k:Int)/\J k wr/\Below n₀ w wr)
 case atStart=>exact⟨0,om,rfl,by rw[dS];rfl,by rw[dS],by unfold dW;rfl,h0,hW⟩
 case round=>
  obtain⟨k,hk,rfl,rfl,rfl,rfl,hJk,hB⟩:=hrel;have c2:aj wr B2 0 (.func (.func 240) #[] #[]):=(hB.cell (p:=⟨B2,0,none⟩) b2).trans h2;obtain⟨fn,tmps,assign,body,hy,hR⟩:=hY k wr hk hJk;obtain⟨s1,s2⟩:=Z8 bH Nn k hNn;have hs1:dS bH Nn (k+1)=if bH (dS bH Nn k).1 (dW k)<=(dS bH Nn k).2 then((dS bH Nn k).1 |||dW k,((dS bH Nn k).2 -bH (dS bH Nn k).1 (dW k))*2%18446744073709551616)else((dS bH Nn k).1,(dS bH Nn k).2 *2%18446744073709551616):=by rw[dS]
  have hd:dD bH Nn k=if bH (dS bH Nn k).1 (dW k)<=(dS bH Nn k).2 then 1 else 0:=rfl
  have hr:dR bH Nn k=if bH (dS bH Nn k).1 (dW k)<=(dS bH Nn k).2 then(dS bH Nn k).2 -bH (dS bH Nn k).1 (dW k)else(dS bH Nn k).2 :=rfl
  have hw1:dW k<18446744073709551616:=by unfold dW;exact Nat.lt_of_le_of_lt (Nat.div_le_self _ _) de
  have hw2:dW (k+1)=dW k/2:=by unfold dW;rw[Nat.pow_succ,Nat.div_div_eq_div_mul]
  obtain⟨S1,hS1⟩:∃x,x=dS bH Nn (k+1):=⟨_,rfl⟩;obtain⟨V1,hV1⟩:∃x,x=dW (k+1):=⟨_,rfl⟩;rw[<-hS1]at hs1;rw[<-hV1]at hw2;have HN:Hid (S1=dS bH Nn (k+1)/\V1=dW (k+1)):=⟨hS1,hV1⟩;have HV:Hid (V1=dW k/2):=hw2;clear hS1 hV1 hw2;generalize dS bH Nn k=st at*
  obtain⟨b,L⟩:=st;dsimp only at*
  generalize dW k=v at*
  generalize dD bH Nn k=dd at*
  generalize dR bH Nn k=rr at*
  have HC:Hid (∀w,CT 240 #[Y (b:Int),Y (v:Int)] w fun e w'=>e=Z (Y ((bH b v:Nat):Int))/\w'=w):=fun w=>Yq b v w;have hD:bH b v<18446744073709551616:=by unfold bH;exact Nat.mod_lt _ de
  generalize bH b v=D at*
  by_cases hle:D<=L
  ·rw[if_pos hle]at hs1 hd hr;subst hd;have hle':(D:Int)<=(L:Int):=om;obtain⟨o1,o2⟩:=Jd b v s1 hw1;generalize b|||v=bv at*
   rw[show((1:Nat):Int)=1 from rfl]at hy;have g1:(L:Int)-(D:Int)=(rr:Int):=om;have HR2:Hid (S1=(bv,rr*2%18446744073709551616)):=by show _=_;rw[hs1,hr]
   have hrr:rr<18446744073709551616:=om;clear hr hs1
   gi_wp2_with (refine⟨trivial,fun h=>(by cases h),?_⟩;refine(callsIn_wide.2 (HC _)).mono ?_;rintro e wq ⟨rfl,hwq⟩;subst hwq)
   exact Sj
  ·rw[if_neg hle]at hs1 hd hr;subst hd;have hle':¬(D:Int)<=(L:Int):=om;rw[show((0:Nat):Int)=0 from rfl]at hy;subst hr;have HR2:Hid (S1=(b,rr*2%18446744073709551616)):=hs1;clear hs1
   gi_wp2_with (refine⟨trivial,fun h=>(by cases h),?_⟩;refine(callsIn_wide.2 (HC _)).mono ?_;rintro e wq ⟨rfl,hwq⟩;subst hwq)
   exact Sj
theorem aDd{P:Prop}(h:P:=by
 go_wp2_with (at_builtin;go_loud (refine dB rfl _ _ rfl w.heap.size k M _ wr.heap.size rfl (Own.alloc HO.out _) rfl (by rw[<-xU.out];simp[go_sem]) om (by simp[go_sem];omega) ?_;intro v' w1 hown1 hb1));go_roundw
 case rel=>exact⟨k+1,0,om,by go_num,by go_num,by show _=_;rw[HE2.out],hown1,Gb.below (Gb.alloc HG.out _) hb1 (Nat.le_refl _)⟩
 case measure=>simp[intOf]<;>omega):P:=h
theorem aDe{P:Prop}(h:P:=by
 go_wp2_with (at_builtin;go_loud (refine dB rfl _ _ rfl w.heap.size k M _ wr.heap.size rfl (Own.alloc HO.out _) rfl (by rw[<-xU.out];simp[go_sem]) om (by simp[go_sem];omega) ?_;intro v' w1 hown1 hb1));go_roundw
 case rel=>exact⟨k+1,1,om,by go_num,by go_num,by show _=_;rw[HE2.out],hown1,Gb.below (Gb.alloc HG.out _) hb1 (Nat.le_refl _)⟩
 case measure=>simp[intOf]<;>omega):P:=h
theorem Ho(h:Raw w (aB b n cap) n N)(hn:n<=1000000000):
  CT 162 #[aB b n cap] w fun e w'=>∃k,e=Z (aB b k cap)/\w=w'/\Big w (aB b k cap) k N/\k<=n:=by
 obtain⟨hN,b1,cap1,hv,hcap,hmx,hcell⟩:=h;cases hv;have Jz:cap<=9223372036854775807:=hmx;have HC:Hid _:=hcell;have HN:Hid _:=hN;have HM:Hid _:=hmx;clear hcell hN hmx;go_enter func162,ntmps162;go_wp2;go_loop [3] (fun i=>∃k:Nat,k<=n/\i=.int .i64 k/\Hid (N<4294967296^k)) (fun i=>(intOf i).toNat)
 case atStart=>exact⟨n,Nat.le_refl _,rfl,HN.out⟩
 case round=>
  obtain⟨k,hk,rfl,HK⟩:=hrel;rcases Nat.eq_zero_or_pos k with rfl|hpos
  ·have HF:Hid (Big w (aB b 0 cap) 0 N):=⟨⟨HK.out,.inl rfl⟩,HK.out,b,cap,rfl,Nat.zero_le _,HM.out,fun j hj=>om⟩;go_wp2;go_returns;exact⟨_,rfl,rfl,HF.out,om⟩
  ·obtain⟨j,rfl⟩:∃j,k=j+1:=⟨k-1,om⟩;have hc:aj w b j (.int .u32 (dg N j:Int)):=HC j om;have hjj:((j+1:Nat):Int)-1=(j:Int):=om;by_cases hz:dg N j=0
   ·have HL:Hid _:=He HK.out hz;have hz2:((dg N j:Nat):Int)=0:=om;rw[hz2]at hc;clear hz hz2;go_wp2;go_round
    case rel=>exact⟨j,om,by go_num,HL.out⟩
    case measure=>simp[intOf]<;>omega
   ·have hz2:(((dg N j:Nat):Int)==0)=false:=by simp;omega
    have HF:Hid (Big w (aB b (j+1) cap) (j+1) N):=⟨⟨HK.out,.inr (NC hz)⟩,HK.out,b,cap,rfl,om,HM.out,fun i hi=>HC i om⟩;clear hz;go_wp2;go_returns;exact⟨_,rfl,rfl,HF.out,om⟩
theorem VQ(hn:n<=1000000)(hN:N<4294967296^n)(hn':n'<=1000000)(hN':N'<4294967296^n')
  (hcell:∀j,j<n->aj w b j (.int .u32 (dg N j:Int))) (hcap:n<=cap) (hcell':∀j,j<n'->aj w b' j (.int .u32 (dg N' j:Int))) (hcap':n'<=cap') (hle:N'<=N) (hM:M=N-N'):
  CT 176 #[aB b n cap,aB b' n' cap'] w fun e w'=>∃g c k,e=Z (aB g k c)/\w.heap.size<=g/\Big w' (aB g k c) k M/\k<=n/\Gb w w':=by
 have HC:Hid _:=hcell;have HN:Hid _:=hN;have OL:Hid _:=hcell';have HN':Hid _:=hN';have HM:Hid _:=hM;have HL:Hid _:=hle;clear hcell hN hM hcell' hN' hle;go_enter func176,ntmps176;go_wp2;go_loopw [5,6,7] (fun v c i wr=>∃k c':Nat,k<=n/\i=.int .i64 k/\c=Y c'/\Hid (c'=OI N N' k)/\Own wr w.heap.size v k M/\Gb w wr) (fun _ _ i _=>n-(intOf i).toNat)
 case atStart=>exact⟨0,0,Nat.zero_le _,rfl,rfl,by show _=_;rw[N9],lY w _,(Gb.refl w).alloc _⟩
 case round=>
  obtain⟨k,c,hk,rfl,rfl,WJ,hown,hgb⟩:=hrel;have hsz:=hgb.size;have HO:Hid _:=hown;have HG:Hid _:=hgb;clear hown hgb;by_cases hl:k<n
  ·have hc:aj wr b k (.int .u32 (dg N k:Int)):=Gb.old HG.out (HC k hl);have hl1:(k:Int)<(n:Int):=om;have e1:=XR N N' k HL.out;have e2:=N_ N N' k;have c1:=RH N N' k;rw[<-WJ.out]at e1 e2 c1;rw[<-HM.out]at e1;have hd0:=jf N k;have hd1:=jf N' k;have hd2:=jf M k;by_cases hl':k<n'
   ·have hc':aj wr b' k (.int .u32 (dg N' k:Int)):=Gb.old HG.out (OL k hl');have EW:(k:Int)<(n':Int):=om;by_cases hb:dg N k<dg N' k+c
    ·rw[if_pos hb]at e1 e2;have xU:Hid ((dg N k:Int)+4294967296-((c:Int)+(dg N' k:Int))=(dg M k:Int)):=by show _=_;omega
     have HE2:Hid _:=e2;have hb1:(dg N k:Int)<(c:Int)+(dg N' k:Int):=om;have hb2:(dg N k:Int)+4294967296-((c:Int)+(dg N' k:Int))<4294967296:=om;clear e1 e2 hd2;generalize dg N k=t at*
     generalize dg N' k=t' at*
     exact aDe
    ·rw[if_neg hb]at e1 e2;have xU:Hid ((dg N k:Int)-((c:Int)+(dg N' k:Int))=(dg M k:Int)):=by show _=_;omega
     have HE2:Hid _:=e2;have hb1:¬(dg N k:Int)<(c:Int)+(dg N' k:Int):=om;have hb2:(dg N k:Int)-((c:Int)+(dg N' k:Int))<4294967296:=om;clear e1 e2 hd2;generalize dg N k=t at*
     generalize dg N' k=t' at*
     exact aDd
   ·have EW:¬(k:Int)<(n':Int):=om;have hz:dg N' k=0:=l7 HN'.out om;rw[hz]at e1 e2;by_cases hb:dg N k<0+c
    ·rw[if_pos hb]at e1 e2;have xU:Hid ((dg N k:Int)+4294967296-(c:Int)=(dg M k:Int)):=by show _=_;omega
     have HE2:Hid _:=e2;have hb1:(dg N k:Int)<(c:Int):=om;have hb2:(dg N k:Int)+4294967296-(c:Int)<4294967296:=om;clear e1 e2 hd2 hz hd1 hb;generalize dg N k=t at*
     exact aDe
    ·rw[if_neg hb]at e1 e2;have xU:Hid ((dg N k:Int)-(c:Int)=(dg M k:Int)):=by show _=_;omega
     have HE2:Hid _:=e2;have hb1:¬(dg N k:Int)<(c:Int):=om;have hb2:(dg N k:Int)-(c:Int)<4294967296:=om;clear e1 e2 hd2 hz hd1 hb;generalize dg N k=t at*
     exact aDd
  ·have hl1:¬(k:Int)<(n:Int):=om;have HF:Hid (M<4294967296^k):=by
    have h1:=HN.out;show _<_;rw[HM.out,show k=n by omega];omega
   obtain⟨g,c0,rfl,hbg,hcg⟩:=Own.where HO.out;go_wp2_with (go_at_call 162;refine(Ho (Own.raw HO.out HF.out) om).mono ?_;rintro e w' ⟨k',rfl,hw,hbig,hk'⟩;subst hw);go_returns;exact⟨_,_,_,rfl,hbg,hbig,om,HG.out⟩
theorem V3(hn:n<=1000000)(hN:N<4294967296^n)(hn':n'<=1000000)(hN':N'<4294967296^n')
  (hcell:∀j,j<n->aj w b j (.int .u32 (dg N j:Int))) (hcap:n<=cap) (hcell':∀j,j<n'->aj w b' j (.int .u32 (dg N' j:Int))) (hcap':n'<=cap') (hM:M=N+N'):
  CT 163 #[aB b n cap,aB b' n' cap'] w fun e w'=>∃g c k,e=Z (aB g k c)/\w.heap.size<=g/\Big w' (aB g k c) k M/\k<=n+n'+1/\Gb w w':=by
 have HC:Hid _:=hcell;have HN:Hid _:=hN;have OL:Hid _:=hcell';have HN':Hid _:=hN';have HM:Hid _:=hM;clear hcell hN hM hcell' hN';go_enter func163,ntmps163;go_wp2;go_loopw [5,6,7] (fun v c i wr=>∃k c':Nat,(k<=n\/k<=n')/\i=.int .i64 k/\c=Y c'/\Hid (c'=(N%4294967296^k+N'%4294967296^k)/4294967296^k)/\Own wr w.heap.size v k M/\Gb w wr) (fun _ _ i _=>n+n'-(intOf i).toNat)
 case atStart=>exact⟨0,0,.inl (Nat.zero_le _),rfl,rfl,by show _=_;simp[Nat.mod_one],lY w _,(Gb.refl w).alloc _⟩
 case round=>
  obtain⟨k,c,hk,rfl,rfl,WJ,hown,hgb⟩:=hrel;have hsz:=hgb.size;have HO:Hid _:=hown;have HG:Hid _:=hgb;clear hown hgb;obtain⟨e1,e2,c1⟩:=Ii N N' k c WJ.out;have hd0:=jf N k;have hd1:=jf N' k;have xU:Hid (((c:Int)+(dg N k:Int)+(dg N' k:Int))%4294967296=(dg M k:Int)):=by show _=_;rw[HM.out,e1];omega
  have HE2:Hid _:=e2;clear e1 e2;by_cases hl:k<n
  ·have hc:aj wr b k (.int .u32 (dg N k:Int)):=Gb.old HG.out (HC k hl);have hl1:(k:Int)<(n:Int):=om;by_cases hl':k<n'
   ·have hc':aj wr b' k (.int .u32 (dg N' k:Int)):=Gb.old HG.out (OL k hl');have EW:(k:Int)<(n':Int):=om;generalize dg N k=t at*
    generalize dg N' k=t' at*
    go_wp2_with (at_builtin;go_loud (refine dB rfl _ _ rfl w.heap.size k M _ wr.heap.size rfl (Own.alloc HO.out _) rfl (by rw[<-xU.out];simp[go_sem]) om (by simp[go_sem];omega) ?_;intro v' w1 hown1 hb1));go_roundw
    case rel=>exact⟨k+1,(c+t+t')/4294967296,.inl om,by go_num,by go_num,by show _=_;rw[HE2.out],hown1,Gb.below (Gb.alloc HG.out _) hb1 (Nat.le_refl _)⟩
    case measure=>simp[intOf]<;>omega
   ·have EW:¬(k:Int)<(n':Int):=om;have hz:dg N' k=0:=l7 HN'.out om;rw[hz]at HE2;have FU:Hid (((c:Int)+(dg N k:Int))%4294967296=(dg M k:Int)):=by show _=_;rw[<-xU.out,hz];simp
    clear hz xU hd1;generalize dg N k=t at*
    go_wp2_with (at_builtin;go_loud (refine dB rfl _ _ rfl w.heap.size k M _ wr.heap.size rfl (Own.alloc HO.out _) rfl (by rw[<-FU.out];simp[go_sem]) om (by simp[go_sem];omega) ?_;intro v' w1 hown1 hb1));go_roundw
    case rel=>exact⟨k+1,(c+t)/4294967296,.inl om,by go_num,by go_num,by show _=_;rw[HE2.out];rfl,hown1,Gb.below (Gb.alloc HG.out _) hb1 (Nat.le_refl _)⟩
    case measure=>simp[intOf]<;>omega
  ·have hl1:¬(k:Int)<(n:Int):=om;have hz:dg N k=0:=l7 HN.out om;by_cases hl':k<n'
   ·have hc':aj wr b' k (.int .u32 (dg N' k:Int)):=Gb.old HG.out (OL k hl');have EW:(k:Int)<(n':Int):=om;rw[hz]at HE2;have FU:Hid (((c:Int)+(dg N' k:Int))%4294967296=(dg M k:Int)):=by show _=_;rw[<-xU.out,hz];simp
    clear hz xU hd0;generalize dg N' k=t at*
    go_wp2_with (at_builtin;go_loud (refine dB rfl _ _ rfl w.heap.size k M _ wr.heap.size rfl (Own.alloc HO.out _) rfl (by rw[<-FU.out];simp[go_sem]) om (by simp[go_sem];omega) ?_;intro v' w1 hown1 hb1));go_roundw
    case rel=>exact⟨k+1,(c+t)/4294967296,.inr om,by go_num,by go_num,by show _=_;rw[HE2.out];rfl,hown1,Gb.below (Gb.alloc HG.out _) hb1 (Nat.le_refl _)⟩
    case measure=>simp[intOf]<;>omega
   ·have EW:¬(k:Int)<(n':Int):=om;have FU:Hid ((c:Int)=(dg M k:Int)):=by
     have:=Ub HN.out HN'.out (show n<=k by omega) (show n'<=k by omega);show _=_;rw[HM.out,this,<-WJ.out]
    have HF:Hid (M<4294967296^(k+1)):=by
     have:=A8 HN.out HN'.out (show n<=k by omega) (show n'<=k by omega);show _<_;rw[HM.out];exact this
    clear hz xU hd0 hd1 HE2;have hkb:k<=n+n':=om;go_wp2_with (first
     |(at_builtin;go_loud (refine dB rfl _ _ rfl w.heap.size k M _ wr.heap.size rfl (Own.alloc HO.out _) rfl (by rw[<-FU.out];simp[go_sem]) om (by simp[go_sem];omega) ?_;intro v' w1 hown1 hb1;obtain⟨g,c0,rfl,hbg,hcg⟩:=Own.where hown1))
     |(go_at_call 162;refine(Ho (Own.raw hown1 HF.out) om).mono ?_;rintro e w' ⟨k',rfl,hw,hbig,hk'⟩;subst hw))
    go_returns;exact⟨_,_,_,rfl,hbg,hbig,om,Gb.below (Gb.alloc HG.out _) hb1 (Nat.le_refl _)⟩
