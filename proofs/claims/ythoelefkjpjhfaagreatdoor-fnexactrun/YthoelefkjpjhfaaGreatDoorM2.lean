import Derived.Test.YthoelefkjpjhfaaGreatDoorG0
import Derived.Test.YthoelefkjpjhfaaGreatDoorG4
import Derived.Sort.LoopGhostIn
set_option linter.all false
open Go.Proofs.YthoelefkjpjhfaaGreatDoor renaming vU → Y
open Go.Ending renaming returned → Z
open Go.Proofs.Tryz
namespace Go.Proofs.YthoelefkjpjhfaaGreatDoor
open Go.RowKit
attribute [local go_sem] aA
variable{w:World}{n cap N b m base b' cap' M n' N' g V r A Bv a s C:Nat}{v v2:Value}{p mn mx aI aj aJ e z fl:Int}
def Own.store(h:Own w base (aC g n cap) n V)(k d:Nat)(hk:k<n)(hd:d<4294967296):
  Own (w.setCell ⟨g,k,none⟩ (.int .u32 (d:Int))) base (aC g n cap) n (put V k d):=by
 refine⟨?_,h.2⟩;rw[<-aH3 n V k d hk hd];exact(h.1.stored k _).1
def Own.at(h:Own w base (aC g n cap) n V)(k:Nat)(hk:k<n):
  w.cell? ⟨g,k,none⟩=some (.int .u32 (dg V k:Int))/\w.frozen? ⟨g,k,none⟩=false:=by
 refine⟨?_,h.1.frozenAt k⟩;rw[h.1.cellAt k om,Dl n V k hk]
def Own.where(h:Own w base v n N):∃g cap,v=aC g n cap/\base<=g/\n<=cap:=by
 obtain⟨⟨h1,h2⟩,h3⟩:=h;rcases h2 with⟨rfl,_⟩|⟨g,cap,cur,rfl,hb,hh,hc,hm,hs,ht⟩
 .exact absurd rfl h3
 .exact⟨g,cap,rfl,hb,hc⟩
set_option maxRecDepth 1000000
set_option maxHeartbeats 40000000
def ZH(hn:n<=1000000)(hA:A<4294967296^n)(hm:m<=1000000)(hB:Bv<4294967296^m)
  (aW:∀j,j<n->aA w b j (.int .u32 (dg A j:Int))) (kJ:n<=cap) (gK:∀j,j<m->aA w b' j (.int .u32 (dg Bv j:Int))) (pq:m<=cap') (hM:M=A*Bv):
  CT 152 #[aC b n cap,aC b' m cap'] w λe w'=>∃v' k,e=Z v'/\Big w' v' k M/\k<=n+m/\Gb w w':=by
 have HC:Hid _:=aW;have HA:Hid _:=hA;have Yb:Hid _:=gK;have HB:Hid _:=hB;have HM:Hid _:=hM;clear aW hA hM gK hB;go_enter func152,ntmps152;go_wp2;go_loopw [5,6] (λv i wr=>∃k:Nat,k<=n+m/\i=.int .i64 k/\Own wr w.heap.size v k 0/\Gb w wr) (λ_ i _=>n+m-(intOf i).toNat)
 case atStart=>exact⟨0,Nat.zero_le _,rfl,qG w _,(Gb.refl w).alloc _⟩
 case round=>
  obtain⟨k,hk,rfl,gZ,dH⟩:=hrel;have uF:=dH.size;have HO:Hid _:=gZ;have HG:Hid _:=dH;clear gZ dH;by_cases hl:k<n+m
  .have Tj:(k:Int)<(n:Int)+(m:Int):=om;have HD:Hid (((dg 0 k:Nat):Int)=0):=by show _=_;unfold dg;simp
   go_wp2_with (at_builtin;refine eY rfl _ _ rfl w.heap.size k 0 _ wr.heap.size rfl (Own.alloc HO.out _) rfl (by rw[HD.out];simp[go_sem]) om (by simp[go_sem];omega) ?_;intro v' w1 iM gU);go_roundw
   case rel=>exact⟨k+1,om,by go_num,iM,Gb.below (Gb.alloc HG.out _) gU (Nat.le_refl _)⟩
   case measure=>exact uz
  .have HSM:Hid (k=n+m):=by show _=_;omega
   have lX:k<=2000000:=om;have Tj:¬(k:Int)<(n:Int)+(m:Int):=om;obtain⟨g,c0,rfl,hg,hcg⟩:=Own.where HO.out;have HL:Hid _:=hl;clear hl;go_wp2;clear hk Tj;go_loopw [7] (λi wr'=>∃i':Nat,i'<=n/\i=.int .i64 i'/\Own wr' w.heap.size (aC g k c0) k (A%4294967296^i'*Bv)/\Gb w wr') (λi _=>n-(intOf i).toNat)
   case atStart=>exact⟨0,Nat.zero_le _,rfl,by rw[Nat.pow_zero,Nat.mod_one,Nat.zero_mul];exact HO.out,HG.out⟩
   case round=>
    clear HO HG uF;obtain⟨i,hi,rfl,gZ,dH⟩:=hrel;have HO:Hid _:=gZ;have HG:Hid _:=dH;clear gZ dH;by_cases hin:i<n
    .have aPF:(i:Int)<(n:Int):=om;go_wp2;go_loopw [8,9] (λc j wr'=>∃(j' c' V:Nat),j'<=m/\j=.int .i64 j'/\c=Y c'/\Hid (QL A Bv m i j' V c')/\Own wr' w.heap.size (aC g k c0) k V/\Gb w wr') (λ_ j _=>m-(intOf j).toNat)
     case atStart=>exact⟨0,0,_,Nat.zero_le _,rfl,rfl,Zq A Bv m i HB.out,HO.out,HG.out⟩
     case round=>
      clear HO HG;obtain⟨j,c,V,hj,rfl,rfl,HI,gZ,dH⟩:=hrel;have HO:Hid _:=gZ;have HG:Hid _:=dH;clear gZ dH;have W9:c<4294967296:=HI.out.2.2;by_cases hjm:j<m
      .have D6:(j:Int)<(m:Int):=om;obtain⟨K,hK⟩:=x_n (i+j);have hKs:K<k:=by have:=HSM.out;omega
       have hKI:IntKind.i64.wrap ((i:Int)+(j:Int))=(K:Int):=by rw[IntKind.wrap_i64]<;>omega
       obtain⟨hcv,hzv⟩:=Own.at HO.out K hKs;have Z_:aA wr b i (.int .u32 (dg A i:Int)):=Gb.old HG.out (HC i hin);have zW:aA wr b' j (.int .u32 (dg Bv j:Int)):=Gb.old HG.out (Yb j hjm);have ha:=kK A i;have hb:=kK Bv j;have hv:=kK V K;have hx:=Qc _ _ _ _ ha hb hv W9;obtain⟨y,hy⟩:=x_n (dg A i*dg Bv j);rw[<-hy]at hx;obtain⟨z,hz⟩:=x_n (y+dg V K);obtain⟨x,J7⟩:=x_n (z+c);have Pv:IntKind.u64.wrap ((dg A i:Int)*(dg Bv j:Int))=(y:Int):=by
        have e:(dg A i:Int)*(dg Bv j:Int)=(y:Int):=by rw[hy];push_cast;rfl
        rw[e,IntKind.wrap_u64];omega
       have jA:IntKind.u64.wrap ((y:Int)+(dg V K:Int))=(z:Int):=wu;have hw3:IntKind.u64.wrap ((z:Int)+(c:Int))=(x:Int):=wu;rw[<-hz,<-J7]at hx;have HS:Hid (QL A Bv m i (j+1) (put V K (x%4294967296)) (x/4294967296)):=by
        have h:=Zr HI.out hjm;rw[<-hK,<-hy,<-hz,<-J7]at h;exact h
       have ZY:=Own.store HO.out K (x%4294967296) hKs om;have Ud:((x%4294967296:Nat):Int)=(x:Int)%4294967296:=om;rw[Ud]at ZY;have HP:Hid _:=ZY;have HK:Hid _:=hK;clear ZY hy hz J7 hK Ud;generalize dg A i=ta at*
       generalize dg Bv j=tb at*
       generalize dg V K=tv at*
       go_wp2;go_region;all_goals (try go_wp2)<;>go_roundw
       all_goals first|exact⟨j+1,x/4294967296,_,om,by go_num,by go_num,HS.out,Own.drew HP.out,Gb.drew (Gb.setCell HG.out hg _)⟩|exact⟨j+1,x/4294967296,_,om,by go_num,by go_num,HS.out,HP.out,Gb.setCell HG.out hg _⟩|(simp[intOf]<;>omega)
      .have D6:¬(j:Int)<(m:Int):=om;obtain rfl:j=m:=om;have HE:Hid _:=aCZ HI.out HB.out;obtain⟨K,hK⟩:=x_n (i+j);rw[<-hK]at HE;have hKs:K<k:=by have:=HSM.out;omega
       have hKI:IntKind.i64.wrap ((i:Int)+(j:Int))=(K:Int):=by rw[IntKind.wrap_i64]<;>omega
       have hKJ:(i:Int)+(j:Int)=(K:Int):=om;obtain⟨hcv,hzv⟩:=Own.at HO.out K hKs;have ZY:=Own.store HO.out K c hKs W9;rw[HE.out]at ZY;have HP:Hid _:=ZY;have HK:Hid _:=hK;clear ZY hK HE;generalize dg V K=tv at*
       go_wp2;go_roundw
       case rel=>exact⟨i+1,om,by go_num,HP.out,Gb.setCell HG.out hg _⟩
       case measure=>exact uz
    .have aPF:¬(i:Int)<(n:Int):=om;obtain rfl:i=n:=om;have HF:Hid (Raw wr (aC g k c0) k M):=by
      have h1:=HO.out;rw[Nat.mod_eq_of_lt HA.out,<-HM.out]at h1;refine Own.raw h1 ?_;rw[HM.out,HSM.out,Nat.pow_add];rcases Nat.eq_zero_or_pos Bv with e|e
      .rw[e,Nat.mul_zero];exact Nat.mul_pos (iZ _) (iZ _)
      .exact Nat.mul_lt_mul_of_lt_of_le HA.out (Nat.le_of_lt HB.out) (iZ _)
     go_wp2_with (go_at_call 220;refine(nI HF.out om).mono ?_;rintro e w' ⟨v'',k',rfl,hw,mF,C_⟩;subst hw);go_returns;exact⟨_,_,rfl,mF,by have:=HSM.out;omega,HG.out⟩
def zQ(h:Big w v n N)(hn:n<=1000000)(h':Big w v2 n' N')(C9:n'<=1000000):
  CT 152 #[v,v2] w λe w'=>∃v' k,e=Z v'/\Big w' v' k (N*N')/\k<=n+n'/\Gb w w':=by
 obtain⟨uG,hN,b,cap,rfl,kJ,Bd,aW⟩:=h;obtain⟨WV,zo,b',cap',rfl,pq,Ti,gK⟩:=h';exact ZH hn hN C9 zo aW kJ gK pq rfl
def uy(t:Bool):Nat:=if t then 1 else 0
def aF1(t:Bool):uy t<=1:=by cases t<;>decide
def bH.cut{one:Int}(k:Nat)(t:Bool)(hX:0<m/2^k)(hp:0<=p)(hn:p+2<=(nb (m/2^k):Int))(st:Bool)(hst:st=(decide (m%2^k≠0)||t)):
  bH p mn mx one aI aj aJ (m/2^k) (e+k) st z fl↔bH p mn mx one aI aj aJ (2*m+uy t) (e-1) false z fl:=by
 have hb:=aF1 t;have Px:0<2^k:=Nat.pow_pos de;have e1:(2*m+uy t)/2^(k+1)=m/2^k:=by
  rw[Nat.pow_succ,Nat.mul_comm (2^k) 2,<-Nat.div_div_eq_div_mul];rw[(om:(2*m+uy t)/2=m)]
 have e2:(2*m+uy t)%2^(k+1)=2*(m%2^k)+uy t:=by
  have h1:=Nat.div_add_mod (2*m+uy t) (2^(k+1));rw[e1]at h1;have h2:=Nat.div_add_mod m (2^k);have h3:2^(k+1)*(m/2^k)=2*(2^k*(m/2^k)):=by rw[Nat.pow_succ,Nat.mul_comm (2^k) 2,Nat.mul_assoc]
  omega
 have h:=bH.trunc (p:=p) (mn:=mn) (mx:=mx) (one:=one) (aI:=aI) (aj:=aj) (aJ:=aJ) (X:=2*m+uy t) (e:=e-1) (z:=z) (fl:=fl) (k+1) (by rw[e1];exact hX) hp (λ_=>by rw[e1];exact hn);rw[e1,e2,(om:e-1+((k+1:Nat):Int)=e+k)]at h;have e3:decide (2*(m%2^k)+uy t≠0)=st:=by
  rw[hst];cases t
  .simp[uy];omega
  .simp[uy]
 rw[e3]at h;exact h
def bH.rest{one:Int}(t:Bool)(hX:0<m)(hp:0<=p)(hn:p+2<=(nb m:Int)):
  bH p mn mx one aI aj aJ m e t z fl↔bH p mn mx one aI aj aJ (2*m+uy t) (e-1) false z fl:=by
 have h:=bH.cut (p:=p) (mn:=mn) (mx:=mx) (one:=one) (aI:=aI) (aj:=aj) (aJ:=aJ) (m:=m) (e:=e) (z:=z) (fl:=fl) 0 t (by rw[Nat.pow_zero,Nat.div_one];exact hX) hp (by rw[Nat.pow_zero,Nat.div_one];exact hn) t (by rw[Nat.pow_zero,Nat.mod_one];simp);rw[Nat.pow_zero,Nat.div_one,(om:e+((0:Nat):Int)=e)]at h;exact h
def aIK(A B s k:Nat)(hB:0<B):A*2^(s+k)/B/2^k=A*2^s/B/\(decide (A*2^(s+k)/B%2^k≠0)||decide (A*2^(s+k)%B≠0))=decide (A*2^s%B≠0):=by
 have Px:0<2^k:=Nat.pow_pos de;have e0:A*2^(s+k)=A*2^s*2^k:=by rw[Nat.pow_add,Nat.mul_assoc]
 rw[e0];obtain⟨X,hX⟩:=x_n (A*2^s);rw[<-hX];have e1:X*2^k/B/2^k=X/B:=by rw[Nat.div_div_eq_div_mul,Nat.mul_div_mul_right _ _ Px]
 refine⟨e1,?_⟩;have h1:=Nat.div_add_mod (X*2^k) B;have h2:=Nat.div_add_mod (X*2^k/B) (2^k);have h3:=Nat.div_add_mod X B;rw[e1]at h2;by_cases c:X%B=0
 .rw[c,Nat.add_zero]at h3;have h4:X*2^k=B*(X/B*2^k):=by rw[<-Nat.mul_assoc,h3]
  have h5:X*2^k/B=X/B*2^k:=by rw[h4,Nat.mul_div_cancel_left _ hB]
  have h6:X*2^k%B=0:=by rw[h4];exact Nat.mul_mod_right _ _
  rw[h5,Nat.mul_mod_left,h6,c];rfl
 .rw[decide_eq_true (p:=X%B≠0) c];by_cases c1:X*2^k%B=0
  .by_cases c2:X*2^k/B%2^k=0
   .exfalso;rw[c1,Nat.add_zero]at h1;rw[c2,Nat.add_zero]at h2;rw[<-h2,Nat.mul_comm (2^k),<-Nat.mul_assoc]at h1;have h7:B*(X/B)=X:=Nat.eq_of_mul_eq_mul_right Px h1;omega
   .simp[c2]
  .simp[c1]
def aA0(A B s q:Nat)(hB:0<B)(hA:2^q*B<=A*2^s):q+1<=nb (A*2^s/B):=by
 have:2^q<=A*2^s/B:=by rw[Nat.le_div_iff_mul_le hB];exact hA
 exact yg this
def qC(m r:Nat):Prop:=r*r<=m/\m<(r+1)*(r+1)
def qQ(h:a*a<b*b):a<b:=by
 rcases Nat.lt_or_ge a b with c|c
 .exact c
 .have:=Nat.mul_le_mul c c;omega
def qC.one(h:qC m r)(k:qC m s):r=s:=by
 have h1:r<s+1:=qQ (Nat.lt_of_le_of_lt h.1 k.2);have h2:s<r+1:=qQ (Nat.lt_of_le_of_lt k.1 h.2);omega
def qC.scale(t:Nat)(h:qC m C)(k:qC (m*2^(2*t)) r):r/2^t=C/\(decide (r%2^t≠0)||decide (r*r≠m*2^(2*t)))=decide (C*C≠m):=by
 have Px:0<2^t:=Nat.pow_pos de;have e0:2^(2*t)=2^t*2^t:=by rw[<-Nat.pow_add];congr 1;omega
 rw[e0]at k⊢
 obtain⟨P,hP⟩:=x_n (2^t);rw[<-hP]at k Px⊢
 have sq:∀a:Nat,a*P*(a*P)=a*a*(P*P):=λa=>by simp only[Nat.mul_comm,Nat.mul_left_comm,Nat.mul_assoc]
 have e1:C*P<=r:=by
  have:C*P*(C*P)<(r+1)*(r+1):=by
   rw[sq];exact Nat.lt_of_le_of_lt (Nat.mul_le_mul_right _ h.1) k.2
  have:=qQ this;omega
 have e2:r<(C+1)*P:=by
  refine qQ (Nat.lt_of_le_of_lt k.1 ?_);rw[sq];exact Nat.mul_lt_mul_of_pos_right h.2 (Nat.mul_pos Px Px)
 have e3:r/P=C:=by
  rw[Nat.div_eq_iff Px];rw[Nat.add_mul]at e2;omega
 refine⟨e3,?_⟩;have h2:=Nat.div_add_mod r P;rw[e3]at h2;by_cases c:C*C=m
 .have:qC (m*(P*P)) (C*P):=by
   refine⟨?_,?_⟩
   .rw[sq,c];exact Nat.le_refl _
   .rw[<-c,<-sq];exact Nat.mul_lt_mul'' (Nat.lt_succ_self _) (Nat.lt_succ_self _)
  have hr:=k.one this;have h4:r%P=0:=by rw[hr];exact Nat.mul_mod_left _ _
  have h5:r*r=m*(P*P):=by rw[hr,sq,c]
  rw[h4,h5,c];simp
 .rw[decide_eq_true (p:=C*C≠m) c];by_cases c1:r%P=0
  .by_cases c2:r*r=m*(P*P)
   .exfalso;rw[c1,Nat.add_zero,Nat.mul_comm]at h2;rw[<-h2,sq]at c2;exact c (Nat.eq_of_mul_eq_mul_right (Nat.mul_pos Px Px) c2)
   .simp[c2]
  .simp[c1]
def LP(A p od:Nat)(hp1:1<=p)(hp:p<=53)(hod:od<=1)(hA:A<2^p):
  qC (A*2^(p+5+od)) (dC cZ (A*2^(61-p+od)) (p+3))/\(dR cZ (A*2^(61-p+od)) (p+2)≠0↔dC cZ (A*2^(61-p+od)) (p+3)*dC cZ (A*2^(61-p+od)) (p+3)≠A*2^(p+5+od))/\dC cZ (A*2^(61-p+od)) (p+3)<18446744073709551616:=by
 have hN:A*2^(61-p+od)<4611686018427387904:=by
  have h1:A*2^(61-p+od)<2^p*2^(61-p+od):=Nat.mul_lt_mul_of_pos_right hA (Nat.pow_pos de);rw[<-Nat.pow_add]at h1;have h2:2^(p+(61-p+od))<=2^62:=Nat.pow_le_pow_right de om;have h3:2^62=4611686018427387904:=de;omega
 obtain⟨d1,d2,d3⟩:=Vr (A*2^(61-p+od)) (p+2) hN om;have hw:dW (p+2)=2^(58-p):=by rw[zA _ (by omega)];congr 1;omega
 obtain⟨W,hW⟩:=x_n (2^(58-p));rw[hw,<-hW]at d1 d2;have hW0:0<W:=by rw[hW];exact Nat.pow_pos de
 have hL:A*2^(61-p+od)*1152921504606846976=A*2^(p+5+od)*(W*W):=by
  rw[hW,<-Nat.pow_add,Nat.mul_assoc,Nat.mul_assoc,show 1152921504606846976=2^60 by decide,<-Nat.pow_add,<-Nat.pow_add]
  congr 2
  omega
 rw[hL]at d1;obtain⟨C,hC⟩:=x_n (dC cZ (A*2^(61-p+od)) (p+3));obtain⟨R,hR⟩:=x_n (dR cZ (A*2^(61-p+od)) (p+2));obtain⟨m,hm⟩:=x_n (A*2^(p+5+od));rw[show p+2+1=p+3 from rfl]at d1 d2 d3;rw[<-hC,<-hR,<-hm]at d1;rw[<-hC,<-hR]at d2;rw[<-hC]at d3;rw[<-hC,<-hR,<-hm];have sq:C*W*(C*W)=C*C*(W*W):=by simp only[Nat.mul_comm,Nat.mul_left_comm,Nat.mul_assoc]
 rw[sq]at d1;have hWW:0<W*W:=Nat.mul_pos hW0 hW0;refine⟨⟨?_,?_⟩,?_,d3⟩
 .refine Nat.le_of_mul_le_mul_right ?_ hWW;rw[d1];omega
 .refine Nat.lt_of_mul_lt_mul_right (a:=W*W) ?_;rw[d1];have h1:(C+1)*(C+1)*(W*W)=C*C*(W*W)+(2*(C*W)+W)*W:=by
   simp only[Nat.add_mul,Nat.mul_add,Nat.one_mul,Nat.mul_one];have:2*(C*W)*W=C*(W*W)+C*(W*W):=by rw[Nat.mul_assoc,Nat.mul_assoc,Nat.two_mul]
   omega
  rw[h1];have:=Nat.mul_lt_mul_of_pos_right d2 hW0;omega
 .constructor
  .intro h c;rw[<-c]at d1;have:0<R*W:=Nat.mul_pos om hW0;omega
  .intro h c;rw[c,Nat.zero_mul,Nat.add_zero]at d1;exact h (Nat.eq_of_mul_eq_mul_right hWW d1).symm
def oZ(X d:Nat):Bool:=decide (d<2*(X%d)\/d=2*(X%d)/\X/d%2=1)
def pV(X d:Nat):Nat:=if oZ X d then d-X%d else X%d
def Bq(C L:Nat):Bool:=decide (C%2=1/\(C/2%2=1\/L≠0))
def Ee(C L B:Nat):Nat:=if Bq C L then B-L else if C%2=1 then B else L
def aMy(X B:Nat)(hB:0<B):Bq (2*X/B) (2*X%B)=oZ X B/\Ee (2*X/B) (2*X%B) B=2*pV X B:=by
 obtain⟨q,hq⟩:=x_n (X/B);obtain⟨r,hr⟩:=x_n (X%B);have h1:=Nat.div_add_mod X B;have h2:=Nat.mod_lt X hB;rw[<-hq,<-hr]at h1;rw[<-hr]at h2;unfold Ee pV Bq oZ;rw[<-hq,<-hr];have e0:2*X=B*(2*q)+2*r:=by rw[<-h1,Nat.mul_add,<-Nat.mul_assoc,<-Nat.mul_assoc,Nat.mul_comm 2 B]
 by_cases c:B<=2*r
 .have e1:2*X=B*(2*q+1)+(2*r-B):=by rw[e0,Nat.mul_add,Nat.mul_one];omega
  have e2:2*X/B=2*q+1:=by rw[e1,Nat.mul_add_div hB,Nat.div_eq_of_lt (by omega)]
  have e3:2*X%B=2*r-B:=by rw[e1,Nat.mul_add_mod,Nat.mod_eq_of_lt (by omega)]
  rw[e2,e3];have e4:decide ((2*q+1)%2=1/\((2*q+1)/2%2=1\/2*r-B≠0))=decide (B<2*r\/B=2*r/\q%2=1):=by
   rw[decide_eq_decide];omega
  rw[e4];refine⟨rfl,?_⟩;rw[if_pos (om:(2*q+1)%2=1)];by_cases c1:B<2*r\/B=2*r/\q%2=1
  .rw[decide_eq_true c1,if_pos rfl,if_pos rfl];omega
  .rw[decide_eq_false c1,if_neg de,if_neg (by decide)];omega
 .have e2:2*X/B=2*q:=by rw[e0,Nat.mul_add_div hB,Nat.div_eq_of_lt om,Nat.add_zero]
  have e3:2*X%B=2*r:=by rw[e0,Nat.mul_add_mod,Nat.mod_eq_of_lt (by omega)]
  rw[e2,e3];have e4:decide (2*q%2=1/\(2*q/2%2=1\/2*r≠0))=decide (B<2*r\/B=2*r/\q%2=1):=by
   rw[decide_eq_decide];omega
  rw[e4];refine⟨rfl,?_⟩;rw[if_neg (om:¬2*q%2=1),decide_eq_false (om:¬(B<2*r\/B=2*r/\q%2=1)),if_neg de,if_neg (by decide)]
def aMx(A B:Nat)(hB:0<B)(hA:A<2*B):Bq (A/B) (A%B)=oZ A (2*B)/\Ee (A/B) (A%B) B=pV A (2*B):=by
 unfold Ee pV Bq oZ;rw[Nat.mod_eq_of_lt hA,Nat.div_eq_of_lt hA];by_cases c:B<=A
 .have e2:A/B=1:=by rw[Nat.div_eq_iff hB];omega
  have e3:A%B=A-B:=by have:=Nat.div_add_mod A B;rw[e2,Nat.mul_one]at this;omega
  rw[e2,e3];have e4:decide (1%2=1/\(1/2%2=1\/A-B≠0))=decide (2*B<2*A\/2*B=2*A/\0%2=1):=by
   rw[decide_eq_decide];omega
  rw[e4];refine⟨rfl,?_⟩;by_cases c1:2*B<2*A\/2*B=2*A/\0%2=1
  .rw[decide_eq_true c1,if_pos rfl,if_pos rfl];omega
  .rw[decide_eq_false c1,if_neg de,if_pos de,if_neg (by decide)];omega
 .have e2:A/B=0:=Nat.div_eq_of_lt om;have e3:A%B=A:=Nat.mod_eq_of_lt om;rw[e2,e3];rw[decide_eq_false (om:¬(2*B<2*A\/2*B=2*A/\0%2=1)),decide_eq_false (om:¬(0%2=1/\(0/2%2=1\/A≠0)))];exact⟨rfl,by simp⟩
def aFG(A d:Nat)(h:2*A<d):oZ A d=false/\pV A d=A:=by
 have:oZ A d=false:=by unfold oZ;rw[Nat.mod_eq_of_lt (by omega)];exact decide_eq_false om
 exact⟨this,by unfold pV;rw[this,Nat.mod_eq_of_lt (by omega)];rfl⟩
open Go.RowKit Go.Shelf
def aAL{P:Prop}(h:P:=by
 refine⟨λh=>(by cases h),?_⟩;refine hR.mono ?_;rintro e W3 (⟨fF,rfl,hJ3,wU⟩|⟨heq,rfl,aSH⟩)
 .gi_wp2
  gi_roundg (N-(k+1))
  case rel=>
   obtain⟨n1,n2⟩:=HN.out;have EN:=HR2.out;have hv1:=HV.out;refine⟨k+1,fF,rfl,?_,?_,?_,hJ3,hB.trans wU⟩
   .rw[<-n1,EN]
   .rw[<-n1,EN];dsimp only;go_num
   .rw[<-n2,hv1];go_num
  case measure=>omega
 .gi_wp2
  refine bodyPost_ret (results_none rfl _ _ _) rfl ?_;exact⟨⟨_,rfl⟩,aSH⟩):P:=h
attribute [local go_sem] Oper.semAt_some
def Si(a b:Nat)(ha:aG a)(hb:aG b):bits .or .u64 (a:Int) (b:Int)=((a|||b:Nat):Int)/\a|||b<18446744073709551616:=by
 have h:a|||b<2^64:=Nat.or_lt_two_pow (by simpa using ha) (by simpa using hb);exact⟨u64_or_nat a b ha hb,by simpa using h⟩
def aHo(c:Nat->Nat->Nat)(N k:Nat)(hN:aG N):(dS c N k).1 <18446744073709551616/\(dS c N k).2 <18446744073709551616:=by
 induction k with
 |zero=>rw[dS];exact⟨by dsimp only;omega,hN⟩
 |succ k ih=>
  have hw:dW k<18446744073709551616:=by unfold dW;exact Nat.lt_of_le_of_lt (Nat.div_le_self _ _) de
  rw[dS];split
  .exact⟨(Si _ _ ih.1 hw).2,Nat.mod_lt _ de⟩
  .exact⟨ih.1,Nat.mod_lt _ de⟩
def aIL(B D:Nat)(b v:Int)(h:aA w B 0 (Y (D:Int))):
  CT 250 #[Y b,Y v,.pointer (some ⟨B,0,none⟩)] w λe w'=>e=Z (Y (D:Int))/\w'=w:=by
 go_enter func250,ntmps250;go_wp2;go_returns;exact⟨rfl,rfl⟩
def aFz(b v:Nat)(w:World):
  CT 251 #[Y (b:Int),Y (v:Int)] w λe w'=>e=Z (Y ((cZ b v:Nat):Int))/\w'=w:=by
 have e1:((cZ b v:Nat):Int)=IntKind.u64.wrap (IntKind.u64.wrap (2*(b:Int))+(v:Int)):=by rw[IntKind.wrap_u64,IntKind.wrap_u64];unfold cZ;omega
 go_enter func251,ntmps251;go_wp2;go_returns;exact⟨by rw[e1];rfl,rfl⟩
def aCS(n N Nn D n₀ B1 B2 B3:Nat)(hNn:aG Nn)(hD:aG D)(hN:1<=N)(b1:B1<n₀)(b2:B2<n₀)(b3:B3<n₀)(h1:aA w B1 0 (Y (Nn:Int)))
  (h2:aA w B2 0 (.func (.func 250) #[] #[.pointer (some ⟨B3,0,none⟩)])) (h3:aA w B3 0 (Y (D:Int))):
  Hands Fence.wide n Tryz.prog 306 #[.pointer (some ⟨B1,0,none⟩),.pointer (some ⟨B2,0,none⟩)] n₀ N (λi=>#[Y ((dD (λ_ _=>D) Nn i:Nat):Int),Y ((dR (λ_ _=>D) Nn i:Nat):Int)]) w:=by
 intro l J Jx W hW hJ hY h0;have c1:aA W B1 0 (Y (Nn:Int)):=(hW.cell (p:=⟨B1,0,none⟩) b1).trans h1;refine callsIn_of_wp func306 rfl trivial ?_ rfl;simp only[ntmps306,List.size_toArray,List.length_cons,List.length_nil,Nat.reduceAdd,Nat.reduceSub,Array.replicate_succ,Array.replicate_zero,List.push_toArray,List.append_toArray,List.nil_append,List.cons_append]
 gi_wp2
 gi_loopg [4,5,6] N (λm b lf v wr=>∃k:Nat,k<N/\m=N-k/\b=Y ((dS (λ_ _=>D) Nn k).1 :Int)/\lf=Y ((dS (λ_ _=>D) Nn k).2 :Int)/\v=Y (dW k:Int)/\J k wr/\Below n₀ w wr)
 case atStart=>exact⟨0,om,rfl,by rw[dS];rfl,by rw[dS],by unfold dW;rfl,h0,hW⟩
 case round=>
  obtain⟨k,hk,rfl,rfl,rfl,rfl,hJk,hB⟩:=hrel;have c2:aA wr B2 0 (.func (.func 250) #[] #[.pointer (some ⟨B3,0,none⟩)]):=(hB.cell (p:=⟨B2,0,none⟩) b2).trans h2;have c3:aA wr B3 0 (Y (D:Int)):=(hB.cell (p:=⟨B3,0,none⟩) b3).trans h3;obtain⟨fn,tmps,assign,body,hy,hR⟩:=hY k wr hk hJk;obtain⟨s1,s2⟩:=aHo (λ_ _=>D) Nn k hNn;have EN:dS (λ_ _=>D) Nn (k+1)=if D<=(dS (λ_ _=>D) Nn k).2 then((dS (λ_ _=>D) Nn k).1 |||dW k,((dS (λ_ _=>D) Nn k).2 -D)*2%18446744073709551616)else((dS (λ_ _=>D) Nn k).1,(dS (λ_ _=>D) Nn k).2 *2%18446744073709551616):=by rw[dS]
  have hd:dD (λ_ _=>D) Nn k=if D<=(dS (λ_ _=>D) Nn k).2 then 1 else 0:=rfl
  have hr:dR (λ_ _=>D) Nn k=if D<=(dS (λ_ _=>D) Nn k).2 then(dS (λ_ _=>D) Nn k).2 -D else(dS (λ_ _=>D) Nn k).2 :=rfl
  have Pv:dW k<18446744073709551616:=by unfold dW;exact Nat.lt_of_le_of_lt (Nat.div_le_self _ _) de
  have jA:dW (k+1)=dW k/2:=by unfold dW;rw[Nat.pow_succ,Nat.div_div_eq_div_mul]
  obtain⟨S1,hS1⟩:=x_n (dS (λ_ _=>D) Nn (k+1));obtain⟨V1,hV1⟩:=x_n (dW (k+1));rw[<-hS1]at EN;rw[<-hV1]at jA;have HN:Hid (S1=dS (λ_ _=>D) Nn (k+1)/\V1=dW (k+1)):=⟨hS1,hV1⟩;have HV:Hid (V1=dW k/2):=jA;clear hS1 hV1 jA;generalize dS (λ_ _=>D) Nn k=st at*
  obtain⟨b,L⟩:=st;dsimp only at*
  generalize dW k=v at*
  generalize dD (λ_ _=>D) Nn k=dd at*
  generalize dR (λ_ _=>D) Nn k=rr at*
  have HC:Hid (∀w,aA w B3 0 (Y (D:Int))->CT 250 #[Y (b:Int),Y (v:Int),.pointer (some ⟨B3,0,none⟩)] w λe w'=>e=Z (Y (D:Int))/\w'=w):=λw h=>aIL B3 D _ _ h;by_cases rG:D<=L
  .rw[if_pos rG]at EN hd hr;subst hd;have aGK:(D:Int)<=(L:Int):=om;obtain⟨o1,o2⟩:=Si b v s1 Pv;generalize b|||v=bv at*
   rw[show((1:Nat):Int)=1 from rfl]at hy;have g1:(L:Int)-(D:Int)=(rr:Int):=om;have HR2:Hid (S1=(bv,rr*2%18446744073709551616)):=by show _=_;rw[EN,hr]
   have hrr:aG rr:=om;clear hr EN
   gi_wp2_with (refine⟨trivial,λh=>(by cases h),?_⟩;refine(callsIn_wide.2 (HC _ c3)).mono ?_;rintro e wq ⟨rfl,hwq⟩;subst hwq)
   exact aAL
  .rw[if_neg rG]at EN hd hr;subst hd;have aGK:¬(D:Int)<=(L:Int):=om;rw[show((0:Nat):Int)=0 from rfl]at hy;subst hr;have HR2:Hid (S1=(b,rr*2%18446744073709551616)):=EN;clear EN
   gi_wp2_with (refine⟨trivial,λh=>(by cases h),?_⟩;refine(callsIn_wide.2 (HC _ c3)).mono ?_;rintro e wq ⟨rfl,hwq⟩;subst hwq)
   exact aAL
def Y7(n N Nn n₀ B1 B2:Nat)(hNn:aG Nn)(hN:1<=N)(b1:B1<n₀)(b2:B2<n₀)(h1:aA w B1 0 (Y (Nn:Int)))
  (h2:aA w B2 0 (.func (.func 251) #[] #[])):
  Hands Fence.wide n Tryz.prog 306 #[.pointer (some ⟨B1,0,none⟩),.pointer (some ⟨B2,0,none⟩)] n₀ N (λi=>#[Y ((dD cZ Nn i:Nat):Int),Y ((dR cZ Nn i:Nat):Int)]) w:=by
 intro l J Jx W hW hJ hY h0;have c1:aA W B1 0 (Y (Nn:Int)):=(hW.cell (p:=⟨B1,0,none⟩) b1).trans h1;refine callsIn_of_wp func306 rfl trivial ?_ rfl;simp only[ntmps306,List.size_toArray,List.length_cons,List.length_nil,Nat.reduceAdd,Nat.reduceSub,Array.replicate_succ,Array.replicate_zero,List.push_toArray,List.append_toArray,List.nil_append,List.cons_append]
 gi_wp2
 gi_loopg [4,5,6] N (λm b lf v wr=>∃k:Nat,k<N/\m=N-k/\b=Y ((dS cZ Nn k).1 :Int)/\lf=Y ((dS cZ Nn k).2 :Int)/\v=Y (dW k:Int)/\J k wr/\Below n₀ w wr)
 case atStart=>exact⟨0,om,rfl,by rw[dS];rfl,by rw[dS],by unfold dW;rfl,h0,hW⟩
 case round=>
  obtain⟨k,hk,rfl,rfl,rfl,rfl,hJk,hB⟩:=hrel;have c2:aA wr B2 0 (.func (.func 251) #[] #[]):=(hB.cell (p:=⟨B2,0,none⟩) b2).trans h2;obtain⟨fn,tmps,assign,body,hy,hR⟩:=hY k wr hk hJk;obtain⟨s1,s2⟩:=aHo cZ Nn k hNn;have EN:dS cZ Nn (k+1)=if cZ (dS cZ Nn k).1 (dW k)<=(dS cZ Nn k).2 then((dS cZ Nn k).1 |||dW k,((dS cZ Nn k).2 -cZ (dS cZ Nn k).1 (dW k))*2%18446744073709551616)else((dS cZ Nn k).1,(dS cZ Nn k).2 *2%18446744073709551616):=by rw[dS]
  have hd:dD cZ Nn k=if cZ (dS cZ Nn k).1 (dW k)<=(dS cZ Nn k).2 then 1 else 0:=rfl
  have hr:dR cZ Nn k=if cZ (dS cZ Nn k).1 (dW k)<=(dS cZ Nn k).2 then(dS cZ Nn k).2 -cZ (dS cZ Nn k).1 (dW k)else(dS cZ Nn k).2 :=rfl
  have Pv:dW k<18446744073709551616:=by unfold dW;exact Nat.lt_of_le_of_lt (Nat.div_le_self _ _) de
  have jA:dW (k+1)=dW k/2:=by unfold dW;rw[Nat.pow_succ,Nat.div_div_eq_div_mul]
  obtain⟨S1,hS1⟩:=x_n (dS cZ Nn (k+1));obtain⟨V1,hV1⟩:=x_n (dW (k+1));rw[<-hS1]at EN;rw[<-hV1]at jA;have HN:Hid (S1=dS cZ Nn (k+1)/\V1=dW (k+1)):=⟨hS1,hV1⟩;have HV:Hid (V1=dW k/2):=jA;clear hS1 hV1 jA;generalize dS cZ Nn k=st at*
  obtain⟨b,L⟩:=st;dsimp only at*
  generalize dW k=v at*
  generalize dD cZ Nn k=dd at*
  generalize dR cZ Nn k=rr at*
  have HC:Hid (∀w,CT 251 #[Y (b:Int),Y (v:Int)] w λe w'=>e=Z (Y ((cZ b v:Nat):Int))/\w'=w):=λw=>aFz b v w;have hD:cZ b v<18446744073709551616:=by unfold cZ;exact Nat.mod_lt _ de
  generalize cZ b v=D at*
  by_cases rG:D<=L
  .rw[if_pos rG]at EN hd hr;subst hd;have aGK:(D:Int)<=(L:Int):=om;obtain⟨o1,o2⟩:=Si b v s1 Pv;generalize b|||v=bv at*
   rw[show((1:Nat):Int)=1 from rfl]at hy;have g1:(L:Int)-(D:Int)=(rr:Int):=om;have HR2:Hid (S1=(bv,rr*2%18446744073709551616)):=by show _=_;rw[EN,hr]
   have hrr:aG rr:=om;clear hr EN
   gi_wp2_with (refine⟨trivial,λh=>(by cases h),?_⟩;refine(callsIn_wide.2 (HC _)).mono ?_;rintro e wq ⟨rfl,hwq⟩;subst hwq)
   exact aAL
  .rw[if_neg rG]at EN hd hr;subst hd;have aGK:¬(D:Int)<=(L:Int):=om;rw[show((0:Nat):Int)=0 from rfl]at hy;subst hr;have HR2:Hid (S1=(b,rr*2%18446744073709551616)):=EN;clear EN
   gi_wp2_with (refine⟨trivial,λh=>(by cases h),?_⟩;refine(callsIn_wide.2 (HC _)).mono ?_;rintro e wq ⟨rfl,hwq⟩;subst hwq)
   exact aAL
def aKR{P:Prop}(h:P:=by
 go_wp2_with (at_builtin;go_loud (refine eY rfl _ _ rfl w.heap.size k M _ wr.heap.size rfl (Own.alloc HO.out _) rfl (by rw[<-BI.out];simp[go_sem]) om (by simp[go_sem];omega) ?_;intro v' w1 iM gU));go_roundw
 case rel=>exact⟨k+1,0,om,by go_num,by go_num,by show _=_;rw[HE2.out],iM,Gb.below (Gb.alloc HG.out _) gU (Nat.le_refl _)⟩
 case measure=>simp[intOf]<;>omega):P:=h
def aKS{P:Prop}(h:P:=by
 go_wp2_with (at_builtin;go_loud (refine eY rfl _ _ rfl w.heap.size k M _ wr.heap.size rfl (Own.alloc HO.out _) rfl (by rw[<-BI.out];simp[go_sem]) om (by simp[go_sem];omega) ?_;intro v' w1 iM gU));go_roundw
 case rel=>exact⟨k+1,1,om,by go_num,by go_num,by show _=_;rw[HE2.out],iM,Gb.below (Gb.alloc HG.out _) gU (Nat.le_refl _)⟩
 case measure=>simp[intOf]<;>omega):P:=h
def Qj(h:Raw w (aC b n cap) n N)(hn:n<=1000000000):
  CT 220 #[aC b n cap] w λe w'=>∃k,e=Z (aC b k cap)/\w=w'/\Big w (aC b k cap) k N/\k<=n:=by
 obtain⟨hN,b1,cap1,hv,kJ,Bd,aW⟩:=h;cases hv;have Ti:cap<=9223372036854775807:=Bd;have HC:Hid _:=aW;have HN:Hid _:=hN;have HM:Hid _:=Bd;clear aW hN Bd;go_enter func220,ntmps220;go_wp2;go_loop [3] (λi=>∃k:Nat,k<=n/\i=.int .i64 k/\Hid (N<4294967296^k)) (λi=>(intOf i).toNat)
 case atStart=>exact⟨n,Nat.le_refl _,rfl,HN.out⟩
 case round=>
  obtain⟨k,hk,rfl,HK⟩:=hrel;rcases Nat.eq_zero_or_pos k with rfl|jm
  .have HF:Hid (Big w (aC b 0 cap) 0 N):=⟨⟨HK.out,.inl rfl⟩,HK.out,b,cap,rfl,Nat.zero_le _,HM.out,λj hj=>om⟩;go_wp2;go_returns;exact⟨_,rfl,rfl,HF.out,om⟩
  .obtain⟨j,rfl⟩:∃j,k=j+1:=⟨k-1,om⟩;have hc:aA w b j (.int .u32 (dg N j:Int)):=HC j om;have hjj:((j+1:Nat):Int)-1=(j:Int):=om;by_cases hz:dg N j=0
   .have HL:Hid _:=Qd HK.out hz;have lu:((dg N j:Nat):Int)=0:=om;rw[lu]at hc;clear hz lu;go_wp2;go_round
    case rel=>exact⟨j,om,by go_num,HL.out⟩
    case measure=>exact uz
   .have lu:(((dg N j:Nat):Int)==0)=false:=jl;have HF:Hid (Big w (aC b (j+1) cap) (j+1) N):=⟨⟨HK.out,.inr (Xf hz)⟩,HK.out,b,cap,rfl,om,HM.out,λi hi=>HC i om⟩;clear hz;go_wp2;go_returns;exact⟨_,rfl,rfl,HF.out,om⟩
def aDi(hn:n<=1000000)(hN:N<4294967296^n)(C9:n'<=1000000)(zo:N'<4294967296^n')
  (aW:∀j,j<n->aA w b j (.int .u32 (dg N j:Int))) (kJ:n<=cap) (gK:∀j,j<n'->aA w b' j (.int .u32 (dg N' j:Int))) (pq:n'<=cap') (rG:N'<=N) (hM:M=N-N'):
  CT 155 #[aC b n cap,aC b' n' cap'] w λe w'=>∃g c k,e=Z (aC g k c)/\w.heap.size<=g/\Big w' (aC g k c) k M/\k<=n/\Gb w w':=by
 have HC:Hid _:=aW;have HN:Hid _:=hN;have Yb:Hid _:=gK;have HN':Hid _:=zo;have HM:Hid _:=hM;have HL:Hid _:=rG;clear aW hN hM gK zo rG;go_enter func155,ntmps155;go_wp2;go_loopw [5,6,7] (λv c i wr=>∃k c':Nat,k<=n/\i=.int .i64 k/\c=Y c'/\Hid (c'=Ya N N' k)/\Own wr w.heap.size v k M/\Gb w wr) (λ_ _ i _=>n-(intOf i).toNat)
 case atStart=>exact⟨0,0,Nat.zero_le _,rfl,rfl,by show _=_;rw[XD],qG w _,(Gb.refl w).alloc _⟩
 case round=>
  obtain⟨k,c,hk,rfl,rfl,HCy,gZ,dH⟩:=hrel;have uF:=dH.size;have HO:Hid _:=gZ;have HG:Hid _:=dH;clear gZ dH;by_cases hl:k<n
  .have hc:aA wr b k (.int .u32 (dg N k:Int)):=Gb.old HG.out (HC k hl);have o9:(k:Int)<(n:Int):=om;have e1:=aEV N N' k HL.out;have e2:=XE N N' k;have c1:=aAu N N' k;rw[<-HCy.out]at e1 e2 c1;rw[<-HM.out]at e1;have JJ:=kK N k;have rY:=kK N' k;have Bj:=kK M k;by_cases Tj:k<n'
   .have Df:aA wr b' k (.int .u32 (dg N' k:Int)):=Gb.old HG.out (Yb k Tj);have Nv:(k:Int)<(n':Int):=om;by_cases hb:dg N k<dg N' k+c
    .rw[if_pos hb]at e1 e2;have BI:Hid ((dg N k:Int)+4294967296-((c:Int)+(dg N' k:Int))=(dg M k:Int)):=by show _=_;omega
     have HE2:Hid _:=e2;have gU:(dg N k:Int)<(c:Int)+(dg N' k:Int):=om;have lC:(dg N k:Int)+4294967296-((c:Int)+(dg N' k:Int))<4294967296:=om;clear e1 e2 Bj;generalize dg N k=t at*
     generalize dg N' k=t' at*
     exact aKS
    .rw[if_neg hb]at e1 e2;have BI:Hid ((dg N k:Int)-((c:Int)+(dg N' k:Int))=(dg M k:Int)):=by show _=_;omega
     have HE2:Hid _:=e2;have gU:¬(dg N k:Int)<(c:Int)+(dg N' k:Int):=om;have lC:(dg N k:Int)-((c:Int)+(dg N' k:Int))<4294967296:=om;clear e1 e2 Bj;generalize dg N k=t at*
     generalize dg N' k=t' at*
     exact aKR
   .have Nv:¬(k:Int)<(n':Int):=om;have hz:dg N' k=0:=qK HN'.out om;rw[hz]at e1 e2;by_cases hb:dg N k<0+c
    .rw[if_pos hb]at e1 e2;have BI:Hid ((dg N k:Int)+4294967296-(c:Int)=(dg M k:Int)):=by show _=_;omega
     have HE2:Hid _:=e2;have gU:(dg N k:Int)<(c:Int):=om;have lC:(dg N k:Int)+4294967296-(c:Int)<4294967296:=om;clear e1 e2 Bj hz rY hb;generalize dg N k=t at*
     exact aKS
    .rw[if_neg hb]at e1 e2;have BI:Hid ((dg N k:Int)-(c:Int)=(dg M k:Int)):=by show _=_;omega
     have HE2:Hid _:=e2;have gU:¬(dg N k:Int)<(c:Int):=om;have lC:(dg N k:Int)-(c:Int)<4294967296:=om;clear e1 e2 Bj hz rY hb;generalize dg N k=t at*
     exact aKR
  .have o9:¬(k:Int)<(n:Int):=om;have HF:Hid (M<4294967296^k):=by
    have h1:=HN.out;show _<_;rw[HM.out,(om:k=n)];omega
   obtain⟨g,c0,rfl,hbg,hcg⟩:=Own.where HO.out;go_wp2_with (go_at_call 220;refine(Qj (Own.raw HO.out HF.out) om).mono ?_;rintro e w' ⟨k',rfl,hw,mF,C_⟩;subst hw);go_returns;exact⟨_,_,_,rfl,hbg,mF,om,HG.out⟩
def aDp(hn:n<=1000000)(hN:N<4294967296^n)(C9:n'<=1000000)(zo:N'<4294967296^n')
  (aW:∀j,j<n->aA w b j (.int .u32 (dg N j:Int))) (kJ:n<=cap) (gK:∀j,j<n'->aA w b' j (.int .u32 (dg N' j:Int))) (pq:n'<=cap') (hM:M=N+N'):
  CT 227 #[aC b n cap,aC b' n' cap'] w λe w'=>∃g c k,e=Z (aC g k c)/\w.heap.size<=g/\Big w' (aC g k c) k M/\k<=n+n'+1/\Gb w w':=by
 have HC:Hid _:=aW;have HN:Hid _:=hN;have Yb:Hid _:=gK;have HN':Hid _:=zo;have HM:Hid _:=hM;clear aW hN hM gK zo;go_enter func227,ntmps227;go_wp2;go_loopw [5,6,7] (λv c i wr=>∃k c':Nat,(k<=n\/k<=n')/\i=.int .i64 k/\c=Y c'/\Hid (c'=(N%4294967296^k+N'%4294967296^k)/4294967296^k)/\Own wr w.heap.size v k M/\Gb w wr) (λ_ _ i _=>n+n'-(intOf i).toNat)
 case atStart=>exact⟨0,0,.inl (Nat.zero_le _),rfl,rfl,by show _=_;simp[Nat.mod_one],qG w _,(Gb.refl w).alloc _⟩
 case round=>
  obtain⟨k,c,hk,rfl,rfl,HCy,gZ,dH⟩:=hrel;have uF:=dH.size;have HO:Hid _:=gZ;have HG:Hid _:=dH;clear gZ dH;obtain⟨e1,e2,c1⟩:=QG N N' k c HCy.out;have JJ:=kK N k;have rY:=kK N' k;have BI:Hid (((c:Int)+(dg N k:Int)+(dg N' k:Int))%4294967296=(dg M k:Int)):=by show _=_;rw[HM.out,e1];omega
  have HE2:Hid _:=e2;clear e1 e2;by_cases hl:k<n
  .have hc:aA wr b k (.int .u32 (dg N k:Int)):=Gb.old HG.out (HC k hl);have o9:(k:Int)<(n:Int):=om;by_cases Tj:k<n'
   .have Df:aA wr b' k (.int .u32 (dg N' k:Int)):=Gb.old HG.out (Yb k Tj);have Nv:(k:Int)<(n':Int):=om;generalize dg N k=t at*
    generalize dg N' k=t' at*
    go_wp2_with (at_builtin;go_loud (refine eY rfl _ _ rfl w.heap.size k M _ wr.heap.size rfl (Own.alloc HO.out _) rfl (by rw[<-BI.out];simp[go_sem]) om (by simp[go_sem];omega) ?_;intro v' w1 iM gU));go_roundw
    case rel=>exact⟨k+1,(c+t+t')/4294967296,.inl om,by go_num,by go_num,by show _=_;rw[HE2.out],iM,Gb.below (Gb.alloc HG.out _) gU (Nat.le_refl _)⟩
    case measure=>exact uz
   .have Nv:¬(k:Int)<(n':Int):=om;have hz:dg N' k=0:=qK HN'.out om;rw[hz]at HE2;have Ot:Hid (((c:Int)+(dg N k:Int))%4294967296=(dg M k:Int)):=by show _=_;rw[<-BI.out,hz];simp
    clear hz BI rY;generalize dg N k=t at*
    go_wp2_with (at_builtin;go_loud (refine eY rfl _ _ rfl w.heap.size k M _ wr.heap.size rfl (Own.alloc HO.out _) rfl (by rw[<-Ot.out];simp[go_sem]) om (by simp[go_sem];omega) ?_;intro v' w1 iM gU));go_roundw
    case rel=>exact⟨k+1,(c+t)/4294967296,.inl om,by go_num,by go_num,by show _=_;rw[HE2.out];rfl,iM,Gb.below (Gb.alloc HG.out _) gU (Nat.le_refl _)⟩
    case measure=>exact uz
  .have o9:¬(k:Int)<(n:Int):=om;have hz:dg N k=0:=qK HN.out om;by_cases Tj:k<n'
   .have Df:aA wr b' k (.int .u32 (dg N' k:Int)):=Gb.old HG.out (Yb k Tj);have Nv:(k:Int)<(n':Int):=om;rw[hz]at HE2;have Ot:Hid (((c:Int)+(dg N' k:Int))%4294967296=(dg M k:Int)):=by show _=_;rw[<-BI.out,hz];simp
    clear hz BI JJ;generalize dg N' k=t at*
    go_wp2_with (at_builtin;go_loud (refine eY rfl _ _ rfl w.heap.size k M _ wr.heap.size rfl (Own.alloc HO.out _) rfl (by rw[<-Ot.out];simp[go_sem]) om (by simp[go_sem];omega) ?_;intro v' w1 iM gU));go_roundw
    case rel=>exact⟨k+1,(c+t)/4294967296,.inr om,by go_num,by go_num,by show _=_;rw[HE2.out];rfl,iM,Gb.below (Gb.alloc HG.out _) gU (Nat.le_refl _)⟩
    case measure=>exact uz
   .have Nv:¬(k:Int)<(n':Int):=om;have Ot:Hid ((c:Int)=(dg M k:Int)):=by
     have:=aBG HN.out HN'.out (om:n<=k) (om:n'<=k);show _=_;rw[HM.out,this,<-HCy.out]
    have HF:Hid (M<4294967296^(k+1)):=by
     have:=FZ HN.out HN'.out (om:n<=k) (om:n'<=k);show _<_;rw[HM.out];exact this
    clear hz BI JJ rY HE2;have hkb:k<=n+n':=om;go_wp2_with (first|(at_builtin;go_loud (refine eY rfl _ _ rfl w.heap.size k M _ wr.heap.size rfl (Own.alloc HO.out _) rfl (by rw[<-Ot.out];simp[go_sem]) om (by simp[go_sem];omega) ?_;intro v' w1 iM gU;obtain⟨g,c0,rfl,hbg,hcg⟩:=Own.where iM))|(go_at_call 220;refine(Qj (Own.raw iM HF.out) om).mono ?_;rintro e w' ⟨k',rfl,hw,mF,C_⟩;subst hw))
    go_returns;exact⟨_,_,_,rfl,hbg,mF,om,Gb.below (Gb.alloc HG.out _) gU (Nat.le_refl _)⟩
