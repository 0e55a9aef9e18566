import Derived.Test.YthoelefkjpjhfaaGreatDoorG0
import Derived.Test.YthoelefkjpjhfaaGreatDoorG4
import Derived.Sort.LoopGhostIn
set_option linter.all false
open Go.Proofs.YthoelefkjpjhfaaGreatDoor renaming vU → Y
open Go.Ending renaming returned → Z
open Go.Proofs.Tryz
namespace Go.Proofs.YthoelefkjpjhfaaGreatDoor
open Go.RowKit
attribute [local go_sem] aB
variable {w:ak}{n cap N b m base b' cap' M n' N' g V r A Bv a s C:Nat}{v v2:Value}{p mn mx aN aj aP e z fl:Int}
def Own.store(h:Own w base (aF g n cap) n V)(k d:Nat)(hk:k<n)(hd:d<4294967296):
  Own (w.setCell ⟨g,k,none⟩ (.int .u32 (d:Int))) base (aF g n cap) n (put V k d):=by
 refine⟨?_,h.2⟩;rw[<-aJt n V k d hk hd];exact(h.1.stored k _).1
def Own.at(h:Own w base (aF g n cap) n V)(k:Nat)(hk:k<n):
  w.cell? ⟨g,k,none⟩=some (.int .u32 (dg V k:Int))/\w.frozen? ⟨g,k,none⟩=false:=by
 refine⟨?_,h.1.frozenAt k⟩;rw[h.1.cellAt k om,EP n V k hk]
def Own.where(h:Own w base v n N):∃g cap,v=aF g n cap/\base<=g/\n<=cap:=by
 obtain⟨⟨h1,h2⟩,h3⟩:=h;rcases h2 with⟨rfl,_⟩|⟨g,cap,cur,rfl,hb,hh,hc,hm,hs,ht⟩
 .exact bG rfl h3
 .exact⟨g,cap,rfl,hb,hc⟩
set_option maxRecDepth 1000000
set_option maxHeartbeats 40000000
def aBl(hn:n<=1000000)(hA:A<4294967296^n)(hm:m<=1000000)(hB:Bv<4294967296^m)
  (aW:∀j,j<n->aB w b j (.int .u32 (dg A j:Int))) (l7:n<=cap) (iD:∀j,j<m->aB w b' j (.int .u32 (dg Bv j:Int))) (rD:m<=cap') (hM:M=A*Bv):
  CT 152 #[aF b n cap,aF b' m cap'] w λe w'=>∃v' k,e=Z v'/\Big w' v' k M/\k<=n+m/\Gb w w':=by
 have HC:Hid _:=aW;have HA:Hid _:=hA;have ZP:Hid _:=iD;have HB:Hid _:=hB;have HM:Hid _:=hM;clear aW hA hM iD hB;go_enter func152,ntmps152;go_wp2;go_loopw [5,6] (λv i wr=>∃k:Nat,k<=n+m/\i=.int .i64 k/\Own wr w.heap.size v k 0/\Gb w wr) (λ_ i _=>n+m-(intOf i).toNat)
 case atStart=>exact⟨0,fV _,rfl,sQ w _,(Gb.refl w).alloc _⟩
 case round=>
  obtain⟨k,hk,rfl,iG,dQ⟩:=hrel;have qY:=dQ.size;have HO:Hid _:=iG;have HG:Hid _:=dQ;clear iG dQ;by_cases hl:k<n+m
  .have S_:(k:Int)<(n:Int)+(m:Int):=om;have HD:Hid (((dg 0 k:Nat):Int)=0):=by show _=_;unfold dg;simp
   go_wp2_with (at_builtin;refine fU rfl _ _ rfl w.heap.size k 0 _ wr.heap.size rfl (Own.alloc HO.out _) rfl (by rw[HD.out];simp[go_sem]) om (by simp[go_sem];omega) ?_;intro v' w1 jm iF);go_roundw
   case rel=>exact⟨k+1,om,jS,jm,Gb.below (Gb.alloc HG.out _) iF (dJ _)⟩
   case measure=>exact qL
  .have HSM:Hid (k=n+m):=by show _=_;omega
   have m_:k<=2000000:=om;have S_:¬(k:Int)<(n:Int)+(m:Int):=om;obtain⟨g,c0,rfl,hg,hcg⟩:=Own.where HO.out;have HL:Hid _:=hl;clear hl;go_wp2;clear hk S_;go_loopw [7] (λi wr'=>∃i':Nat,i'<=n/\i=.int .i64 i'/\Own wr' w.heap.size (aF g k c0) k (A%4294967296^i'*Bv)/\Gb w wr') (λi _=>n-(intOf i).toNat)
   case atStart=>exact⟨0,fV _,rfl,by rw[wP,Nat.mod_one,Nat.zero_mul];exact HO.out,HG.out⟩
   case round=>
    clear HO HG qY;obtain⟨i,hi,rfl,iG,dQ⟩:=hrel;have HO:Hid _:=iG;have HG:Hid _:=dQ;clear iG dQ;by_cases hin:i<n
    .have aRp:(i:Int)<(n:Int):=om;go_wp2;go_loopw [8,9] (λc j wr'=>∃(j' c' V:Nat),j'<=m/\j=.int .i64 j'/\c=Y c'/\Hid (TL A Bv m i j' V c')/\Own wr' w.heap.size (aF g k c0) k V/\Gb w wr') (λ_ j _=>m-(intOf j).toNat)
     case atStart=>exact⟨0,0,_,fV _,rfl,rfl,aA5 A Bv m i HB.out,HO.out,HG.out⟩
     case round=>
      clear HO HG;obtain⟨j,c,V,hj,rfl,rfl,HI,iG,dQ⟩:=hrel;have HO:Hid _:=iG;have HG:Hid _:=dQ;clear iG dQ;have YI:c<4294967296:=HI.out.2.2;by_cases hjm:j<m
      .have FN:(j:Int)<(m:Int):=om;obtain⟨K,hK⟩:=x_n (i+j);have hKs:K<k:=by have:=HSM.out;omega
       have hKI:IntKind.i64.wrap ((i:Int)+(j:Int))=(K:Int):=by rw[dI]<;>omega
       obtain⟨hcv,hzv⟩:=Own.at HO.out K hKs;have hca:aB wr b i (.int .u32 (dg A i:Int)):=Gb.old HG.out (HC i hin);have Ci:aB wr b' j (.int .u32 (dg Bv j:Int)):=Gb.old HG.out (ZP j hjm);have ha:=l9 A i;have hb:=l9 Bv j;have hv:=l9 V K;have hx:=SC _ _ _ _ ha hb hv YI;obtain⟨y,hy⟩:=x_n (dg A i*dg Bv j);rw[<-hy]at hx;obtain⟨z,hz⟩:=x_n (y+dg V K);obtain⟨x,MN⟩:=x_n (z+c);have Qu:IntKind.u64.wrap ((dg A i:Int)*(dg Bv j:Int))=(y:Int):=by
        have e:(dg A i:Int)*(dg Bv j:Int)=(y:Int):=by rw[hy];push_cast;rfl
        rw[e,iT];omega
       have kK:IntKind.u64.wrap ((y:Int)+(dg V K:Int))=(z:Int):=by rw[iT];omega
       have hw3:IntKind.u64.wrap ((z:Int)+(c:Int))=(x:Int):=by rw[iT];omega
       rw[<-hz,<-MN]at hx;have HS:Hid (TL A Bv m i (j+1) (put V K (x%4294967296)) (x/4294967296)):=by
        have h:=aA6 HI.out hjm;rw[<-hK,<-hy,<-hz,<-MN]at h;exact h
       have aBy:=Own.store HO.out K (x%4294967296) hKs om;have V3:((x%4294967296:Nat):Int)=(x:Int)%4294967296:=om;rw[V3]at aBy;have HP:Hid _:=aBy;have HK:Hid _:=hK;clear aBy hy hz MN hK V3;generalize dg A i=ta at*
       generalize dg Bv j=tb at*
       generalize dg V K=tv at*
       go_wp2;go_region;all_goals (try go_wp2)<;>go_roundw
       all_goals first|exact⟨j+1,x/4294967296,_,om,jS,jS,HS.out,Own.drew HP.out,Gb.drew (Gb.setCell HG.out hg _)⟩|exact⟨j+1,x/4294967296,_,om,jS,jS,HS.out,HP.out,Gb.setCell HG.out hg _⟩|(simp[intOf]<;>omega)
      .have FN:¬(j:Int)<(m:Int):=om;obtain rfl:j=m:=om;have HE:Hid _:=aEp HI.out HB.out;obtain⟨K,hK⟩:=x_n (i+j);rw[<-hK]at HE;have hKs:K<k:=by have:=HSM.out;omega
       have hKI:IntKind.i64.wrap ((i:Int)+(j:Int))=(K:Int):=by rw[dI]<;>omega
       have hKJ:(i:Int)+(j:Int)=(K:Int):=om;obtain⟨hcv,hzv⟩:=Own.at HO.out K hKs;have aBy:=Own.store HO.out K c hKs YI;rw[HE.out]at aBy;have HP:Hid _:=aBy;have HK:Hid _:=hK;clear aBy hK HE;generalize dg V K=tv at*
       go_wp2;go_roundw
       case rel=>exact⟨i+1,om,jS,HP.out,Gb.setCell HG.out hg _⟩
       case measure=>exact qL
    .have aRp:¬(i:Int)<(n:Int):=om;obtain rfl:i=n:=om;have HF:Hid (Raw wr (aF g k c0) k M):=by
      have h1:=HO.out;rw[lQ HA.out,<-HM.out]at h1;refine Own.raw h1 ?_;rw[HM.out,HSM.out,jY];rcases jL Bv with e|e
      .rw[e,Nat.mul_zero];exact Nat.mul_pos (jK _) (jK _)
      .exact Nat.mul_lt_mul_of_lt_of_le HA.out (Nat.le_of_lt HB.out) (jK _)
     go_wp2_with (go_at_call 220;refine(o9 HF.out om).mono ?_;rintro e w' ⟨v'',k',rfl,hw,oz,EI⟩;subst hw);go_returns;exact⟨_,_,rfl,oz,by have:=HSM.out;omega,HG.out⟩
def BX(h:Big w v n N)(hn:n<=1000000)(h':Big w v2 n' N')(EH:n'<=1000000):
  CT 152 #[v,v2] w λe w'=>∃v' k,e=Z v'/\Big w' v' k (N*N')/\k<=n+n'/\Gb w w':=by
 obtain⟨xk,hN,b,cap,rfl,l7,Dz,aW⟩:=h;obtain⟨YC,BD,b',cap',rfl,rD,Vp,iD⟩:=h';exact aBl hn hN EH BD aW l7 iD rD rfl
def w_(t:Bool):Nat:=if t then 1 else 0
def aHp(t:Bool):w_ t<=1:=by cases t<;>decide
def bM.cut{one:Int}(k:Nat)(t:Bool)(hX:0<m/2^k)(hp:0<=p)(hn:p+2<=(nb (m/2^k):Int))(st:Bool)(hst:st=(decide (m%2^k≠0)||t)):
  bM p mn mx one aN aj aP (m/2^k) (e+k) st z fl↔bM p mn mx one aN aj aP (2*m+w_ t) (e-1) false z fl:=by
 have hb:=aHp t;have Rk:0<2^k:=iQ de;have e1:(2*m+w_ t)/2^(k+1)=m/2^k:=by
  rw[jE,dM (2^k) 2,<-LK];rw[(om:(2*m+w_ t)/2=m)]
 have e2:(2*m+w_ t)%2^(k+1)=2*(m%2^k)+w_ t:=by
  have h1:=Aj (2*m+w_ t) (2^(k+1));rw[e1]at h1;have h2:=Aj m (2^k);have h3:2^(k+1)*(m/2^k)=2*(2^k*(m/2^k)):=by rw[jE,dM (2^k) 2,kX]
  omega
 have h:=bM.trunc (p:=p) (mn:=mn) (mx:=mx) (one:=one) (aN:=aN) (aj:=aj) (aP:=aP) (X:=2*m+w_ t) (e:=e-1) (z:=z) (fl:=fl) (k+1) (by rw[e1];exact hX) hp (λ_=>by rw[e1];exact hn);rw[e1,e2,(om:e-1+((k+1:Nat):Int)=e+k)]at h;have e3:decide (2*(m%2^k)+w_ t≠0)=st:=by
  rw[hst];cases t
  .simp[w_];omega
  .simp[w_]
 rw[e3]at h;exact h
def bM.rest{one:Int}(t:Bool)(hX:0<m)(hp:0<=p)(hn:p+2<=(nb m:Int)):
  bM p mn mx one aN aj aP m e t z fl↔bM p mn mx one aN aj aP (2*m+w_ t) (e-1) false z fl:=by
 have h:=bM.cut (p:=p) (mn:=mn) (mx:=mx) (one:=one) (aN:=aN) (aj:=aj) (aP:=aP) (m:=m) (e:=e) (z:=z) (fl:=fl) 0 t (by rw[wP,Nat.div_one];exact hX) hp (by rw[wP,Nat.div_one];exact hn) t (by rw[wP,Nat.mod_one];simp);rw[wP,Nat.div_one,(om:e+((0:Nat):Int)=e)]at h;exact h
def aJ9(A B s k:Nat)(hB:0<B):A*2^(s+k)/B/2^k=A*2^s/B/\(decide (A*2^(s+k)/B%2^k≠0)||decide (A*2^(s+k)%B≠0))=decide (A*2^s%B≠0):=by
 have Rk:0<2^k:=iQ de;have e0:A*2^(s+k)=A*2^s*2^k:=by rw[jY,kX]
 rw[e0];obtain⟨X,hX⟩:=x_n (A*2^s);rw[<-hX];have e1:X*2^k/B/2^k=X/B:=by rw[LK,Nat.mul_div_mul_right _ _ Rk]
 refine⟨e1,?_⟩;have h1:=Aj (X*2^k) B;have h2:=Aj (X*2^k/B) (2^k);have h3:=Aj X B;rw[e1]at h2;by_cases c:X%B=0
 .rw[c,Nat.add_zero]at h3;have h4:X*2^k=B*(X/B*2^k):=by rw[<-kX,h3]
  have h5:X*2^k/B=X/B*2^k:=by rw[h4,Nat.mul_div_cancel_left _ hB]
  have h6:X*2^k%B=0:=by rw[h4];exact Nat.mul_mod_right _ _
  rw[h5,Nat.mul_mod_left,h6,c];rfl
 .rw[h_ (p:=X%B≠0) c];by_cases c1:X*2^k%B=0
  .by_cases c2:X*2^k/B%2^k=0
   .exfalso;rw[c1,Nat.add_zero]at h1;rw[c2,Nat.add_zero]at h2;rw[<-h2,dM (2^k),<-kX]at h1;have h7:B*(X/B)=X:=Nat.eq_of_mul_eq_mul_right Rk h1;omega
   .simp[c2]
  .simp[c1]
def aCq(A B s q:Nat)(hB:0<B)(hA:2^q*B<=A*2^s):q+1<=nb (A*2^s/B):=by
 have:2^q<=A*2^s/B:=by rw[Nat.le_div_iff_mul_le hB];exact hA
 exact zY this
def sK(m r:Nat):Prop:=r*r<=m/\m<(r+1)*(r+1)
def tK(h:a*a<b*b):a<b:=by
 rcases uq a b with c|c
 .exact c
 .have:=Nat.mul_le_mul c c;omega
def sK.one(h:sK m r)(k:sK m s):r=s:=by
 have h1:r<s+1:=tK (LJ h.1 k.2);have h2:s<r+1:=tK (LJ k.1 h.2);omega
def sK.scale(t:Nat)(h:sK m C)(k:sK (m*2^(2*t)) r):r/2^t=C/\(decide (r%2^t≠0)||decide (r*r≠m*2^(2*t)))=decide (C*C≠m):=by
 have Rk:0<2^t:=iQ de;have e0:2^(2*t)=2^t*2^t:=by rw[<-jY];congr 1;omega
 rw[e0]at k⊢
 obtain⟨P,hP⟩:=x_n (2^t);rw[<-hP]at k Rk⊢
 have sq:∀a:Nat,a*P*(a*P)=a*a*(P*P):=λa=>by simp only[dM,Oy,kX]
 have e1:C*P<=r:=by
  have:C*P*(C*P)<(r+1)*(r+1):=by
   rw[sq];exact LJ (Nat.mul_le_mul_right _ h.1) k.2
  have:=tK this;omega
 have e2:r<(C+1)*P:=by
  refine tK (LJ k.1 ?_);rw[sq];exact Nat.mul_lt_mul_of_pos_right h.2 (Nat.mul_pos Rk Rk)
 have e3:r/P=C:=by
  rw[Nat.div_eq_iff Rk];rw[Ak]at e2;omega
 refine⟨e3,?_⟩;have h2:=Aj r P;rw[e3]at h2;by_cases c:C*C=m
 .have:sK (m*(P*P)) (C*P):=by
   refine⟨?_,?_⟩
   .rw[sq,c];exact dJ _
   .rw[<-c,<-sq];exact Nat.mul_lt_mul'' (Nat.lt_succ_self _) (Nat.lt_succ_self _)
  have hr:=k.one this;have h4:r%P=0:=by rw[hr];exact Nat.mul_mod_left _ _
  have h5:r*r=m*(P*P):=by rw[hr,sq,c]
  rw[h4,h5,c];simp
 .rw[h_ (p:=C*C≠m) c];by_cases c1:r%P=0
  .by_cases c2:r*r=m*(P*P)
   .exfalso;rw[c1,Nat.add_zero,dM]at h2;rw[<-h2,sq]at c2;exact c (Nat.eq_of_mul_eq_mul_right (Nat.mul_pos Rk Rk) c2)
   .simp[c2]
  .simp[c1]
def N_(A p od:Nat)(hp1:1<=p)(hp:p<=53)(hod:od<=1)(hA:A<2^p):
  sK (A*2^(p+5+od)) (dC dB (A*2^(61-p+od)) (p+3))/\(dR dB (A*2^(61-p+od)) (p+2)≠0↔dC dB (A*2^(61-p+od)) (p+3)*dC dB (A*2^(61-p+od)) (p+3)≠A*2^(p+5+od))/\dC dB (A*2^(61-p+od)) (p+3)<18446744073709551616:=by
 have hN:A*2^(61-p+od)<4611686018427387904:=by
  have h1:A*2^(61-p+od)<2^p*2^(61-p+od):=Nat.mul_lt_mul_of_pos_right hA (iQ de);rw[<-jY]at h1;have h2:2^(p+(61-p+od))<=2^62:=pU de om;have h3:2^62=4611686018427387904:=de;omega
 obtain⟨d1,d2,d3⟩:=Xt (A*2^(61-p+od)) (p+2) hN om;have hw:dW (p+2)=2^(58-p):=by rw[BG _ (by omega)];congr 1;omega
 obtain⟨W,hW⟩:=x_n (2^(58-p));rw[hw,<-hW]at d1 d2;have hW0:0<W:=by rw[hW];exact iQ de
 have hL:A*2^(61-p+od)*1152921504606846976=A*2^(p+5+od)*(W*W):=by
  rw[hW,<-jY,kX,kX,show 1152921504606846976=2^60 by decide,<-jY,<-jY]
  congr 2
  omega
 rw[hL]at d1;obtain⟨C,hC⟩:=x_n (dC dB (A*2^(61-p+od)) (p+3));obtain⟨R,hR⟩:=x_n (dR dB (A*2^(61-p+od)) (p+2));obtain⟨m,hm⟩:=x_n (A*2^(p+5+od));rw[show p+2+1=p+3 from rfl]at d1 d2 d3;rw[<-hC,<-hR,<-hm]at d1;rw[<-hC,<-hR]at d2;rw[<-hC]at d3;rw[<-hC,<-hR,<-hm];have sq:C*W*(C*W)=C*C*(W*W):=by simp only[dM,Oy,kX]
 rw[sq]at d1;have hWW:0<W*W:=Nat.mul_pos hW0 hW0;refine⟨⟨?_,?_⟩,?_,d3⟩
 .refine Nat.le_of_mul_le_mul_right ?_ hWW;rw[d1];omega
 .refine Nat.lt_of_mul_lt_mul_right (a:=W*W) ?_;rw[d1];have h1:(C+1)*(C+1)*(W*W)=C*C*(W*W)+(2*(C*W)+W)*W:=by
   simp only[Ak,Fj,Nat.one_mul,kW];have:2*(C*W)*W=C*(W*W)+C*(W*W):=by rw[kX,kX,Nat.two_mul]
   omega
  rw[h1];have:=Nat.mul_lt_mul_of_pos_right d2 hW0;omega
 .constructor
  .intro h c;rw[<-c]at d1;have:0<R*W:=Nat.mul_pos om hW0;omega
  .intro h c;rw[c,Nat.zero_mul,Nat.add_zero]at d1;exact h (Nat.eq_of_mul_eq_mul_right hWW d1).symm
def qW(X d:Nat):Bool:=decide (d<2*(X%d)\/d=2*(X%d)/\X/d%2=1)
def rV(X d:Nat):Nat:=if qW X d then d-X%d else X%d
def DK(C L:Nat):Bool:=decide (C%2=1/\(C/2%2=1\/L≠0))
def FY(C L B:Nat):Nat:=if DK C L then B-L else if C%2=1 then B else L
def aN9(X B:Nat)(hB:0<B):DK (2*X/B) (2*X%B)=qW X B/\FY (2*X/B) (2*X%B) B=2*rV X B:=by
 obtain⟨q,hq⟩:=x_n (X/B);obtain⟨r,hr⟩:=x_n (X%B);have h1:=Aj X B;have h2:=oN X hB;rw[<-hq,<-hr]at h1;rw[<-hr]at h2;unfold FY rV DK qW;rw[<-hq,<-hr];have e0:2*X=B*(2*q)+2*r:=by rw[<-h1,Fj,<-kX,<-kX,dM 2 B]
 by_cases c:B<=2*r
 .have e1:2*X=B*(2*q+1)+(2*r-B):=by rw[e0,Fj,kW];omega
  have e2:2*X/B=2*q+1:=by rw[e1,Nat.mul_add_div hB,xU (by omega)]
  have e3:2*X%B=2*r-B:=by rw[e1,Nat.mul_add_mod,lQ (by omega)]
  rw[e2,e3];have e4:decide ((2*q+1)%2=1/\((2*q+1)/2%2=1\/2*r-B≠0))=decide (B<2*r\/B=2*r/\q%2=1):=by
   rw[decide_eq_decide];omega
  rw[e4];refine⟨rfl,?_⟩;rw[aQ (om:(2*q+1)%2=1)];by_cases c1:B<2*r\/B=2*r/\q%2=1
  .rw[h_ c1,aQ rfl,aQ rfl];omega
  .rw[gV c1,aH de,aH (by decide)];omega
 .have e2:2*X/B=2*q:=by rw[e0,Nat.mul_add_div hB,xU om,Nat.add_zero]
  have e3:2*X%B=2*r:=by rw[e0,Nat.mul_add_mod,lQ (by omega)]
  rw[e2,e3];have e4:decide (2*q%2=1/\(2*q/2%2=1\/2*r≠0))=decide (B<2*r\/B=2*r/\q%2=1):=by
   rw[decide_eq_decide];omega
  rw[e4];refine⟨rfl,?_⟩;rw[aH (om:¬2*q%2=1),gV (om:¬(B<2*r\/B=2*r/\q%2=1)),aH de,aH (by decide)]
def aN8(A B:Nat)(hB:0<B)(hA:A<2*B):DK (A/B) (A%B)=qW A (2*B)/\FY (A/B) (A%B) B=rV A (2*B):=by
 unfold FY rV DK qW;rw[lQ hA,xU hA];by_cases c:B<=A
 .have e2:A/B=1:=by rw[Nat.div_eq_iff hB];omega
  have e3:A%B=A-B:=by have:=Aj A B;rw[e2,kW]at this;omega
  rw[e2,e3];have e4:decide (1%2=1/\(1/2%2=1\/A-B≠0))=decide (2*B<2*A\/2*B=2*A/\0%2=1):=by
   rw[decide_eq_decide];omega
  rw[e4];refine⟨rfl,?_⟩;by_cases c1:2*B<2*A\/2*B=2*A/\0%2=1
  .rw[h_ c1,aQ rfl,aQ rfl];omega
  .rw[gV c1,aH de,aQ de,aH (by decide)];omega
 .have e2:A/B=0:=xU om;have e3:A%B=A:=lQ om;rw[e2,e3];rw[gV (om:¬(2*B<2*A\/2*B=2*A/\0%2=1)),gV (om:¬(0%2=1/\(0/2%2=1\/A≠0)))];exact⟨rfl,by simp⟩
def aG6(A d:Nat)(h:2*A<d):qW A d=false/\rV A d=A:=by
 have:qW A d=false:=by unfold qW;rw[lQ (by omega)];exact gV om
 exact⟨this,by unfold rV;rw[this,lQ (by omega)];rfl⟩
open Go.RowKit Go.Shelf
def aB8{P:Prop}(h:P:=by
 refine⟨λh=>(by cases h),?_⟩;refine hR.mono ?_;rintro e W3 (⟨fJ,rfl,hJ3,zu⟩|⟨heq,rfl,aUk⟩)
 .gi_wp2
  gi_roundg (N-(k+1))
  case rel=>
   obtain⟨n1,n2⟩:=HN.out;have GL:=HR2.out;have hv1:=HV.out;refine⟨k+1,fJ,rfl,?_,?_,?_,hJ3,hB.trans zu⟩
   .rw[<-n1,GL]
   .rw[<-n1,GL];dsimp only;go_num
   .rw[<-n2,hv1];go_num
  case measure=>omega
 .gi_wp2
  refine gY (results_none rfl _ _ _) rfl ?_;exact⟨⟨_,rfl⟩,aUk⟩):P:=h
attribute [local go_sem] Oper.semAt_some
def UN(a b:Nat)(ha:aI a)(hb:aI b):bits .or .u64 (a:Int) (b:Int)=((a|||b:Nat):Int)/\a|||b<18446744073709551616:=by
 have h:a|||b<2^64:=Nat.or_lt_two_pow (by simpa using ha) (by simpa using hb);exact⟨u64_or_nat a b ha hb,by simpa using h⟩
def aIM(c:Nat->Nat->Nat)(N k:Nat)(hN:aI N):(dS c N k).1 <18446744073709551616/\(dS c N k).2 <18446744073709551616:=by
 induction k with
 |zero=>rw[dS];exact⟨by dsimp only;omega,hN⟩
 |succ k ih=>
  have hw:dW k<18446744073709551616:=by unfold dW;exact LJ (Nat.div_le_self _ _) de
  rw[dS];split
  .exact⟨(UN _ _ ih.1 hw).2,oN _ de⟩
  .exact⟨ih.1,oN _ de⟩
def aKa(B D:Nat)(b v:Int)(h:aB w B 0 (Y (D:Int))):
  CT 250 #[Y b,Y v,.pointer (some ⟨B,0,none⟩)] w λe w'=>e=Z (Y (D:Int))/\w'=w:=by
 go_enter func250,ntmps250;go_wp2;go_returns;exact⟨rfl,rfl⟩
def aGZ(b v:Nat)(w:ak):
  CT 251 #[Y (b:Int),Y (v:Int)] w λe w'=>e=Z (Y ((dB b v:Nat):Int))/\w'=w:=by
 have e1:((dB b v:Nat):Int)=IntKind.u64.wrap (IntKind.u64.wrap (2*(b:Int))+(v:Int)):=by rw[iT,iT];unfold dB;omega
 go_enter func251,ntmps251;go_wp2;go_returns;exact⟨by rw[e1];rfl,rfl⟩
def aEh(n N Nn D n₀ B1 B2 B3:Nat)(hNn:aI Nn)(hD:aI D)(hN:1<=N)(b1:B1<n₀)(b2:B2<n₀)(b3:B3<n₀)(h1:aB w B1 0 (Y (Nn:Int)))
  (h2:aB w B2 0 (.func (.func 250) #[] #[.pointer (some ⟨B3,0,none⟩)])) (h3:aB w B3 0 (Y (D:Int))):
  Hands Fence.wide n prog 306 #[.pointer (some ⟨B1,0,none⟩),.pointer (some ⟨B2,0,none⟩)] n₀ N (λi=>#[Y ((dD (λ_ _=>D) Nn i:Nat):Int),Y ((dR (λ_ _=>D) Nn i:Nat):Int)]) w:=by
 intro l J Jx W hW hJ hY h0;have c1:aB W B1 0 (Y (Nn:Int)):=(hW.cell (p:=⟨B1,0,none⟩) b1).trans h1;refine callsIn_of_wp func306 rfl trivial ?_ rfl;simp only[ntmps306,List.size_toArray,List.length_cons,List.length_nil,Nat.reduceAdd,Nat.reduceSub,Array.replicate_succ,Array.replicate_zero,List.push_toArray,List.append_toArray,List.nil_append,List.cons_append]
 gi_wp2
 gi_loopg [4,5,6] N (λm b lf v wr=>∃k:Nat,k<N/\m=N-k/\b=Y ((dS (λ_ _=>D) Nn k).1 :Int)/\lf=Y ((dS (λ_ _=>D) Nn k).2 :Int)/\v=Y (dW k:Int)/\J k wr/\Below n₀ w wr)
 case atStart=>exact⟨0,om,rfl,by rw[dS];rfl,by rw[dS],by unfold dW;rfl,h0,hW⟩
 case round=>
  obtain⟨k,hk,rfl,rfl,rfl,rfl,hJk,hB⟩:=hrel;have c2:aB wr B2 0 (.func (.func 250) #[] #[.pointer (some ⟨B3,0,none⟩)]):=(hB.cell (p:=⟨B2,0,none⟩) b2).trans h2;have c3:aB wr B3 0 (Y (D:Int)):=(hB.cell (p:=⟨B3,0,none⟩) b3).trans h3;obtain⟨fn,tmps,assign,body,hy,hR⟩:=hY k wr hk hJk;obtain⟨s1,s2⟩:=aIM (λ_ _=>D) Nn k hNn;have GL:dS (λ_ _=>D) Nn (k+1)=if D<=(dS (λ_ _=>D) Nn k).2 then((dS (λ_ _=>D) Nn k).1 |||dW k,((dS (λ_ _=>D) Nn k).2 -D)*2%18446744073709551616)else((dS (λ_ _=>D) Nn k).1,(dS (λ_ _=>D) Nn k).2 *2%18446744073709551616):=by rw[dS]
  have hd:dD (λ_ _=>D) Nn k=if D<=(dS (λ_ _=>D) Nn k).2 then 1 else 0:=rfl
  have hr:dR (λ_ _=>D) Nn k=if D<=(dS (λ_ _=>D) Nn k).2 then(dS (λ_ _=>D) Nn k).2 -D else(dS (λ_ _=>D) Nn k).2 :=rfl
  have Qu:dW k<18446744073709551616:=by unfold dW;exact LJ (Nat.div_le_self _ _) de
  have kK:dW (k+1)=dW k/2:=by unfold dW;rw[jE,LK]
  obtain⟨S1,hS1⟩:=x_n (dS (λ_ _=>D) Nn (k+1));obtain⟨V1,hV1⟩:=x_n (dW (k+1));rw[<-hS1]at GL;rw[<-hV1]at kK;have HN:Hid (S1=dS (λ_ _=>D) Nn (k+1)/\V1=dW (k+1)):=⟨hS1,hV1⟩;have HV:Hid (V1=dW k/2):=kK;clear hS1 hV1 kK;generalize dS (λ_ _=>D) Nn k=st at*
  obtain⟨b,L⟩:=st;dsimp only at*
  generalize dW k=v at*
  generalize dD (λ_ _=>D) Nn k=dd at*
  generalize dR (λ_ _=>D) Nn k=rr at*
  have HC:Hid (∀w,aB w B3 0 (Y (D:Int))->CT 250 #[Y (b:Int),Y (v:Int),.pointer (some ⟨B3,0,none⟩)] w λe w'=>e=Z (Y (D:Int))/\w'=w):=λw h=>aKa B3 D _ _ h;by_cases uz:D<=L
  .rw[aQ uz]at GL hd hr;subst hd;have aH8:(D:Int)<=(L:Int):=om;obtain⟨o1,o2⟩:=UN b v s1 Qu;generalize b|||v=bv at*
   rw[show((1:Nat):Int)=1 from rfl]at hy;have g1:(L:Int)-(D:Int)=(rr:Int):=om;have HR2:Hid (S1=(bv,rr*2%18446744073709551616)):=by show _=_;rw[GL,hr]
   have hrr:aI rr:=om;clear hr GL
   gi_wp2_with (refine⟨trivial,λh=>(by cases h),?_⟩;refine(callsIn_wide.2 (HC _ c3)).mono ?_;rintro e wq ⟨rfl,hwq⟩;subst hwq)
   exact aB8
  .rw[aH uz]at GL hd hr;subst hd;have aH8:¬(D:Int)<=(L:Int):=om;rw[show((0:Nat):Int)=0 from rfl]at hy;subst hr;have HR2:Hid (S1=(b,rr*2%18446744073709551616)):=GL;clear GL
   gi_wp2_with (refine⟨trivial,λh=>(by cases h),?_⟩;refine(callsIn_wide.2 (HC _ c3)).mono ?_;rintro e wq ⟨rfl,hwq⟩;subst hwq)
   exact aB8
def aAM(n N Nn n₀ B1 B2:Nat)(hNn:aI Nn)(hN:1<=N)(b1:B1<n₀)(b2:B2<n₀)(h1:aB w B1 0 (Y (Nn:Int)))
  (h2:aB w B2 0 (.func (.func 251) #[] #[])):
  Hands Fence.wide n prog 306 #[.pointer (some ⟨B1,0,none⟩),.pointer (some ⟨B2,0,none⟩)] n₀ N (λi=>#[Y ((dD dB Nn i:Nat):Int),Y ((dR dB Nn i:Nat):Int)]) w:=by
 intro l J Jx W hW hJ hY h0;have c1:aB W B1 0 (Y (Nn:Int)):=(hW.cell (p:=⟨B1,0,none⟩) b1).trans h1;refine callsIn_of_wp func306 rfl trivial ?_ rfl;simp only[ntmps306,List.size_toArray,List.length_cons,List.length_nil,Nat.reduceAdd,Nat.reduceSub,Array.replicate_succ,Array.replicate_zero,List.push_toArray,List.append_toArray,List.nil_append,List.cons_append]
 gi_wp2
 gi_loopg [4,5,6] N (λm b lf v wr=>∃k:Nat,k<N/\m=N-k/\b=Y ((dS dB Nn k).1 :Int)/\lf=Y ((dS dB Nn k).2 :Int)/\v=Y (dW k:Int)/\J k wr/\Below n₀ w wr)
 case atStart=>exact⟨0,om,rfl,by rw[dS];rfl,by rw[dS],by unfold dW;rfl,h0,hW⟩
 case round=>
  obtain⟨k,hk,rfl,rfl,rfl,rfl,hJk,hB⟩:=hrel;have c2:aB wr B2 0 (.func (.func 251) #[] #[]):=(hB.cell (p:=⟨B2,0,none⟩) b2).trans h2;obtain⟨fn,tmps,assign,body,hy,hR⟩:=hY k wr hk hJk;obtain⟨s1,s2⟩:=aIM dB Nn k hNn;have GL:dS dB Nn (k+1)=if dB (dS dB Nn k).1 (dW k)<=(dS dB Nn k).2 then((dS dB Nn k).1 |||dW k,((dS dB Nn k).2 -dB (dS dB Nn k).1 (dW k))*2%18446744073709551616)else((dS dB Nn k).1,(dS dB Nn k).2 *2%18446744073709551616):=by rw[dS]
  have hd:dD dB Nn k=if dB (dS dB Nn k).1 (dW k)<=(dS dB Nn k).2 then 1 else 0:=rfl
  have hr:dR dB Nn k=if dB (dS dB Nn k).1 (dW k)<=(dS dB Nn k).2 then(dS dB Nn k).2 -dB (dS dB Nn k).1 (dW k)else(dS dB Nn k).2 :=rfl
  have Qu:dW k<18446744073709551616:=by unfold dW;exact LJ (Nat.div_le_self _ _) de
  have kK:dW (k+1)=dW k/2:=by unfold dW;rw[jE,LK]
  obtain⟨S1,hS1⟩:=x_n (dS dB Nn (k+1));obtain⟨V1,hV1⟩:=x_n (dW (k+1));rw[<-hS1]at GL;rw[<-hV1]at kK;have HN:Hid (S1=dS dB Nn (k+1)/\V1=dW (k+1)):=⟨hS1,hV1⟩;have HV:Hid (V1=dW k/2):=kK;clear hS1 hV1 kK;generalize dS dB Nn k=st at*
  obtain⟨b,L⟩:=st;dsimp only at*
  generalize dW k=v at*
  generalize dD dB Nn k=dd at*
  generalize dR dB Nn k=rr at*
  have HC:Hid (∀w,CT 251 #[Y (b:Int),Y (v:Int)] w λe w'=>e=Z (Y ((dB b v:Nat):Int))/\w'=w):=λw=>aGZ b v w;have hD:dB b v<18446744073709551616:=by unfold dB;exact oN _ de
  generalize dB b v=D at*
  by_cases uz:D<=L
  .rw[aQ uz]at GL hd hr;subst hd;have aH8:(D:Int)<=(L:Int):=om;obtain⟨o1,o2⟩:=UN b v s1 Qu;generalize b|||v=bv at*
   rw[show((1:Nat):Int)=1 from rfl]at hy;have g1:(L:Int)-(D:Int)=(rr:Int):=om;have HR2:Hid (S1=(bv,rr*2%18446744073709551616)):=by show _=_;rw[GL,hr]
   have hrr:aI rr:=om;clear hr GL
   gi_wp2_with (refine⟨trivial,λh=>(by cases h),?_⟩;refine(callsIn_wide.2 (HC _)).mono ?_;rintro e wq ⟨rfl,hwq⟩;subst hwq)
   exact aB8
  .rw[aH uz]at GL hd hr;subst hd;have aH8:¬(D:Int)<=(L:Int):=om;rw[show((0:Nat):Int)=0 from rfl]at hy;subst hr;have HR2:Hid (S1=(b,rr*2%18446744073709551616)):=GL;clear GL
   gi_wp2_with (refine⟨trivial,λh=>(by cases h),?_⟩;refine(callsIn_wide.2 (HC _)).mono ?_;rintro e wq ⟨rfl,hwq⟩;subst hwq)
   exact aB8
def aMo{P:Prop}(h:P:=by
 go_wp2_with (at_builtin;go_loud (refine fU rfl _ _ rfl w.heap.size k M _ wr.heap.size rfl (Own.alloc HO.out _) rfl (by rw[<-DV.out];simp[go_sem]) om (by simp[go_sem];omega) ?_;intro v' w1 jm iF));go_roundw
 case rel=>exact⟨k+1,0,om,jS,jS,by show _=_;rw[HE2.out],jm,Gb.below (Gb.alloc HG.out _) iF (dJ _)⟩
 case measure=>simp[intOf]<;>omega):P:=h
def aMp{P:Prop}(h:P:=by
 go_wp2_with (at_builtin;go_loud (refine fU rfl _ _ rfl w.heap.size k M _ wr.heap.size rfl (Own.alloc HO.out _) rfl (by rw[<-DV.out];simp[go_sem]) om (by simp[go_sem];omega) ?_;intro v' w1 jm iF));go_roundw
 case rel=>exact⟨k+1,1,om,jS,jS,by show _=_;rw[HE2.out],jm,Gb.below (Gb.alloc HG.out _) iF (dJ _)⟩
 case measure=>simp[intOf]<;>omega):P:=h
def SK(h:Raw w (aF b n cap) n N)(hn:n<=1000000000):
  CT 220 #[aF b n cap] w λe w'=>∃k,e=Z (aF b k cap)/\w=w'/\Big w (aF b k cap) k N/\k<=n:=by
 obtain⟨hN,b1,cap1,hv,l7,Dz,aW⟩:=h;cases hv;have Vp:cap<=9223372036854775807:=Dz;have HC:Hid _:=aW;have HN:Hid _:=hN;have HM:Hid _:=Dz;clear aW hN Dz;go_enter func220,ntmps220;go_wp2;go_loop [3] (λi=>∃k:Nat,k<=n/\i=.int .i64 k/\Hid (N<4294967296^k)) (λi=>(intOf i).toNat)
 case atStart=>exact⟨n,dJ _,rfl,HN.out⟩
 case round=>
  obtain⟨k,hk,rfl,HK⟩:=hrel;rcases jL k with rfl|jZ
  .have HF:Hid (Big w (aF b 0 cap) 0 N):=⟨⟨HK.out,.inl rfl⟩,HK.out,b,cap,rfl,fV _,HM.out,λj hj=>om⟩;go_wp2;go_returns;exact⟨_,rfl,rfl,HF.out,om⟩
  .obtain⟨j,rfl⟩:∃j,k=j+1:=⟨k-1,om⟩;have hc:aB w b j (.int .u32 (dg N j:Int)):=HC j om;have hjj:((j+1:Nat):Int)-1=(j:Int):=om;by_cases hz:dg N j=0
   .have HL:Hid _:=SE HK.out hz;have mG:((dg N j:Nat):Int)=0:=om;rw[mG]at hc;clear hz mG;go_wp2;go_round
    case rel=>exact⟨j,om,jS,HL.out⟩
    case measure=>exact qL
   .have mG:(((dg N j:Nat):Int)==0)=false:=jA;have HF:Hid (Big w (aF b (j+1) cap) (j+1) N):=⟨⟨HK.out,.inr (YP hz)⟩,HK.out,b,cap,rfl,om,HM.out,λi hi=>HC i om⟩;clear hz;go_wp2;go_returns;exact⟨_,rfl,rfl,HF.out,om⟩
def aEI(hn:n<=1000000)(hN:N<4294967296^n)(EH:n'<=1000000)(BD:N'<4294967296^n')
  (aW:∀j,j<n->aB w b j (.int .u32 (dg N j:Int))) (l7:n<=cap) (iD:∀j,j<n'->aB w b' j (.int .u32 (dg N' j:Int))) (rD:n'<=cap') (uz:N'<=N) (hM:M=N-N'):
  CT 155 #[aF b n cap,aF b' n' cap'] w λe w'=>∃g c k,e=Z (aF g k c)/\w.heap.size<=g/\Big w' (aF g k c) k M/\k<=n/\Gb w w':=by
 have HC:Hid _:=aW;have HN:Hid _:=hN;have ZP:Hid _:=iD;have HN':Hid _:=BD;have HM:Hid _:=hM;have HL:Hid _:=uz;clear aW hN hM iD BD uz;go_enter func155,ntmps155;go_wp2;go_loopw [5,6,7] (λv c i wr=>∃k c':Nat,k<=n/\i=.int .i64 k/\c=Y c'/\Hid (c'=ZO N N' k)/\Own wr w.heap.size v k M/\Gb w wr) (λ_ _ i _=>n-(intOf i).toNat)
 case atStart=>exact⟨0,0,fV _,rfl,rfl,by show _=_;rw[Zg],sQ w _,(Gb.refl w).alloc _⟩
 case round=>
  obtain⟨k,c,hk,rfl,rfl,HCy,iG,dQ⟩:=hrel;have qY:=dQ.size;have HO:Hid _:=iG;have HG:Hid _:=dQ;clear iG dQ;by_cases hl:k<n
  .have hc:aB wr b k (.int .u32 (dg N k:Int)):=Gb.old HG.out (HC k hl);have qZ:(k:Int)<(n:Int):=om;have e1:=aGm N N' k HL.out;have e2:=Zh N N' k;have c1:=aBR N N' k;rw[<-HCy.out]at e1 e2 c1;rw[<-HM.out]at e1;have LZ:=l9 N k;have uT:=l9 N' k;have DI:=l9 M k;by_cases S_:k<n'
   .have EK:aB wr b' k (.int .u32 (dg N' k:Int)):=Gb.old HG.out (ZP k S_);have Pj:(k:Int)<(n':Int):=om;by_cases hb:dg N k<dg N' k+c
    .rw[aQ hb]at e1 e2;have DV:Hid ((dg N k:Int)+4294967296-((c:Int)+(dg N' k:Int))=(dg M k:Int)):=by show _=_;omega
     have HE2:Hid _:=e2;have iF:(dg N k:Int)<(c:Int)+(dg N' k:Int):=om;have mY:(dg N k:Int)+4294967296-((c:Int)+(dg N' k:Int))<4294967296:=om;clear e1 e2 DI;generalize dg N k=t at*
     generalize dg N' k=t' at*
     exact aMp
    .rw[aH hb]at e1 e2;have DV:Hid ((dg N k:Int)-((c:Int)+(dg N' k:Int))=(dg M k:Int)):=by show _=_;omega
     have HE2:Hid _:=e2;have iF:¬(dg N k:Int)<(c:Int)+(dg N' k:Int):=om;have mY:(dg N k:Int)-((c:Int)+(dg N' k:Int))<4294967296:=om;clear e1 e2 DI;generalize dg N k=t at*
     generalize dg N' k=t' at*
     exact aMo
   .have Pj:¬(k:Int)<(n':Int):=om;have hz:dg N' k=0:=sV HN'.out om;rw[hz]at e1 e2;by_cases hb:dg N k<0+c
    .rw[aQ hb]at e1 e2;have DV:Hid ((dg N k:Int)+4294967296-(c:Int)=(dg M k:Int)):=by show _=_;omega
     have HE2:Hid _:=e2;have iF:(dg N k:Int)<(c:Int):=om;have mY:(dg N k:Int)+4294967296-(c:Int)<4294967296:=om;clear e1 e2 DI hz uT hb;generalize dg N k=t at*
     exact aMp
    .rw[aH hb]at e1 e2;have DV:Hid ((dg N k:Int)-(c:Int)=(dg M k:Int)):=by show _=_;omega
     have HE2:Hid _:=e2;have iF:¬(dg N k:Int)<(c:Int):=om;have mY:(dg N k:Int)-(c:Int)<4294967296:=om;clear e1 e2 DI hz uT hb;generalize dg N k=t at*
     exact aMo
  .have qZ:¬(k:Int)<(n:Int):=om;have HF:Hid (M<4294967296^k):=by
    have h1:=HN.out;show _<_;rw[HM.out,(om:k=n)];omega
   obtain⟨g,c0,rfl,hbg,hcg⟩:=Own.where HO.out;go_wp2_with (go_at_call 220;refine(SK (Own.raw HO.out HF.out) om).mono ?_;rintro e w' ⟨k',rfl,hw,oz,EI⟩;subst hw);go_returns;exact⟨_,_,_,rfl,hbg,oz,om,HG.out⟩
def aEP(hn:n<=1000000)(hN:N<4294967296^n)(EH:n'<=1000000)(BD:N'<4294967296^n')
  (aW:∀j,j<n->aB w b j (.int .u32 (dg N j:Int))) (l7:n<=cap) (iD:∀j,j<n'->aB w b' j (.int .u32 (dg N' j:Int))) (rD:n'<=cap') (hM:M=N+N'):
  CT 227 #[aF b n cap,aF b' n' cap'] w λe w'=>∃g c k,e=Z (aF g k c)/\w.heap.size<=g/\Big w' (aF g k c) k M/\k<=n+n'+1/\Gb w w':=by
 have HC:Hid _:=aW;have HN:Hid _:=hN;have ZP:Hid _:=iD;have HN':Hid _:=BD;have HM:Hid _:=hM;clear aW hN hM iD BD;go_enter func227,ntmps227;go_wp2;go_loopw [5,6,7] (λv c i wr=>∃k c':Nat,(k<=n\/k<=n')/\i=.int .i64 k/\c=Y c'/\Hid (c'=(N%4294967296^k+N'%4294967296^k)/4294967296^k)/\Own wr w.heap.size v k M/\Gb w wr) (λ_ _ i _=>n+n'-(intOf i).toNat)
 case atStart=>exact⟨0,0,.inl (fV _),rfl,rfl,by show _=_;simp[Nat.mod_one],sQ w _,(Gb.refl w).alloc _⟩
 case round=>
  obtain⟨k,c,hk,rfl,rfl,HCy,iG,dQ⟩:=hrel;have qY:=dQ.size;have HO:Hid _:=iG;have HG:Hid _:=dQ;clear iG dQ;obtain⟨e1,e2,c1⟩:=TF N N' k c HCy.out;have LZ:=l9 N k;have uT:=l9 N' k;have DV:Hid (((c:Int)+(dg N k:Int)+(dg N' k:Int))%4294967296=(dg M k:Int)):=by show _=_;rw[HM.out,e1];omega
  have HE2:Hid _:=e2;clear e1 e2;by_cases hl:k<n
  .have hc:aB wr b k (.int .u32 (dg N k:Int)):=Gb.old HG.out (HC k hl);have qZ:(k:Int)<(n:Int):=om;by_cases S_:k<n'
   .have EK:aB wr b' k (.int .u32 (dg N' k:Int)):=Gb.old HG.out (ZP k S_);have Pj:(k:Int)<(n':Int):=om;generalize dg N k=t at*
    generalize dg N' k=t' at*
    go_wp2_with (at_builtin;go_loud (refine fU rfl _ _ rfl w.heap.size k M _ wr.heap.size rfl (Own.alloc HO.out _) rfl (by rw[<-DV.out];simp[go_sem]) om (by simp[go_sem];omega) ?_;intro v' w1 jm iF));go_roundw
    case rel=>exact⟨k+1,(c+t+t')/4294967296,.inl om,jS,jS,by show _=_;rw[HE2.out],jm,Gb.below (Gb.alloc HG.out _) iF (dJ _)⟩
    case measure=>exact qL
   .have Pj:¬(k:Int)<(n':Int):=om;have hz:dg N' k=0:=sV HN'.out om;rw[hz]at HE2;have Qq:Hid (((c:Int)+(dg N k:Int))%4294967296=(dg M k:Int)):=by show _=_;rw[<-DV.out,hz];simp
    clear hz DV uT;generalize dg N k=t at*
    go_wp2_with (at_builtin;go_loud (refine fU rfl _ _ rfl w.heap.size k M _ wr.heap.size rfl (Own.alloc HO.out _) rfl (by rw[<-Qq.out];simp[go_sem]) om (by simp[go_sem];omega) ?_;intro v' w1 jm iF));go_roundw
    case rel=>exact⟨k+1,(c+t)/4294967296,.inl om,jS,jS,by show _=_;rw[HE2.out];rfl,jm,Gb.below (Gb.alloc HG.out _) iF (dJ _)⟩
    case measure=>exact qL
  .have qZ:¬(k:Int)<(n:Int):=om;have hz:dg N k=0:=sV HN.out om;by_cases S_:k<n'
   .have EK:aB wr b' k (.int .u32 (dg N' k:Int)):=Gb.old HG.out (ZP k S_);have Pj:(k:Int)<(n':Int):=om;rw[hz]at HE2;have Qq:Hid (((c:Int)+(dg N' k:Int))%4294967296=(dg M k:Int)):=by show _=_;rw[<-DV.out,hz];simp
    clear hz DV LZ;generalize dg N' k=t at*
    go_wp2_with (at_builtin;go_loud (refine fU rfl _ _ rfl w.heap.size k M _ wr.heap.size rfl (Own.alloc HO.out _) rfl (by rw[<-Qq.out];simp[go_sem]) om (by simp[go_sem];omega) ?_;intro v' w1 jm iF));go_roundw
    case rel=>exact⟨k+1,(c+t)/4294967296,.inr om,jS,jS,by show _=_;rw[HE2.out];rfl,jm,Gb.below (Gb.alloc HG.out _) iF (dJ _)⟩
    case measure=>exact qL
   .have Pj:¬(k:Int)<(n':Int):=om;have Qq:Hid ((c:Int)=(dg M k:Int)):=by
     have:=aC6 HN.out HN'.out (om:n<=k) (om:n'<=k);show _=_;rw[HM.out,this,<-HCy.out]
    have HF:Hid (M<4294967296^(k+1)):=by
     have:=II HN.out HN'.out (om:n<=k) (om:n'<=k);show _<_;rw[HM.out];exact this
    clear hz DV LZ uT HE2;have hkb:k<=n+n':=om;go_wp2_with (first|(at_builtin;go_loud (refine fU rfl _ _ rfl w.heap.size k M _ wr.heap.size rfl (Own.alloc HO.out _) rfl (by rw[<-Qq.out];simp[go_sem]) om (by simp[go_sem];omega) ?_;intro v' w1 jm iF;obtain⟨g,c0,rfl,hbg,hcg⟩:=Own.where jm))|(go_at_call 220;refine(SK (Own.raw jm HF.out) om).mono ?_;rintro e w' ⟨k',rfl,hw,oz,EI⟩;subst hw))
    go_returns;exact⟨_,_,_,rfl,hbg,oz,om,Gb.below (Gb.alloc HG.out _) iF (dJ _)⟩
