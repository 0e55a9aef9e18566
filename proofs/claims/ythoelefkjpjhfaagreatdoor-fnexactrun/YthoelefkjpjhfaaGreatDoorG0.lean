import Derived.Test.YthoelefkjpjhfaaGreatDoorPm
import Derived.Deep.RegionHeld3
import Derived.Deep.DeepCutAuto
import Derived.BigQuiet
import Derived.Deep.QuietTactic
import Derived.WalkSmall
import Derived.Laws.Bits64b
set_option linter.all false
set_option maxRecDepth 1000000
set_option maxHeartbeats 40000000
open Bool renaming false → V, true → E
open Go.Proofs.YthoelefkjpjhfaaGreatDoor renaming vI → J, vU → Y
open Go.Value renaming int → Z, bool → O, tuple → X
open Go.Proofs.Tryz
namespace Go.Proofs.YthoelefkjpjhfaaGreatDoor
open Go.RowKit
attribute [local go_sem] aA
variable{n N b cap M n' N' b' cap':Nat}{w W:World}{v v2:Value}
def qG(w:World)(N:Nat):Own (w.alloc (.cells #[] 155)) w.heap.size (aC w.heap.size 0 0) 0 N:=by
 refine⟨?_,by simp⟩;have:=World.ownsRow_lit (base:=w.heap.size) (e:=155) (size:=1) w #[] 0 (Nat.le_refl _) (Nat.zero_le _) rfl
 simpa[aD2]using this
def aDj(z r:Nat)(hr:r<32)(hz:z<=1000000)(hn:n<=1000000)(jm:0<n)(hN:N<4294967296^n)
  (aW:∀j,j<n->aA w b j (Z .u32 (dg N j:Int))) (kJ:n<=cap) (s:Nat) (hs:s=32*z+r) (hM:M=N*2^(32*z+r)):
  CT 150 #[aC b n cap,J s] w λe w'=>∃v' k,e=.returned v'/\Big w' v' k M/\k<=n+z+1/\Gb w w':=by
 have HC:Hid _:=aW;have HN:Hid _:=hN;have HM:Hid _:=hM;have hq:(s:Int)/32=(z:Int):=om;have hm:(s:Int)%32=(r:Int):=om;have EN:s<=100000000:=om;have HS:Hid _:=hs;have n0:((n:Int)==0)=V:=jl;clear aW hN hs hM;go_enter func150,ntmps150;go_wp2;go_loopw [5,6] (λv i wr=>∃k:Nat,k<=z/\i=J k/\Own wr w.heap.size v k M/\Gb w wr) (λ_ i _=>z-(intOf i).toNat)
 case atStart=>exact⟨0,Nat.zero_le _,rfl,qG w _,(Gb.refl w).alloc _⟩
 case round=>
  obtain⟨k,hk,rfl,gZ,dH⟩:=hrel;by_cases fF:k<z
  .have jc:(k:Int)<(z:Int):=om;have hd:((dg M k:Nat):Int)=0:=by rw[HM.out,aIm N r z k fF];rfl
   have HD:Hid _:=hd;have uF:=dH.size;have HO:Hid _:=gZ;have HG:Hid _:=dH;clear hd gZ dH;go_wp2_with (at_builtin;refine eY rfl _ _ rfl w.heap.size k M _ wr.heap.size rfl (Own.alloc HO.out _) rfl (by rw[HD.out];simp[go_sem]) om (by simp[go_sem];omega) ?_;intro v' w1 iM gU);go_roundw
   case rel=>exact⟨k+1,om,by go_num,iM,Gb.below (Gb.alloc HG.out _) gU (Nat.le_refl _)⟩
   case measure=>exact uz
  .obtain rfl:k=z:=om;go_wp2;go_loopw [5,7,8] (λv c i wr'=>∃i' c':Nat,i'<=n/\i=J i'/\c=Y c'/\Hid (c'=N%4294967296^i'*2^r/4294967296^i')/\Own wr' w.heap.size v (k+i') M/\Gb w wr') (λ_ _ i _=>n-(intOf i).toNat)
   case atStart=>exact⟨0,0,Nat.zero_le _,rfl,rfl,by show _=_;simp[Nat.mod_one],gZ,dH⟩
   case round=>
    obtain⟨i,c,hi,rfl,rfl,HCy,aLP,FN⟩:=hrel;have W9:=Rz N r i hr;rw[<-HCy.out]at W9;have uF:=FN.size;have HO:Hid _:=aLP;have HG:Hid _:=FN;clear aLP FN;by_cases hin:i<n
    .have aPF:(i:Int)<(n:Int):=om;have hc:aA wr b i (Z .u32 (dg N i:Int)):=Gb.old HG.out (HC i hin);obtain⟨e1,e2⟩:=aB2 N r i c HCy.out;have hdl:=kK N i;obtain⟨b1,b2⟩:=aBZ (dg N i) r c hdl hr W9;have hdm:dg M (k+i)=(dg N i*2^r+c)%4294967296:=by rw[HM.out,aEZ,e1]
     obtain⟨y,hy⟩:=x_n (dg N i*2^r);have Pv:IntKind.u64.wrap ((dg N i:Int)*2^r)=(y:Int):=by
      have e:(dg N i:Int)*2^r=(y:Int):=by rw[hy];push_cast;rfl
      rw[e,IntKind.wrap_u64];omega
     rw[<-hy]at b1 b2 hdm e2;have BI:Hid ((((y:Int)+(c:Int))%4294967296)=(dg M (k+i):Int)):=by show _=_;rw[hdm];omega
     have HE2:Hid _:=e2;clear hy e1 e2 hdm;generalize dg N i=t at*
     go_wp2_with (at_builtin;refine eY rfl _ _ rfl w.heap.size (k+i) M _ wr.heap.size rfl (Own.alloc HO.out _) rfl (by rw[<-BI.out];simp[go_sem]) om (by simp[go_sem];omega) ?_;intro v' w1 iM gU);go_roundw
     case rel=>exact⟨i+1,(y+c)/4294967296,om,by go_num,by go_num,by show _=_;rw[HE2.out],iM,Gb.below (Gb.alloc HG.out _) gU (Nat.le_refl _)⟩
     case measure=>exact uz
    .obtain rfl:i=n:=om;obtain⟨f1,f2⟩:=aIn N r k i HN.out hr;have BI:Hid ((c:Int)=(dg M (k+i):Int)):=by show _=_;rw[HM.out,f1,<-HCy.out]
     have HF2:Hid (M<4294967296^(k+i+1)):=by show _<_;rw[HM.out];exact f2
     clear f1 f2;go_wp2_with (first|(at_builtin;refine eY rfl _ _ rfl w.heap.size (k+i) M _ wr.heap.size rfl (Own.alloc HO.out _) rfl (by rw[<-BI.out];simp[go_sem]) om (by simp[go_sem];omega) ?_;intro v' w1 iM gU)|(go_at_call 220;refine(nI (Own.raw iM HF2.out) om).mono ?_;rintro e w' ⟨v'',k',rfl,hw,mF,C_⟩;subst hw))
     go_returns;exact⟨_,_,rfl,mF,om,Gb.below (Gb.alloc HG.out _) gU (Nat.le_refl _)⟩
def gX(h:Big w v n N)(hn:n<=1000000)(s:Nat)(hs:s<=10000000):
  CT 150 #[v,J s] w λe w'=>∃v' k,e=.returned v'/\Big w' v' k (N*2^s)/\k<=n+s/32+1/\Gb w w':=by
 obtain⟨uG,hN,b,cap,rfl,kJ,Bd,aW⟩:=h;rcases Nat.eq_zero_or_pos n with rfl|jm
 .have e:N*2^s=N:=by rw[uG.zero];simp
  rw[e];have HB:Hid (Big w (aC b 0 cap) 0 N):=⟨uG,hN,b,cap,rfl,kJ,Bd,aW⟩;clear aW uG hN e;go_enter func150,ntmps150;go_wp2;go_returns;exact⟨_,_,rfl,HB.out,om,Gb.refl w⟩
 .have e:32*(s/32)+s%32=s:=om;refine(aDj (M:=N*2^s) (s/32) (s%32) om om hn jm hN aW kJ s om (by rw[e])).mono ?_;exact λ_ _ h=>h
def aLG{P:Prop}(h:P:=by
 go_wp2_with (at_builtin;go_loud (refine eY rfl _ _ rfl w.heap.size k M _ wr.heap.size rfl (Own.alloc HO.out _) rfl (by rw[<-BI.out];simp[go_sem]) om (by simp[go_sem];omega) ?_;intro v' w1 iM gU));go_roundw
 case rel=>exact⟨k+1,j+1,by show _=_;have:=HJ.out;omega,.inr om,om,HJN.out,by go_num,iM,Gb.below (Gb.alloc HG.out _) gU (Nat.le_refl _)⟩
 case measure=>simp[intOf]<;>omega):P:=h
def Vf(x r:Nat):((x/2^r%4294967296:Nat):Int)=(x:Int)/2^r%4294967296:=by
 rw[Int.natCast_emod,Int.natCast_ediv,Int.natCast_pow];rfl
def Zx(z r:Nat)(hr:r<32)(hz:z<=1000000)(hn:n<=1000000)(hN:N<4294967296^n)
  (aW:∀j,j<n->aA w b j (Z .u32 (dg N j:Int))) (kJ:n<=cap) (s:Nat) (hs:s=32*z+r) (hM:M=N/2^(32*z+r)):
  CT 282 #[aC b n cap,J s] w λe w'=>∃v' k,e=.returned v'/\Big w' v' k M/\k<=n/\Gb w w':=by
 have HC:Hid _:=aW;have HN:Hid _:=hN;have HM:Hid _:=hM;have hq:(s:Int)/32=(z:Int):=om;have hm:(s:Int)%32=(r:Int):=om;have EN:s<=100000000:=om;have HS:Hid _:=hs;clear aW hN hs hM;go_enter func282,ntmps282;go_wp2;go_loopw [5,6] (λv i wr=>∃k j:Nat,Hid (j=z+k)/\Hid (k=0\/j<=n)/\j<=2000000/\k<=1000000/\i=J j/\Own wr w.heap.size v k M/\Gb w wr) (λ_ i _=>n-(intOf i).toNat)
 case atStart=>exact⟨0,z,by show _=_;omega,.inl rfl,om,om,by go_num,qG w _,(Gb.refl w).alloc _⟩
 case round=>
  obtain⟨k,j,HJ,HK,hj2,lX,rfl,gZ,dH⟩:=hrel;have uF:=dH.size;have HO:Hid _:=gZ;have HG:Hid _:=dH;clear gZ dH;by_cases fF:j<n
  .have jc:(j:Int)<(n:Int):=om;have hdM:dg M k=(dg N j+dg N (j+1)*4294967296)/2^r%4294967296:=by rw[HM.out,HJ.out];exact aMp N r z k hr
   have hc:aA wr b j (Z .u32 (dg N j:Int)):=Gb.old HG.out (HC j fF);have JJ:=kK N j;have rY:=kK N (j+1);have HJN:Hid (k+1<=1000000):=by show _<=_;have:=HJ.out;omega
   by_cases aDA:j+1<n
   .have aTp:(j:Int)+1<(n:Int):=om;have w_:aA wr b (j+1) (Z .u32 (dg N (j+1):Int)):=Gb.old HG.out (HC (j+1) aDA);obtain⟨x,hx⟩:=x_n (dg N j+dg N (j+1)*4294967296);have hxi:(dg N j:Int)+(dg N (j+1):Int)*4294967296=(x:Int):=om;have aUm:aG x:=om;rw[<-hx]at hdM;have BI:Hid ((x:Int)/2^r%4294967296=(dg M k:Int)):=by show _=_;rw[hdM,Vf]
    clear hdM hx;generalize dg N j=t0 at*
    generalize dg N (j+1)=t1 at*
    exact aLG
   .have hnl:¬(j:Int)+1<(n:Int):=om;have iR:dg N (j+1)=0:=qK HN.out om;rw[iR]at hdM;simp only[Nat.zero_mul,Nat.add_zero]at hdM;have BI:Hid ((dg N j:Int)/2^r%4294967296=(dg M k:Int)):=by show _=_;rw[hdM,Vf]
    clear hdM iR rY;generalize dg N j=t0 at*
    exact aLG
  .have jc:¬(j:Int)<(n:Int):=om;have HL:Hid (M<4294967296^k/\k<=n):=by
    have hJ:=HJ.out;rcases HK.out with rfl|hk
    .have:=aEY N r z n HN.out om;refine⟨?_,om⟩;rw[HM.out,this];decide
    .have:=aMo N r z n HN.out om;refine⟨?_,om⟩;rw[HM.out,(om:k=n-z)];exact this
   go_wp2_with (go_at_call 220;refine(nI (Own.raw HO.out HL.out.1) (by have:=HL.out.2;omega)).mono ?_;rintro e w' ⟨v'',k',rfl,hw,mF,C_⟩;subst hw);go_returns;exact⟨_,_,rfl,mF,by have:=HL.out.2;omega,HG.out⟩
def vY(h:Big w v n N)(hn:n<=1000000)(s:Nat)(hs:s<=10000000):
  CT 282 #[v,J s] w λe w'=>∃v' k,e=.returned v'/\Big w' v' k (N/2^s)/\k<=n/\Gb w w':=by
 obtain⟨uG,hN,b,cap,rfl,kJ,Bd,aW⟩:=h;have e:32*(s/32)+s%32=s:=om;exact Zx (M:=N/2^s) (s/32) (s%32) om om hn hN aW kJ s om (by rw[e])
def aLE{P:Prop}(h:P:=by
 go_wp2_with (at_builtin;go_loud (refine eY rfl _ _ rfl w.heap.size k M _ wr.heap.size rfl (Own.alloc HO.out _) rfl (by rw[<-BI.out];simp[go_sem]) om (by simp[go_sem];omega) ?_;intro v' w1 iM gU));go_roundw
 case rel=>exact⟨k+1,0,om,by go_num,by go_num,by show _=_;rw[HE2.out],iM,Gb.below (Gb.alloc HG.out _) gU (Nat.le_refl _)⟩
 case measure=>simp[intOf]<;>omega):P:=h
def aLF{P:Prop}(h:P:=by
 go_wp2_with (at_builtin;go_loud (refine eY rfl _ _ rfl w.heap.size k M _ wr.heap.size rfl (Own.alloc HO.out _) rfl (by rw[<-BI.out];simp[go_sem]) om (by simp[go_sem];omega) ?_;intro v' w1 iM gU));go_roundw
 case rel=>exact⟨k+1,1,om,by go_num,by go_num,by show _=_;rw[HE2.out],iM,Gb.below (Gb.alloc HG.out _) gU (Nat.le_refl _)⟩
 case measure=>simp[intOf]<;>omega):P:=h
def Zw(hn:n<=1000000)(hN:N<4294967296^n)(C9:n'<=1000000)(zo:N'<4294967296^n')
  (aW:∀j,j<n->aA w b j (Z .u32 (dg N j:Int))) (kJ:n<=cap) (gK:∀j,j<n'->aA w b' j (Z .u32 (dg N' j:Int))) (pq:n'<=cap') (rG:N'<=N) (hM:M=N-N'):
  CT 155 #[aC b n cap,aC b' n' cap'] w λe w'=>∃v' k,e=.returned v'/\Big w' v' k M/\k<=n/\Gb w w':=by
 have HC:Hid _:=aW;have HN:Hid _:=hN;have Yb:Hid _:=gK;have HN':Hid _:=zo;have HM:Hid _:=hM;have HL:Hid _:=rG;clear aW hN hM gK zo rG;go_enter func155,ntmps155;go_wp2;go_loopw [5,6,7] (λv c i wr=>∃k c':Nat,k<=n/\i=J k/\c=Y c'/\Hid (c'=Ya N N' k)/\Own wr w.heap.size v k M/\Gb w wr) (λ_ _ i _=>n-(intOf i).toNat)
 case atStart=>exact⟨0,0,Nat.zero_le _,rfl,rfl,by show _=_;rw[XD],qG w _,(Gb.refl w).alloc _⟩
 case round=>
  obtain⟨k,c,hk,rfl,rfl,HCy,gZ,dH⟩:=hrel;have uF:=dH.size;have HO:Hid _:=gZ;have HG:Hid _:=dH;clear gZ dH;by_cases hl:k<n
  .have hc:aA wr b k (Z .u32 (dg N k:Int)):=Gb.old HG.out (HC k hl);have o9:(k:Int)<(n:Int):=om;have e1:=aEV N N' k HL.out;have e2:=XE N N' k;have c1:=aAu N N' k;rw[<-HCy.out]at e1 e2 c1;rw[<-HM.out]at e1;have JJ:=kK N k;have rY:=kK N' k;have Bj:=kK M k;by_cases Tj:k<n'
   .have Df:aA wr b' k (Z .u32 (dg N' k:Int)):=Gb.old HG.out (Yb k Tj);have Nv:(k:Int)<(n':Int):=om;by_cases hb:dg N k<dg N' k+c
    .rw[if_pos hb]at e1 e2;have BI:Hid ((dg N k:Int)+4294967296-((c:Int)+(dg N' k:Int))=(dg M k:Int)):=by show _=_;omega
     have HE2:Hid _:=e2;have gU:(dg N k:Int)<(c:Int)+(dg N' k:Int):=om;have lC:(dg N k:Int)+4294967296-((c:Int)+(dg N' k:Int))<4294967296:=om;clear e1 e2 Bj;generalize dg N k=t at*
     generalize dg N' k=t' at*
     exact aLF
    .rw[if_neg hb]at e1 e2;have BI:Hid ((dg N k:Int)-((c:Int)+(dg N' k:Int))=(dg M k:Int)):=by show _=_;omega
     have HE2:Hid _:=e2;have gU:¬(dg N k:Int)<(c:Int)+(dg N' k:Int):=om;have lC:(dg N k:Int)-((c:Int)+(dg N' k:Int))<4294967296:=om;clear e1 e2 Bj;generalize dg N k=t at*
     generalize dg N' k=t' at*
     exact aLE
   .have Nv:¬(k:Int)<(n':Int):=om;have hz:dg N' k=0:=qK HN'.out om;rw[hz]at e1 e2;by_cases hb:dg N k<0+c
    .rw[if_pos hb]at e1 e2;have BI:Hid ((dg N k:Int)+4294967296-(c:Int)=(dg M k:Int)):=by show _=_;omega
     have HE2:Hid _:=e2;have gU:(dg N k:Int)<(c:Int):=om;have lC:(dg N k:Int)+4294967296-(c:Int)<4294967296:=om;clear e1 e2 Bj hz rY hb;generalize dg N k=t at*
     exact aLF
    .rw[if_neg hb]at e1 e2;have BI:Hid ((dg N k:Int)-(c:Int)=(dg M k:Int)):=by show _=_;omega
     have HE2:Hid _:=e2;have gU:¬(dg N k:Int)<(c:Int):=om;have lC:(dg N k:Int)-(c:Int)<4294967296:=om;clear e1 e2 Bj hz rY hb;generalize dg N k=t at*
     exact aLE
  .have o9:¬(k:Int)<(n:Int):=om;have HF:Hid (M<4294967296^k):=by
    have h1:=HN.out;show _<_;rw[HM.out,(om:k=n)];omega
   go_wp2_with (go_at_call 220;refine(nI (Own.raw HO.out HF.out) om).mono ?_;rintro e w' ⟨v'',k',rfl,hw,mF,C_⟩;subst hw);go_returns;exact⟨_,_,rfl,mF,om,HG.out⟩
def nM(h:Big w v n N)(hn:n<=1000000)(h':Big w v2 n' N')(C9:n'<=1000000)(rG:N'<=N):
  CT 155 #[v,v2] w λe w'=>∃v' k,e=.returned v'/\Big w' v' k (N-N')/\k<=n/\Gb w w':=by
 obtain⟨uG,hN,b,cap,rfl,kJ,Bd,aW⟩:=h;obtain⟨WV,zo,b',cap',rfl,pq,Ti,gK⟩:=h';exact Zw hn hN C9 zo aW kJ gK pq rG rfl
def ZK(hn:n<=1000000)(hN:N<4294967296^n)(C9:n'<=1000000)(zo:N'<4294967296^n')
  (aW:∀j,j<n->aA w b j (Z .u32 (dg N j:Int))) (kJ:n<=cap) (gK:∀j,j<n'->aA w b' j (Z .u32 (dg N' j:Int))) (pq:n'<=cap') (hM:M=N+N'):
  CT 227 #[aC b n cap,aC b' n' cap'] w λe w'=>∃v' k,e=.returned v'/\Big w' v' k M/\k<=n+n'+1/\Gb w w':=by
 have HC:Hid _:=aW;have HN:Hid _:=hN;have Yb:Hid _:=gK;have HN':Hid _:=zo;have HM:Hid _:=hM;clear aW hN hM gK zo;go_enter func227,ntmps227;go_wp2;go_loopw [5,6,7] (λv c i wr=>∃k c':Nat,(k<=n\/k<=n')/\i=J k/\c=Y c'/\Hid (c'=(N%4294967296^k+N'%4294967296^k)/4294967296^k)/\Own wr w.heap.size v k M/\Gb w wr) (λ_ _ i _=>n+n'-(intOf i).toNat)
 case atStart=>exact⟨0,0,.inl (Nat.zero_le _),rfl,rfl,by show _=_;simp[Nat.mod_one],qG w _,(Gb.refl w).alloc _⟩
 case round=>
  obtain⟨k,c,hk,rfl,rfl,HCy,gZ,dH⟩:=hrel;have uF:=dH.size;have HO:Hid _:=gZ;have HG:Hid _:=dH;clear gZ dH;obtain⟨e1,e2,c1⟩:=QG N N' k c HCy.out;have JJ:=kK N k;have rY:=kK N' k;have BI:Hid (((c:Int)+(dg N k:Int)+(dg N' k:Int))%4294967296=(dg M k:Int)):=by show _=_;rw[HM.out,e1];omega
  have HE2:Hid _:=e2;clear e1 e2;by_cases hl:k<n
  .have hc:aA wr b k (Z .u32 (dg N k:Int)):=Gb.old HG.out (HC k hl);have o9:(k:Int)<(n:Int):=om;by_cases Tj:k<n'
   .have Df:aA wr b' k (Z .u32 (dg N' k:Int)):=Gb.old HG.out (Yb k Tj);have Nv:(k:Int)<(n':Int):=om;generalize dg N k=t at*
    generalize dg N' k=t' at*
    go_wp2_with (at_builtin;go_loud (refine eY rfl _ _ rfl w.heap.size k M _ wr.heap.size rfl (Own.alloc HO.out _) rfl (by rw[<-BI.out];simp[go_sem]) om (by simp[go_sem];omega) ?_;intro v' w1 iM gU));go_roundw
    case rel=>exact⟨k+1,(c+t+t')/4294967296,.inl om,by go_num,by go_num,by show _=_;rw[HE2.out],iM,Gb.below (Gb.alloc HG.out _) gU (Nat.le_refl _)⟩
    case measure=>exact uz
   .have Nv:¬(k:Int)<(n':Int):=om;have hz:dg N' k=0:=qK HN'.out om;rw[hz]at HE2;have Ot:Hid (((c:Int)+(dg N k:Int))%4294967296=(dg M k:Int)):=by show _=_;rw[<-BI.out,hz];simp
    clear hz BI rY;generalize dg N k=t at*
    go_wp2_with (at_builtin;go_loud (refine eY rfl _ _ rfl w.heap.size k M _ wr.heap.size rfl (Own.alloc HO.out _) rfl (by rw[<-Ot.out];simp[go_sem]) om (by simp[go_sem];omega) ?_;intro v' w1 iM gU));go_roundw
    case rel=>exact⟨k+1,(c+t)/4294967296,.inl om,by go_num,by go_num,by show _=_;rw[HE2.out];rfl,iM,Gb.below (Gb.alloc HG.out _) gU (Nat.le_refl _)⟩
    case measure=>exact uz
  .have o9:¬(k:Int)<(n:Int):=om;have hz:dg N k=0:=qK HN.out om;by_cases Tj:k<n'
   .have Df:aA wr b' k (Z .u32 (dg N' k:Int)):=Gb.old HG.out (Yb k Tj);have Nv:(k:Int)<(n':Int):=om;rw[hz]at HE2;have Ot:Hid (((c:Int)+(dg N' k:Int))%4294967296=(dg M k:Int)):=by show _=_;rw[<-BI.out,hz];simp
    clear hz BI JJ;generalize dg N' k=t at*
    go_wp2_with (at_builtin;go_loud (refine eY rfl _ _ rfl w.heap.size k M _ wr.heap.size rfl (Own.alloc HO.out _) rfl (by rw[<-Ot.out];simp[go_sem]) om (by simp[go_sem];omega) ?_;intro v' w1 iM gU));go_roundw
    case rel=>exact⟨k+1,(c+t)/4294967296,.inr om,by go_num,by go_num,by show _=_;rw[HE2.out];rfl,iM,Gb.below (Gb.alloc HG.out _) gU (Nat.le_refl _)⟩
    case measure=>exact uz
   .have Nv:¬(k:Int)<(n':Int):=om;have Ot:Hid ((c:Int)=(dg M k:Int)):=by
     have:=aBG HN.out HN'.out (om:n<=k) (om:n'<=k);show _=_;rw[HM.out,this,<-HCy.out]
    have HF:Hid (M<4294967296^(k+1)):=by
     have:=FZ HN.out HN'.out (om:n<=k) (om:n'<=k);show _<_;rw[HM.out];exact this
    clear hz BI JJ rY HE2;have hkb:k<=n+n':=om;go_wp2_with (first|(at_builtin;go_loud (refine eY rfl _ _ rfl w.heap.size k M _ wr.heap.size rfl (Own.alloc HO.out _) rfl (by rw[<-Ot.out];simp[go_sem]) om (by simp[go_sem];omega) ?_;intro v' w1 iM gU))|(go_at_call 220;refine(nI (Own.raw iM HF.out) om).mono ?_;rintro e w' ⟨v'',k',rfl,hw,mF,C_⟩;subst hw))
    go_returns;exact⟨_,_,rfl,mF,om,Gb.below (Gb.alloc HG.out _) gU (Nat.le_refl _)⟩
def FH(h:Big w v n N)(hn:n<=1000000)(h':Big w v2 n' N')(C9:n'<=1000000):
  CT 227 #[v,v2] w λe w'=>∃v' k,e=.returned v'/\Big w' v' k (N+N')/\k<=n+n'+1/\Gb w w':=by
 obtain⟨uG,hN,b,cap,rfl,kJ,Bd,aW⟩:=h;obtain⟨WV,zo,b',cap',rfl,pq,Ti,gK⟩:=h';exact ZK hn hN C9 zo aW kJ gK pq rfl
def UO{P:Prop}(h:P:=by
 go_enter func186,ntmps186;go_wp2;go_returns;exact⟨rfl,Gr.g⟩):P:=h
def PU{P:Prop}(h:P:=by
 go_wp2_with (go_at_call 355;refine kw (HT _) ?_);go_returns;exact⟨rfl,Gr.g⟩):P:=h
def tH(w:World):QR 186 #[J 0] w (X #[.iface 261 (.agg #[Z .i32 (-2147483648),Z .i32 2147483647]),O E]):=by
 exact UO
def tu(w:World):QR 186 #[J 1] w (X #[.iface 263 (jI (-9223372036854775808) 9223372036854775807),O E]):=by
 exact UO
def tq(w:World):QR 186 #[J 2] w (X #[.iface 265 (.agg #[Z .u32 0,Z .u32 4294967295]),O E]):=by
 exact UO
def sZ(w:World):QR 186 #[J 3] w (X #[.iface 267 (aN 0 18446744073709551615),O E]):=by
 exact UO
def zS(aF:Int)(h:¬(0<=aF/\aF<=3))(w:World):QR 186 #[J aF] w (X #[Value.nilIface,O V]):=by
 rcases(om:aF<0\/4<=aF)with c|c
 all_goals
  clear h;exact UO
def h_(v m:Int)(h:IntKind.u64.wrap (-v)=m)(w:World):QW 355 #[J 1,Y v] w (Y m):=by
 go_enter func355,ntmps355;go_wp2;go_returns;exact⟨rfl,rfl⟩
def fM(v:Int)(w:World):QW 355 #[J 0,Y v] w (Y v):=by
 go_enter func355,ntmps355;go_wp2;go_returns;exact⟨rfl,rfl⟩
def Xn(v x y m:Int)(q:Bool)(hx:IntKind.i32.wrap v=x)(c:x<0)(hy:IntKind.u64.wrap x=y)(hq:(y==v)=q)(hm:IntKind.u64.wrap (-v)=m)(w:World):
  QR 353 #[.agg #[Z .i32 (-2147483648),Z .i32 2147483647],Y v] w (X #[J 1,Y m,O q]):=by
 have HT:KW 355 #[J 1,Y v] (Y m):=λw=>h_ v m hm w;go_enter func353,ntmps353;exact PU
def Xm(v x y:Int)(q:Bool)(hx:IntKind.i32.wrap v=x)(c:0<=x)(hy:IntKind.u64.wrap x=y)(hq:(y==v)=q)(w:World):
  QR 353 #[.agg #[Z .i32 (-2147483648),Z .i32 2147483647],Y v] w (X #[J 0,Y v,O q]):=by
 have HT:lg 0 v:=λw=>fM v w;go_enter func353,ntmps353;exact PU
def Xl(v x y m:Int)(q:Bool)(hx:IntKind.i64.wrap v=x)(c:x<0)(hy:IntKind.u64.wrap x=y)(hq:(y==v)=q)(hm:IntKind.u64.wrap (-v)=m)(w:World):
  QR 356 #[jI (-9223372036854775808) 9223372036854775807,Y v] w (X #[J 1,Y m,O q]):=by
 have HT:KW 355 #[J 1,Y v] (Y m):=λw=>h_ v m hm w;go_enter func356,ntmps356;exact PU
def Xk(v x y:Int)(q:Bool)(hx:IntKind.i64.wrap v=x)(c:0<=x)(hy:IntKind.u64.wrap x=y)(hq:(y==v)=q)(w:World):
  QR 356 #[jI (-9223372036854775808) 9223372036854775807,Y v] w (X #[J 0,Y v,O q]):=by
 have HT:lg 0 v:=λw=>fM v w;go_enter func356,ntmps356;exact PU
def Xj(v x y:Int)(q:Bool)(hx:IntKind.u32.wrap v=x)(c:0<=x)(hy:IntKind.u64.wrap x=y)(hq:(y==v)=q)(w:World):
  QR 358 #[.agg #[Z .u32 0,Z .u32 4294967295],Y v] w (X #[J 0,Y v,O q]):=by
 have HT:lg 0 v:=λw=>fM v w;go_enter func358,ntmps358;exact PU
def Xi(v:Int)(c:0<=v)(hv:IntKind.u64.wrap v=v)(w:World):
  QR 360 #[aN 0 18446744073709551615,Y v] w (X #[J 0,Y v,O E]):=by
 have HT:lg 0 v:=λw=>fM v w;go_enter func360,ntmps360;exact PU
def aEN{P:Prop}(h:P:=by
 have HE:lg 0 9223372036854775807:=λw=>fM _ w;go_enter func357,ntmps357;exact AZ):P:=h
def aEO{P:Prop}(h:P:=by
 have HE:lg 0 18446744073709551615:=λw=>fM _ w;go_enter func361,ntmps361;exact AZ):P:=h
def aEP{P:Prop}(h:P:=by
 have HE:lg 1 0:=λw=>h_ _ _ (by decide+kernel) w;go_enter func361,ntmps361;exact AZ):P:=h
def aLB{P:Prop}(h:P:=by
 have HE:lg 1 0:=λw=>h_ _ _ (by decide+kernel) w;go_enter func359,ntmps359;exact AZ):P:=h
def aLC{P:Prop}(h:P:=by
 have HE:lg 1 9223372036854775808:=λw=>h_ _ _ (by decide+kernel) w;have u1:IntKind.u64.wrap (-9223372036854775808)=9223372036854775808:=by decide+kernel
 go_enter func357,ntmps357;exact AZ):P:=h
def aLD{P:Prop}(h:P:=by
 have HE:KW 355 #[J 1,Y 18446744071562067968] (Y 2147483648):=λw=>h_ _ _ (by decide+kernel) w;have u1:IntKind.u64.wrap (-2147483648)=18446744071562067968:=by decide+kernel
 go_enter func354,ntmps354;exact AZ):P:=h
def Gu{P:Prop}(h:P:=by
 go_wp2;go_quiet (first|(go_at_call 355;refine Calls.quiet_of_same ((HE _).mono (λe w' h=>⟨h.1,h.2.symm⟩))));all_goals go_wp2_with (go_at_call 355;with_reducible refine kw (HL.out _) ?_)
 all_goals go_returns
 all_goals exact⟨rfl,Xd Gr.g⟩):P:=h
def AZ{P:Prop}(h:P:=by
 go_wp2;go_quiet (first|(go_at_call 355;refine Calls.quiet_of_same ((HE _).mono (λe w' h=>⟨h.1,h.2.symm⟩))));all_goals go_wp2<;>go_returns
 all_goals exact⟨rfl,Xd Gr.g⟩):P:=h
def Xd(h:Gr W w):Gr W (w.drewN n):=by
 obtain⟨⟨⟨a1,a2,a3⟩,b,c⟩,d⟩:=h;exact⟨⟨⟨a1,a2,a3⟩,b,c⟩,below_drewN d n⟩
attribute [local go_sem] undef in
def OY(hi lo:Int)(c:(hi != 0)=E)(w:World):
  QR 354 #[.agg #[Z .i32 (-2147483648),Z .i32 2147483647],J 0,aN hi lo] w (X #[Y 2147483647,O V]):=by
 have HE:lg 0 2147483647:=λw=>fM _ w;go_enter func354,ntmps354;exact AZ
attribute [local go_sem] undef in
def OZ(hi lo:Int)(c:hi=0)(c2:decide (2147483647<lo)=E)(w:World):
  QR 354 #[.agg #[Z .i32 (-2147483648),Z .i32 2147483647],J 0,aN hi lo] w (X #[Y 2147483647,O V]):=by
 subst c;have HE:lg 0 2147483647:=λw=>fM _ w;go_enter func354,ntmps354;exact AZ
attribute [local go_sem] undef in
def Ru(hi lo:Int)(c:hi=0)(c2:decide (2147483647<lo)=V)(w:World):
  QR 354 #[.agg #[Z .i32 (-2147483648),Z .i32 2147483647],J 0,aN hi lo] w (X #[Y lo,O E]):=by
 subst c;have HE:lg 0 2147483647:=λw=>fM _ w;have HL:lg 0 lo:=λw=>fM _ w;go_enter func354,ntmps354;exact Gu
attribute [local go_sem] undef in
def OW(hi lo:Int)(c:(hi != 0)=E)(w:World):
  QR 354 #[.agg #[Z .i32 (-2147483648),Z .i32 2147483647],J 1,aN hi lo] w (X #[Y 18446744071562067968,O V]):=by
 exact aLD
attribute [local go_sem] undef in
def OX(hi lo:Int)(c:hi=0)(c2:decide (2147483648<lo)=E)(w:World):
  QR 354 #[.agg #[Z .i32 (-2147483648),Z .i32 2147483647],J 1,aN hi lo] w (X #[Y 18446744071562067968,O V]):=by
 subst c;exact aLD
attribute [local go_sem] undef in
def Rq(hi lo r:Int)(c:hi=0)(c2:decide (2147483648<lo)=V)(hr:IntKind.u64.wrap (-lo)=r)(w:World):
  QR 354 #[.agg #[Z .i32 (-2147483648),Z .i32 2147483647],J 1,aN hi lo] w (X #[Y r,O E]):=by
 subst c;have HE:KW 355 #[J 1,Y 18446744071562067968] (Y 2147483648):=λw=>h_ _ _ (by decide+kernel) w;have HL:KW 355 #[J 1,Y lo] (Y r):=λw=>h_ _ _ hr w;have u1:IntKind.u64.wrap (-2147483648)=18446744071562067968:=by decide+kernel
 go_enter func354,ntmps354;exact Gu
attribute [local go_sem] undef in
def OU(hi lo:Int)(c:(hi != 0)=E)(w:World):
  QR 357 #[jI (-9223372036854775808) 9223372036854775807,J 0,aN hi lo] w (X #[Y 9223372036854775807,O V]):=by
 exact aEN
attribute [local go_sem] undef in
def OV(hi lo:Int)(c:hi=0)(c2:decide (9223372036854775807<lo)=E)(w:World):
  QR 357 #[jI (-9223372036854775808) 9223372036854775807,J 0,aN hi lo] w (X #[Y 9223372036854775807,O V]):=by
 subst c;exact aEN
attribute [local go_sem] undef in
def Rl(hi lo:Int)(c:hi=0)(c2:decide (9223372036854775807<lo)=V)(w:World):
  QR 357 #[jI (-9223372036854775808) 9223372036854775807,J 0,aN hi lo] w (X #[Y lo,O E]):=by
 subst c;have HE:lg 0 9223372036854775807:=λw=>fM _ w;have HL:lg 0 lo:=λw=>fM _ w;go_enter func357,ntmps357;exact Gu
attribute [local go_sem] undef in
def OQ(hi lo:Int)(c:(hi != 0)=E)(w:World):
  QR 357 #[jI (-9223372036854775808) 9223372036854775807,J 1,aN hi lo] w (X #[Y 9223372036854775808,O V]):=by
 exact aLC
attribute [local go_sem] undef in
def OT(hi lo:Int)(c:hi=0)(c2:decide (9223372036854775808<lo)=E)(w:World):
  QR 357 #[jI (-9223372036854775808) 9223372036854775807,J 1,aN hi lo] w (X #[Y 9223372036854775808,O V]):=by
 subst c;exact aLC
attribute [local go_sem] undef in
def Rk(hi lo r:Int)(c:hi=0)(c2:decide (9223372036854775808<lo)=V)(hr:IntKind.u64.wrap (-lo)=r)(w:World):
  QR 357 #[jI (-9223372036854775808) 9223372036854775807,J 1,aN hi lo] w (X #[Y r,O E]):=by
 subst c;have HE:lg 1 9223372036854775808:=λw=>h_ _ _ (by decide+kernel) w;have HL:KW 355 #[J 1,Y lo] (Y r):=λw=>h_ _ _ hr w;have u1:IntKind.u64.wrap (-9223372036854775808)=9223372036854775808:=by decide+kernel
 go_enter func357,ntmps357;exact Gu
attribute [local go_sem] undef in
def OM(hi lo:Int)(c:(hi != 0)=E)(w:World):
  QJ 0 4294967295 0 hi lo w 4294967295 V:=by
 have HE:lg 0 4294967295:=λw=>fM _ w;go_enter func359,ntmps359;exact AZ
attribute [local go_sem] undef in
def OO(hi lo:Int)(c:hi=0)(c2:decide (4294967295<lo)=E)(w:World):
  QJ 0 4294967295 0 hi lo w 4294967295 V:=by
 subst c;have HE:lg 0 4294967295:=λw=>fM _ w;go_enter func359,ntmps359;exact AZ
attribute [local go_sem] undef in
def Ri(hi lo:Int)(c:hi=0)(c2:decide (4294967295<lo)=V)(w:World):
  QJ 0 4294967295 0 hi lo w lo E:=by
 subst c;have HE:lg 0 4294967295:=λw=>fM _ w;have HL:lg 0 lo:=λw=>fM _ w;go_enter func359,ntmps359;exact Gu
attribute [local go_sem] undef in
def OJ(hi lo:Int)(c:(hi != 0)=E)(w:World):
  QJ 0 4294967295 1 hi lo w 0 V:=by
 exact aLB
attribute [local go_sem] undef in
def OL(hi lo:Int)(c:hi=0)(c2:decide (0<lo)=E)(w:World):
  QJ 0 4294967295 1 hi lo w 0 V:=by
 subst c;exact aLB
attribute [local go_sem] undef in
def Rh(hi lo r:Int)(c:hi=0)(c2:decide (0<lo)=V)(hr:IntKind.u64.wrap (-lo)=r)(w:World):
  QJ 0 4294967295 1 hi lo w r E:=by
 subst c;have HE:lg 1 0:=λw=>h_ _ _ (by decide+kernel) w;have HL:KW 355 #[J 1,Y lo] (Y r):=λw=>h_ _ _ hr w;go_enter func359,ntmps359;exact Gu
attribute [local go_sem] undef in
def OH(hi lo:Int)(c:(hi != 0)=E)(w:World):
  QI 0 18446744073709551615 0 hi lo w 18446744073709551615 V:=by
 exact aEO
attribute [local go_sem] undef in
def OI(hi lo:Int)(c:hi=0)(c2:decide (18446744073709551615<lo)=E)(w:World):
  QI 0 18446744073709551615 0 hi lo w 18446744073709551615 V:=by
 subst c;exact aEO
attribute [local go_sem] undef in
def Q_(hi lo:Int)(c:hi=0)(c2:decide (18446744073709551615<lo)=V)(w:World):
  QI 0 18446744073709551615 0 hi lo w lo E:=by
 subst c;have HE:lg 0 18446744073709551615:=λw=>fM _ w;have HL:lg 0 lo:=λw=>fM _ w;go_enter func361,ntmps361;exact Gu
attribute [local go_sem] undef in
def OE(hi lo:Int)(c:(hi != 0)=E)(w:World):
  QI 0 18446744073709551615 1 hi lo w 0 V:=by
 exact aEP
attribute [local go_sem] undef in
def OG(hi lo:Int)(c:hi=0)(c2:decide (0<lo)=E)(w:World):
  QI 0 18446744073709551615 1 hi lo w 0 V:=by
 subst c;exact aEP
attribute [local go_sem] undef in
def Q9(hi lo r:Int)(c:hi=0)(c2:decide (0<lo)=V)(hr:IntKind.u64.wrap (-lo)=r)(w:World):
  QI 0 18446744073709551615 1 hi lo w r E:=by
 subst c;have HE:lg 1 0:=λw=>h_ _ _ (by decide+kernel) w;have HL:KW 355 #[J 1,Y lo] (Y r):=λw=>h_ _ _ hr w;go_enter func361,ntmps361;exact Gu
def g_(s:ByteArray)(i:Nat):Int:=if h:i<s.size then(s[i].toNat :Int)else 0
def xQ(s:ByteArray)(i:Nat):0<=g_ s i/\g_ s i<=255:=by
 unfold g_;split
 .have:=(s[i]).toNat_lt;omega
 .omega
def jO(s:ByteArray)(i:Nat)(h:i<s.size)(w:World):(Instr.index 9 (.string s) (J i)).run Tryz.prog w=.ok (Z .u8 (g_ s i)) w:=by
 rw[run_index_string w 9 s .i64 i Tryz.underlying9,dif_pos ⟨om,om⟩];unfold g_;rw[dif_pos h];rfl
def num(s:ByteArray)(p:Nat):Nat->Int
 |0=>0
 |k+1=>g_ s p+256*num s (p+1) k
def Zo(s:ByteArray)(k:Nat):∀p,0<=num s p k/\num s p k<256^k:=by
 induction k with
 |zero=>intro p;exact⟨Int.le_refl _,by unfold num;decide⟩
 |succ k ih=>
  intro p;have a:=ih (p+1);have b:=xQ s p;show 0<=g_ s p+256*num s (p+1) k/\g_ s p+256*num s (p+1) k<256^(k+1);rw[Int.pow_succ];omega
def aI3(s:ByteArray)(k:Nat):∀p,num s p (k+1)=num s p k+256^k*g_ s (p+k):=by
 induction k with
 |zero=>intro p;simp[num]
 |succ k ih=>
  intro p;show g_ s p+256*num s (p+1) (k+1)=g_ s p+256*num s (p+1) k+256^(k+1)*g_ s (p+(k+1));rw[ih (p+1),Int.pow_succ,(om:p+1+k=p+(k+1)),Int.mul_add];have:256*(256^k*g_ s (p+(k+1)))=256^k*256*g_ s (p+(k+1)):=by rw[<-Int.mul_assoc,Int.mul_comm 256]
  omega
def Qa(s:ByteArray)(p:Nat):0<=num s p 8/\num s p 8<18446744073709551616:=Zo s 8 p
def aHc(s:ByteArray)(p:Nat)(h:p+8<=s.size)(hs:s.size<=1048576)(w:World):
  QW 129 #[.string s,J p] w (Y (num s p 8)):=by
 go_enter func129,ntmps129;go_wp2;go_loop [5,6] (λv i=>∃k:Nat,k<=8/\v=Y (num s (p+k) (8-k))/\i=J ((k:Int)-1)) (λ_ i=>(intOf i+1).toNat)
 case atStart=>exact⟨8,om,rfl,rfl⟩
 case round=>
  obtain⟨k,hk,rfl,rfl⟩:=hrel;by_cases h0:0<=(k:Int)-1
  .obtain⟨j,rfl⟩:∃j,k=j+1:=⟨k-1,om⟩;have q:=jO s (p+j) om w;have hb:=xQ s (p+j);have hn:=Zo s (8-(j+1)) (p+(j+1));have hm:num s (p+(j+1)) (8-(j+1))<72057594037927936:=Int.lt_of_lt_of_le hn.2 (by
    have:=Nat.pow_le_pow_right (show 0<256 by decide) (om:8-(j+1)<=7);have e:((256^(8-(j+1)):Nat):Int)=(256:Int)^(8-(j+1)):=Int.natCast_pow _ _;omega)
   have HS:Hid (num s (p+j) (8-j)=num s (p+(j+1)) (8-(j+1))*256+g_ s (p+j)):=by
    show _=_;rw[(om:8-j=8-(j+1)+1)];show g_ s (p+j)+256*num s (p+j+1) (8-(j+1))=_;rw[(om:p+j+1=p+(j+1))];omega
   have e1:((p+j:Nat):Int)=(p:Int)+j:=om;have e2:((j+1:Nat):Int)-1=j:=om;rw[e2];rw[e1]at q;have Nu:=hn.1;clear hn e1 e2;generalize num s (p+(j+1)) (8-(j+1))=v at*
   generalize g_ s (p+j)=b at*
   go_wp2;go_round
   case rel=>exact⟨j,om,by rw[HS.out],by go_num⟩
   case measure=>first|(simp[intOf];done)|(simp[intOf];omega)
  .obtain rfl:k=0:=om;go_wp2;go_returns;exact⟨rfl,rfl⟩
def aIY(v b:Int)(k:Nat)(hk:k<8)(v0:0<=v)(v1:v<256^k)(b0:0<=b)(b1:b<=255):bits .or .u64 v (b*256^k)=v+256^k*b/\b*256^k<18446744073709551616/\v+256^k*b<18446744073709551616:=by
 obtain⟨x,rfl⟩:=Int.eq_ofNat_of_zero_le v0;obtain⟨y,rfl⟩:=Int.eq_ofNat_of_zero_le b0;have e:((2^(8*k):Nat):Int)=(256:Int)^k:=by rw[Nat.pow_mul];exact Int.natCast_pow _ _
 rw[<-e]at v1⊢
 have hx:x<2^(8*k):=om;have hy:y<2^8:=om;have hp:2^(8*k)*2^8<=2^64:=by rw[<-Nat.pow_add];exact Nat.pow_le_pow_right de om
 have h1:2^(8*k)*y+x<2^(8*k)*2^8:=by
  have:2^(8*k)*(y+1)<=2^(8*k)*2^8:=Nat.mul_le_mul_left _ om;rw[Nat.mul_add]at this;omega
 have h2:x|||y*2^(8*k)=2^(8*k)*y+x:=by
  rw[Nat.mul_comm y,Nat.or_comm,Nat.two_pow_add_eq_or_of_lt hx]
 have h3:=bits_or_u64_nat x (y*2^(8*k)) om (by rw[Nat.mul_comm];omega);rw[h2]at h3;have h4:((y*2^(8*k):Nat):Int)=(y:Int)*((2^(8*k):Nat):Int):=by rw[Int.natCast_mul]
 have h5:((2^(8*k)*y+x:Nat):Int)=(x:Int)+((2^(8*k):Nat):Int)*(y:Int):=by rw[Int.natCast_add,Int.natCast_mul];omega
 rw[h4,h5]at h3;refine⟨h3,?_,?_⟩
 .rw[<-h4];rw[Nat.mul_comm];omega
 .rw[<-h5];omega
def aHd(s:ByteArray)(h:8<=s.size)(hs:s.size<=1048576)(w:World):
  QW 274 #[.string s] w (Y (num s 0 8)):=by
 go_enter func274,ntmps274;go_wp2;go_loop [3,5] (λv i=>∃k:Nat,k<=8/\v=Y (num s 0 k)/\i=J k) (λ_ i=>8-(intOf i).toNat)
 case atStart=>exact⟨0,om,rfl,rfl⟩
 case round=>
  obtain⟨k,hk,rfl,rfl⟩:=hrel;by_cases h0:(k:Int)<8
  .have q:=jO s k om w;have hb:=xQ s k;have hn:=Zo s k 0;obtain⟨o1,o2,o3⟩:=aIY (num s 0 k) (g_ s k) k om hn.1 hn.2 hb.1 hb.2;have HS:Hid (num s 0 (k+1)=num s 0 k+256^k*g_ s k):=by show _=_;rw[aI3,Nat.zero_add]
   have Nu:=hn.1;have HW:Hid (IntKind.u64.wrap (g_ s k*2^(8*k))=g_ s k*256^k):=by
    show _=_;have e:(2:Int)^(8*k)=256^k:=by rw[Int.pow_mul];rfl
    have hp:(0:Int)<=g_ s k*256^k:=Int.mul_nonneg hb.1 (Int.pow_nonneg de);rw[e,IntKind.wrap_u64];exact Int.emod_eq_of_lt hp o2
   clear hn;generalize num s 0 k=v at*
   generalize g_ s k=b at*
   go_wp2;go_round
   case rel=>exact⟨k+1,om,by rw[HS.out,<-o1,HW.out],by go_num⟩
   case measure=>first|(simp[intOf];done)|(simp[intOf];omega)
  .obtain rfl:k=8:=om;go_wp2;go_returns;exact⟨rfl,rfl⟩
def Zu(p mn mx md:Int)(k:Nat)(sx ex cx xh xl sy ey cy yh yl d:Int)(tx ty:Bool)(hd:decide (d<=0)=E)
  (HO:XY sx ex cx xh xl tx 0 sy ey cy yh yl ty d) (w:World):
  QR 97 #[dN p mn mx md k,aU sx ex cx xh xl tx 0,aU sy ey cy yh yl ty 0] w (aU sx ex cx xh xl tx 0):=by
 go_enter func97,ntmps97;go_wp2_with (go_at_call 190;refine ku (HO _) λw1 ak=>?_;have:=ak.C71 w;have gG:=ak.nY w);exact bW (by simp[results,Tryz.results97,go_sem,gG])
def Zt(p mn mx md:Int)(k:Nat)(sx ex cx xh xl sy ey cy yh yl d:Int)(tx ty:Bool)(hd:decide (d<=0)=V)
  (HO:XY sx ex cx xh xl tx 0 sy ey cy yh yl ty d) (w:World):
  QR 97 #[dN p mn mx md k,aU sx ex cx xh xl tx 0,aU sy ey cy yh yl ty 0] w (aU sy ey cy yh yl ty 0):=by
 go_enter func97,ntmps97;go_wp2_with (go_at_call 190;refine ku (HO _) λw1 ak=>?_;have:=ak.C72 w;have gG:=ak.nY w);exact bW (by simp[results,Tryz.results97,go_sem,gG])
def Xc(p mn mx md:Int)(k:Nat)(sx ex cx xh xl sy ey cy yh yl d:Int)(tx ty:Bool)(hd:decide (0<=d)=E)
  (HO:XY sx ex cx xh xl tx 0 sy ey cy yh yl ty d) (w:World):
  QR 98 #[dN p mn mx md k,aU sx ex cx xh xl tx 0,aU sy ey cy yh yl ty 0] w (aU sx ex cx xh xl tx 0):=by
 go_enter func98,ntmps98;go_wp2_with (go_at_call 190;refine ku (HO _) λw1 ak=>?_;have:=ak.C71 w;have gG:=ak.nY w);exact bW (by simp[results,Tryz.results98,go_sem,gG])
def Xb(p mn mx md:Int)(k:Nat)(sx ex cx xh xl sy ey cy yh yl d:Int)(tx ty:Bool)(hd:decide (0<=d)=V)
  (HO:XY sx ex cx xh xl tx 0 sy ey cy yh yl ty d) (w:World):
  QR 98 #[dN p mn mx md k,aU sx ex cx xh xl tx 0,aU sy ey cy yh yl ty 0] w (aU sy ey cy yh yl ty 0):=by
 go_enter func98,ntmps98;go_wp2_with (go_at_call 190;refine ku (HO _) λw1 ak=>?_;have:=ak.C72 w;have gG:=ak.nY w);exact bW (by simp[results,Tryz.results98,go_sem,gG])
