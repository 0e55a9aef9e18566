import Derived.Test.YthoelefkjpjhfaaGreatDoorPm
import Derived.Deep.RegionHeld3
import Derived.Deep.DeepCutAuto
import Derived.BigQuiet
import Derived.Deep.QuietTactic
import Derived.WalkSmall
import Derived.Laws.Bits64b
set_option linter.all false
set_option maxRecDepth 1000000
set_option maxHeartbeats 40000000
open Bool renaming false → V, true → E
open Go.Proofs.YthoelefkjpjhfaaGreatDoor renaming vI → J, vU → Y
open Go.Value renaming int → Z, bool → O, tuple → X
open Go.Proofs.Tryz
namespace Go.Proofs.YthoelefkjpjhfaaGreatDoor
open Go.RowKit
attribute [local go_sem] aB
variable {n N b cap M n' N' b' cap':Nat}{w W:ak}{v v2:Value}
def sQ(w:ak)(N:Nat):Own (w.alloc (.cells #[] 155)) w.heap.size (aF w.heap.size 0 0) 0 N:=by
 refine⟨?_,by simp⟩;have:=MZ (base:=w.heap.size) (e:=155) (size:=1) w #[] 0 (dJ _) (fV _) rfl
 simpa[aFr]using this
def aEJ(z r:Nat)(hr:r<32)(hz:z<=1000000)(hn:n<=1000000)(jZ:0<n)(hN:N<4294967296^n)
  (aW:∀j,j<n->aB w b j (Z .u32 (dg N j:Int))) (l7:n<=cap) (s:Nat) (hs:s=32*z+r) (hM:M=N*2^(32*z+r)):
  CT 150 #[aF b n cap,J s] w λe w'=>∃v' k,e=.returned v'/\Big w' v' k M/\k<=n+z+1/\Gb w w':=by
 have HC:Hid _:=aW;have HN:Hid _:=hN;have HM:Hid _:=hM;have hq:(s:Int)/32=(z:Int):=om;have hm:(s:Int)%32=(r:Int):=om;have GL:s<=100000000:=om;have HS:Hid _:=hs;have n0:((n:Int)==0)=V:=jA;clear aW hN hs hM;go_enter func150,ntmps150;go_wp2;go_loopw [5,6] (λv i wr=>∃k:Nat,k<=z/\i=J k/\Own wr w.heap.size v k M/\Gb w wr) (λ_ i _=>z-(intOf i).toNat)
 case atStart=>exact⟨0,fV _,rfl,sQ w _,(Gb.refl w).alloc _⟩
 case round=>
  obtain⟨k,hk,rfl,iG,dQ⟩:=hrel;by_cases fJ:k<z
  .have iV:(k:Int)<(z:Int):=om;have hd:((dg M k:Nat):Int)=0:=by rw[HM.out,aJM N r z k fJ];rfl
   have HD:Hid _:=hd;have qY:=dQ.size;have HO:Hid _:=iG;have HG:Hid _:=dQ;clear hd iG dQ;go_wp2_with (at_builtin;refine fU rfl _ _ rfl w.heap.size k M _ wr.heap.size rfl (Own.alloc HO.out _) rfl (by rw[HD.out];simp[go_sem]) om (by simp[go_sem];omega) ?_;intro v' w1 jm iF);go_roundw
   case rel=>exact⟨k+1,om,jS,jm,Gb.below (Gb.alloc HG.out _) iF (dJ _)⟩
   case measure=>exact qL
  .obtain rfl:k=z:=om;go_wp2;go_loopw [5,7,8] (λv c i wr'=>∃i' c':Nat,i'<=n/\i=J i'/\c=Y c'/\Hid (c'=N%4294967296^i'*2^r/4294967296^i')/\Own wr' w.heap.size v (k+i') M/\Gb w wr') (λ_ _ i _=>n-(intOf i).toNat)
   case atStart=>exact⟨0,0,fV _,rfl,rfl,by show _=_;simp[Nat.mod_one],iG,dQ⟩
   case round=>
    obtain⟨i,c,hi,rfl,rfl,HCy,aNn,Ir⟩:=hrel;have YI:=Ur N r i hr;rw[<-HCy.out]at YI;have qY:=Ir.size;have HO:Hid _:=aNn;have HG:Hid _:=Ir;clear aNn Ir;by_cases hin:i<n
    .have aRp:(i:Int)<(n:Int):=om;have hc:aB wr b i (Z .u32 (dg N i:Int)):=Gb.old HG.out (HC i hin);obtain⟨e1,e2⟩:=aDr N r i c HCy.out;have hdl:=l9 N i;obtain⟨b1,b2⟩:=aDo (dg N i) r c hdl hr YI;have hdm:dg M (k+i)=(dg N i*2^r+c)%4294967296:=by rw[HM.out,aGq,e1]
     obtain⟨y,hy⟩:=x_n (dg N i*2^r);have Qu:IntKind.u64.wrap ((dg N i:Int)*2^r)=(y:Int):=by
      have e:(dg N i:Int)*2^r=(y:Int):=by rw[hy];push_cast;rfl
      rw[e,iT];omega
     rw[<-hy]at b1 b2 hdm e2;have DV:Hid ((((y:Int)+(c:Int))%4294967296)=(dg M (k+i):Int)):=by show _=_;rw[hdm];omega
     have HE2:Hid _:=e2;clear hy e1 e2 hdm;generalize dg N i=t at*
     go_wp2_with (at_builtin;refine fU rfl _ _ rfl w.heap.size (k+i) M _ wr.heap.size rfl (Own.alloc HO.out _) rfl (by rw[<-DV.out];simp[go_sem]) om (by simp[go_sem];omega) ?_;intro v' w1 jm iF);go_roundw
     case rel=>exact⟨i+1,(y+c)/4294967296,om,jS,jS,by show _=_;rw[HE2.out],jm,Gb.below (Gb.alloc HG.out _) iF (dJ _)⟩
     case measure=>exact qL
    .obtain rfl:i=n:=om;obtain⟨f1,f2⟩:=aJN N r k i HN.out hr;have DV:Hid ((c:Int)=(dg M (k+i):Int)):=by show _=_;rw[HM.out,f1,<-HCy.out]
     have HF2:Hid (M<4294967296^(k+i+1)):=by show _<_;rw[HM.out];exact f2
     clear f1 f2;go_wp2_with (first|(at_builtin;refine fU rfl _ _ rfl w.heap.size (k+i) M _ wr.heap.size rfl (Own.alloc HO.out _) rfl (by rw[<-DV.out];simp[go_sem]) om (by simp[go_sem];omega) ?_;intro v' w1 jm iF)|(go_at_call 220;refine(o9 (Own.raw jm HF2.out) om).mono ?_;rintro e w' ⟨v'',k',rfl,hw,oz,EI⟩;subst hw))
     go_returns;exact⟨_,_,rfl,oz,om,Gb.below (Gb.alloc HG.out _) iF (dJ _)⟩
def iM(h:Big w v n N)(hn:n<=1000000)(s:Nat)(hs:s<=10000000):
  CT 150 #[v,J s] w λe w'=>∃v' k,e=.returned v'/\Big w' v' k (N*2^s)/\k<=n+s/32+1/\Gb w w':=by
 obtain⟨xk,hN,b,cap,rfl,l7,Dz,aW⟩:=h;rcases jL n with rfl|jZ
 .have e:N*2^s=N:=by rw[xk.zero];simp
  rw[e];have HB:Hid (Big w (aF b 0 cap) 0 N):=⟨xk,hN,b,cap,rfl,l7,Dz,aW⟩;clear aW xk hN e;go_enter func150,ntmps150;go_wp2;go_returns;exact⟨_,_,rfl,HB.out,om,Gb.refl w⟩
 .have e:32*(s/32)+s%32=s:=om;refine(aEJ (M:=N*2^s) (s/32) (s%32) om om hn jZ hN aW l7 s om (by rw[e])).mono ?_;exact λ_ _ h=>h
def aNc{P:Prop}(h:P:=by
 go_wp2_with (at_builtin;go_loud (refine fU rfl _ _ rfl w.heap.size k M _ wr.heap.size rfl (Own.alloc HO.out _) rfl (by rw[<-DV.out];simp[go_sem]) om (by simp[go_sem];omega) ?_;intro v' w1 jm iF));go_roundw
 case rel=>exact⟨k+1,j+1,by show _=_;have:=HJ.out;omega,.inr om,om,HJN.out,jS,jm,Gb.below (Gb.alloc HG.out _) iF (dJ _)⟩
 case measure=>simp[intOf]<;>omega):P:=h
def Xi(x r:Nat):((x/2^r%4294967296:Nat):Int)=(x:Int)/2^r%4294967296:=by
 rw[Int.natCast_emod,Int.natCast_ediv,FH];rfl
def aBb(z r:Nat)(hr:r<32)(hz:z<=1000000)(hn:n<=1000000)(hN:N<4294967296^n)
  (aW:∀j,j<n->aB w b j (Z .u32 (dg N j:Int))) (l7:n<=cap) (s:Nat) (hs:s=32*z+r) (hM:M=N/2^(32*z+r)):
  CT 282 #[aF b n cap,J s] w λe w'=>∃v' k,e=.returned v'/\Big w' v' k M/\k<=n/\Gb w w':=by
 have HC:Hid _:=aW;have HN:Hid _:=hN;have HM:Hid _:=hM;have hq:(s:Int)/32=(z:Int):=om;have hm:(s:Int)%32=(r:Int):=om;have GL:s<=100000000:=om;have HS:Hid _:=hs;clear aW hN hs hM;go_enter func282,ntmps282;go_wp2;go_loopw [5,6] (λv i wr=>∃k j:Nat,Hid (j=z+k)/\Hid (k=0\/j<=n)/\j<=2000000/\k<=1000000/\i=J j/\Own wr w.heap.size v k M/\Gb w wr) (λ_ i _=>n-(intOf i).toNat)
 case atStart=>exact⟨0,z,by show _=_;omega,.inl rfl,om,om,jS,sQ w _,(Gb.refl w).alloc _⟩
 case round=>
  obtain⟨k,j,HJ,HK,hj2,m_,rfl,iG,dQ⟩:=hrel;have qY:=dQ.size;have HO:Hid _:=iG;have HG:Hid _:=dQ;clear iG dQ;by_cases fJ:j<n
  .have iV:(j:Int)<(n:Int):=om;have hdM:dg M k=(dg N j+dg N (j+1)*4294967296)/2^r%4294967296:=by rw[HM.out,HJ.out];exact aNZ N r z k hr
   have hc:aB wr b j (Z .u32 (dg N j:Int)):=Gb.old HG.out (HC j fJ);have LZ:=l9 N j;have uT:=l9 N (j+1);have HJN:Hid (k+1<=1000000):=by show _<=_;have:=HJ.out;omega
   by_cases aE0:j+1<n
   .have aUZ:(j:Int)+1<(n:Int):=om;have zA:aB wr b (j+1) (Z .u32 (dg N (j+1):Int)):=Gb.old HG.out (HC (j+1) aE0);obtain⟨x,hx⟩:=x_n (dg N j+dg N (j+1)*4294967296);have hxi:(dg N j:Int)+(dg N (j+1):Int)*4294967296=(x:Int):=om;have aVV:aI x:=om;rw[<-hx]at hdM;have DV:Hid ((x:Int)/2^r%4294967296=(dg M k:Int)):=by show _=_;rw[hdM,Xi]
    clear hdM hx;generalize dg N j=t0 at*
    generalize dg N (j+1)=t1 at*
    exact aNc
   .have hnl:¬(j:Int)+1<(n:Int):=om;have jB:dg N (j+1)=0:=sV HN.out om;rw[jB]at hdM;simp only[Nat.zero_mul,Nat.add_zero]at hdM;have DV:Hid ((dg N j:Int)/2^r%4294967296=(dg M k:Int)):=by show _=_;rw[hdM,Xi]
    clear hdM jB uT;generalize dg N j=t0 at*
    exact aNc
  .have iV:¬(j:Int)<(n:Int):=om;have HL:Hid (M<4294967296^k/\k<=n):=by
    have hJ:=HJ.out;rcases HK.out with rfl|hk
    .have:=aGp N r z n HN.out om;refine⟨?_,om⟩;rw[HM.out,this];decide
    .have:=aNY N r z n HN.out om;refine⟨?_,om⟩;rw[HM.out,(om:k=n-z)];exact this
   go_wp2_with (go_at_call 220;refine(o9 (Own.raw HO.out HL.out.1) (by have:=HL.out.2;omega)).mono ?_;rintro e w' ⟨v'',k',rfl,hw,oz,EI⟩;subst hw);go_returns;exact⟨_,_,rfl,oz,by have:=HL.out.2;omega,HG.out⟩
def yO(h:Big w v n N)(hn:n<=1000000)(s:Nat)(hs:s<=10000000):
  CT 282 #[v,J s] w λe w'=>∃v' k,e=.returned v'/\Big w' v' k (N/2^s)/\k<=n/\Gb w w':=by
 obtain⟨xk,hN,b,cap,rfl,l7,Dz,aW⟩:=h;have e:32*(s/32)+s%32=s:=om;exact aBb (M:=N/2^s) (s/32) (s%32) om om hn hN aW l7 s om (by rw[e])
def aNa{P:Prop}(h:P:=by
 go_wp2_with (at_builtin;go_loud (refine fU rfl _ _ rfl w.heap.size k M _ wr.heap.size rfl (Own.alloc HO.out _) rfl (by rw[<-DV.out];simp[go_sem]) om (by simp[go_sem];omega) ?_;intro v' w1 jm iF));go_roundw
 case rel=>exact⟨k+1,0,om,jS,jS,by show _=_;rw[HE2.out],jm,Gb.below (Gb.alloc HG.out _) iF (dJ _)⟩
 case measure=>simp[intOf]<;>omega):P:=h
def aNb{P:Prop}(h:P:=by
 go_wp2_with (at_builtin;go_loud (refine fU rfl _ _ rfl w.heap.size k M _ wr.heap.size rfl (Own.alloc HO.out _) rfl (by rw[<-DV.out];simp[go_sem]) om (by simp[go_sem];omega) ?_;intro v' w1 jm iF));go_roundw
 case rel=>exact⟨k+1,1,om,jS,jS,by show _=_;rw[HE2.out],jm,Gb.below (Gb.alloc HG.out _) iF (dJ _)⟩
 case measure=>simp[intOf]<;>omega):P:=h
def aBa(hn:n<=1000000)(hN:N<4294967296^n)(EH:n'<=1000000)(BD:N'<4294967296^n')
  (aW:∀j,j<n->aB w b j (Z .u32 (dg N j:Int))) (l7:n<=cap) (iD:∀j,j<n'->aB w b' j (Z .u32 (dg N' j:Int))) (rD:n'<=cap') (uz:N'<=N) (hM:M=N-N'):
  CT 155 #[aF b n cap,aF b' n' cap'] w λe w'=>∃v' k,e=.returned v'/\Big w' v' k M/\k<=n/\Gb w w':=by
 have HC:Hid _:=aW;have HN:Hid _:=hN;have ZP:Hid _:=iD;have HN':Hid _:=BD;have HM:Hid _:=hM;have HL:Hid _:=uz;clear aW hN hM iD BD uz;go_enter func155,ntmps155;go_wp2;go_loopw [5,6,7] (λv c i wr=>∃k c':Nat,k<=n/\i=J k/\c=Y c'/\Hid (c'=ZO N N' k)/\Own wr w.heap.size v k M/\Gb w wr) (λ_ _ i _=>n-(intOf i).toNat)
 case atStart=>exact⟨0,0,fV _,rfl,rfl,by show _=_;rw[Zg],sQ w _,(Gb.refl w).alloc _⟩
 case round=>
  obtain⟨k,c,hk,rfl,rfl,HCy,iG,dQ⟩:=hrel;have qY:=dQ.size;have HO:Hid _:=iG;have HG:Hid _:=dQ;clear iG dQ;by_cases hl:k<n
  .have hc:aB wr b k (Z .u32 (dg N k:Int)):=Gb.old HG.out (HC k hl);have qZ:(k:Int)<(n:Int):=om;have e1:=aGm N N' k HL.out;have e2:=Zh N N' k;have c1:=aBR N N' k;rw[<-HCy.out]at e1 e2 c1;rw[<-HM.out]at e1;have LZ:=l9 N k;have uT:=l9 N' k;have DI:=l9 M k;by_cases S_:k<n'
   .have EK:aB wr b' k (Z .u32 (dg N' k:Int)):=Gb.old HG.out (ZP k S_);have Pj:(k:Int)<(n':Int):=om;by_cases hb:dg N k<dg N' k+c
    .rw[aQ hb]at e1 e2;have DV:Hid ((dg N k:Int)+4294967296-((c:Int)+(dg N' k:Int))=(dg M k:Int)):=by show _=_;omega
     have HE2:Hid _:=e2;have iF:(dg N k:Int)<(c:Int)+(dg N' k:Int):=om;have mY:(dg N k:Int)+4294967296-((c:Int)+(dg N' k:Int))<4294967296:=om;clear e1 e2 DI;generalize dg N k=t at*
     generalize dg N' k=t' at*
     exact aNb
    .rw[aH hb]at e1 e2;have DV:Hid ((dg N k:Int)-((c:Int)+(dg N' k:Int))=(dg M k:Int)):=by show _=_;omega
     have HE2:Hid _:=e2;have iF:¬(dg N k:Int)<(c:Int)+(dg N' k:Int):=om;have mY:(dg N k:Int)-((c:Int)+(dg N' k:Int))<4294967296:=om;clear e1 e2 DI;generalize dg N k=t at*
     generalize dg N' k=t' at*
     exact aNa
   .have Pj:¬(k:Int)<(n':Int):=om;have hz:dg N' k=0:=sV HN'.out om;rw[hz]at e1 e2;by_cases hb:dg N k<0+c
    .rw[aQ hb]at e1 e2;have DV:Hid ((dg N k:Int)+4294967296-(c:Int)=(dg M k:Int)):=by show _=_;omega
     have HE2:Hid _:=e2;have iF:(dg N k:Int)<(c:Int):=om;have mY:(dg N k:Int)+4294967296-(c:Int)<4294967296:=om;clear e1 e2 DI hz uT hb;generalize dg N k=t at*
     exact aNb
    .rw[aH hb]at e1 e2;have DV:Hid ((dg N k:Int)-(c:Int)=(dg M k:Int)):=by show _=_;omega
     have HE2:Hid _:=e2;have iF:¬(dg N k:Int)<(c:Int):=om;have mY:(dg N k:Int)-(c:Int)<4294967296:=om;clear e1 e2 DI hz uT hb;generalize dg N k=t at*
     exact aNa
  .have qZ:¬(k:Int)<(n:Int):=om;have HF:Hid (M<4294967296^k):=by
    have h1:=HN.out;show _<_;rw[HM.out,(om:k=n)];omega
   go_wp2_with (go_at_call 220;refine(o9 (Own.raw HO.out HF.out) om).mono ?_;rintro e w' ⟨v'',k',rfl,hw,oz,EI⟩;subst hw);go_returns;exact⟨_,_,rfl,oz,om,HG.out⟩
def pJ(h:Big w v n N)(hn:n<=1000000)(h':Big w v2 n' N')(EH:n'<=1000000)(uz:N'<=N):
  CT 155 #[v,v2] w λe w'=>∃v' k,e=.returned v'/\Big w' v' k (N-N')/\k<=n/\Gb w w':=by
 obtain⟨xk,hN,b,cap,rfl,l7,Dz,aW⟩:=h;obtain⟨YC,BD,b',cap',rfl,rD,Vp,iD⟩:=h';exact aBa hn hN EH BD aW l7 iD rD uz rfl
def aBo(hn:n<=1000000)(hN:N<4294967296^n)(EH:n'<=1000000)(BD:N'<4294967296^n')
  (aW:∀j,j<n->aB w b j (Z .u32 (dg N j:Int))) (l7:n<=cap) (iD:∀j,j<n'->aB w b' j (Z .u32 (dg N' j:Int))) (rD:n'<=cap') (hM:M=N+N'):
  CT 227 #[aF b n cap,aF b' n' cap'] w λe w'=>∃v' k,e=.returned v'/\Big w' v' k M/\k<=n+n'+1/\Gb w w':=by
 have HC:Hid _:=aW;have HN:Hid _:=hN;have ZP:Hid _:=iD;have HN':Hid _:=BD;have HM:Hid _:=hM;clear aW hN hM iD BD;go_enter func227,ntmps227;go_wp2;go_loopw [5,6,7] (λv c i wr=>∃k c':Nat,(k<=n\/k<=n')/\i=J k/\c=Y c'/\Hid (c'=(N%4294967296^k+N'%4294967296^k)/4294967296^k)/\Own wr w.heap.size v k M/\Gb w wr) (λ_ _ i _=>n+n'-(intOf i).toNat)
 case atStart=>exact⟨0,0,.inl (fV _),rfl,rfl,by show _=_;simp[Nat.mod_one],sQ w _,(Gb.refl w).alloc _⟩
 case round=>
  obtain⟨k,c,hk,rfl,rfl,HCy,iG,dQ⟩:=hrel;have qY:=dQ.size;have HO:Hid _:=iG;have HG:Hid _:=dQ;clear iG dQ;obtain⟨e1,e2,c1⟩:=TF N N' k c HCy.out;have LZ:=l9 N k;have uT:=l9 N' k;have DV:Hid (((c:Int)+(dg N k:Int)+(dg N' k:Int))%4294967296=(dg M k:Int)):=by show _=_;rw[HM.out,e1];omega
  have HE2:Hid _:=e2;clear e1 e2;by_cases hl:k<n
  .have hc:aB wr b k (Z .u32 (dg N k:Int)):=Gb.old HG.out (HC k hl);have qZ:(k:Int)<(n:Int):=om;by_cases S_:k<n'
   .have EK:aB wr b' k (Z .u32 (dg N' k:Int)):=Gb.old HG.out (ZP k S_);have Pj:(k:Int)<(n':Int):=om;generalize dg N k=t at*
    generalize dg N' k=t' at*
    go_wp2_with (at_builtin;go_loud (refine fU rfl _ _ rfl w.heap.size k M _ wr.heap.size rfl (Own.alloc HO.out _) rfl (by rw[<-DV.out];simp[go_sem]) om (by simp[go_sem];omega) ?_;intro v' w1 jm iF));go_roundw
    case rel=>exact⟨k+1,(c+t+t')/4294967296,.inl om,jS,jS,by show _=_;rw[HE2.out],jm,Gb.below (Gb.alloc HG.out _) iF (dJ _)⟩
    case measure=>exact qL
   .have Pj:¬(k:Int)<(n':Int):=om;have hz:dg N' k=0:=sV HN'.out om;rw[hz]at HE2;have Qq:Hid (((c:Int)+(dg N k:Int))%4294967296=(dg M k:Int)):=by show _=_;rw[<-DV.out,hz];simp
    clear hz DV uT;generalize dg N k=t at*
    go_wp2_with (at_builtin;go_loud (refine fU rfl _ _ rfl w.heap.size k M _ wr.heap.size rfl (Own.alloc HO.out _) rfl (by rw[<-Qq.out];simp[go_sem]) om (by simp[go_sem];omega) ?_;intro v' w1 jm iF));go_roundw
    case rel=>exact⟨k+1,(c+t)/4294967296,.inl om,jS,jS,by show _=_;rw[HE2.out];rfl,jm,Gb.below (Gb.alloc HG.out _) iF (dJ _)⟩
    case measure=>exact qL
  .have qZ:¬(k:Int)<(n:Int):=om;have hz:dg N k=0:=sV HN.out om;by_cases S_:k<n'
   .have EK:aB wr b' k (Z .u32 (dg N' k:Int)):=Gb.old HG.out (ZP k S_);have Pj:(k:Int)<(n':Int):=om;rw[hz]at HE2;have Qq:Hid (((c:Int)+(dg N' k:Int))%4294967296=(dg M k:Int)):=by show _=_;rw[<-DV.out,hz];simp
    clear hz DV LZ;generalize dg N' k=t at*
    go_wp2_with (at_builtin;go_loud (refine fU rfl _ _ rfl w.heap.size k M _ wr.heap.size rfl (Own.alloc HO.out _) rfl (by rw[<-Qq.out];simp[go_sem]) om (by simp[go_sem];omega) ?_;intro v' w1 jm iF));go_roundw
    case rel=>exact⟨k+1,(c+t)/4294967296,.inr om,jS,jS,by show _=_;rw[HE2.out];rfl,jm,Gb.below (Gb.alloc HG.out _) iF (dJ _)⟩
    case measure=>exact qL
   .have Pj:¬(k:Int)<(n':Int):=om;have Qq:Hid ((c:Int)=(dg M k:Int)):=by
     have:=aC6 HN.out HN'.out (om:n<=k) (om:n'<=k);show _=_;rw[HM.out,this,<-HCy.out]
    have HF:Hid (M<4294967296^(k+1)):=by
     have:=II HN.out HN'.out (om:n<=k) (om:n'<=k);show _<_;rw[HM.out];exact this
    clear hz DV LZ uT HE2;have hkb:k<=n+n':=om;go_wp2_with (first|(at_builtin;go_loud (refine fU rfl _ _ rfl w.heap.size k M _ wr.heap.size rfl (Own.alloc HO.out _) rfl (by rw[<-Qq.out];simp[go_sem]) om (by simp[go_sem];omega) ?_;intro v' w1 jm iF))|(go_at_call 220;refine(o9 (Own.raw jm HF.out) om).mono ?_;rintro e w' ⟨v'',k',rfl,hw,oz,EI⟩;subst hw))
    go_returns;exact⟨_,_,rfl,oz,om,Gb.below (Gb.alloc HG.out _) iF (dJ _)⟩
def Ik(h:Big w v n N)(hn:n<=1000000)(h':Big w v2 n' N')(EH:n'<=1000000):
  CT 227 #[v,v2] w λe w'=>∃v' k,e=.returned v'/\Big w' v' k (N+N')/\k<=n+n'+1/\Gb w w':=by
 obtain⟨xk,hN,b,cap,rfl,l7,Dz,aW⟩:=h;obtain⟨YC,BD,b',cap',rfl,rD,Vp,iD⟩:=h';exact aBo hn hN EH BD aW l7 iD rD rfl
def WR{P:Prop}(h:P:=by
 go_enter func186,ntmps186;go_wp2;go_returns;exact⟨rfl,Gr.g⟩):P:=h
def RQ{P:Prop}(h:P:=by
 go_wp2_with (go_at_call 355;refine kw (HT _) ?_);go_returns;exact⟨rfl,Gr.g⟩):P:=h
def vY(w:ak):QR 186 #[J 0] w (X #[.iface 261 (.agg #[Z .i32 (-2147483648),Z .i32 2147483647]),O E]):=by
 exact WR
def vX(w:ak):QR 186 #[J 1] w (X #[.iface 263 (kV (-9223372036854775808) 9223372036854775807),O E]):=by
 exact WR
def vW(w:ak):QR 186 #[J 2] w (X #[.iface 265 (.agg #[Z .u32 0,Z .u32 4294967295]),O E]):=by
 exact WR
def vV(w:ak):QR 186 #[J 3] w (X #[.iface 267 (aS 0 18446744073709551615),O E]):=by
 exact WR
def B_(aG:Int)(h:¬(0<=aG/\aG<=3))(w:ak):QR 186 #[J aG] w (X #[Value.nilIface,O V]):=by
 rcases(om:aG<0\/4<=aG)with c|c
 all_goals
  clear h;exact WR
def iR(v m:Int)(h:IntKind.u64.wrap (-v)=m)(w:ak):QW 355 #[J 1,Y v] w (Y m):=by
 go_enter func355,ntmps355;go_wp2;go_returns;exact⟨rfl,rfl⟩
def gI(v:Int)(w:ak):QW 355 #[J 0,Y v] w (Y v):=by
 go_enter func355,ntmps355;go_wp2;go_returns;exact⟨rfl,rfl⟩
def YX(v x y m:Int)(q:Bool)(hx:IntKind.i32.wrap v=x)(c:x<0)(hy:IntKind.u64.wrap x=y)(hq:(y==v)=q)(hm:IntKind.u64.wrap (-v)=m)(w:ak):
  QR 353 #[.agg #[Z .i32 (-2147483648),Z .i32 2147483647],Y v] w (X #[J 1,Y m,O q]):=by
 have HT:KW 355 #[J 1,Y v] (Y m):=λw=>iR v m hm w;go_enter func353,ntmps353;exact RQ
def YW(v x y:Int)(q:Bool)(hx:IntKind.i32.wrap v=x)(c:0<=x)(hy:IntKind.u64.wrap x=y)(hq:(y==v)=q)(w:ak):
  QR 353 #[.agg #[Z .i32 (-2147483648),Z .i32 2147483647],Y v] w (X #[J 0,Y v,O q]):=by
 have HT:mW 0 v:=λw=>gI v w;go_enter func353,ntmps353;exact RQ
def YV(v x y m:Int)(q:Bool)(hx:IntKind.i64.wrap v=x)(c:x<0)(hy:IntKind.u64.wrap x=y)(hq:(y==v)=q)(hm:IntKind.u64.wrap (-v)=m)(w:ak):
  QR 356 #[kV (-9223372036854775808) 9223372036854775807,Y v] w (X #[J 1,Y m,O q]):=by
 have HT:KW 355 #[J 1,Y v] (Y m):=λw=>iR v m hm w;go_enter func356,ntmps356;exact RQ
def YU(v x y:Int)(q:Bool)(hx:IntKind.i64.wrap v=x)(c:0<=x)(hy:IntKind.u64.wrap x=y)(hq:(y==v)=q)(w:ak):
  QR 356 #[kV (-9223372036854775808) 9223372036854775807,Y v] w (X #[J 0,Y v,O q]):=by
 have HT:mW 0 v:=λw=>gI v w;go_enter func356,ntmps356;exact RQ
def YT(v x y:Int)(q:Bool)(hx:IntKind.u32.wrap v=x)(c:0<=x)(hy:IntKind.u64.wrap x=y)(hq:(y==v)=q)(w:ak):
  QR 358 #[.agg #[Z .u32 0,Z .u32 4294967295],Y v] w (X #[J 0,Y v,O q]):=by
 have HT:mW 0 v:=λw=>gI v w;go_enter func358,ntmps358;exact RQ
def YS(v:Int)(c:0<=v)(hv:IntKind.u64.wrap v=v)(w:ak):
  QR 360 #[aS 0 18446744073709551615,Y v] w (X #[J 0,Y v,O E]):=by
 have HT:mW 0 v:=λw=>gI v w;go_enter func360,ntmps360;exact RQ
def aGe{P:Prop}(h:P:=by
 have HE:mW 0 9223372036854775807:=λw=>gI _ w;go_enter func357,ntmps357;exact Dv):P:=h
def aGf{P:Prop}(h:P:=by
 have HE:mW 0 18446744073709551615:=λw=>gI _ w;go_enter func361,ntmps361;exact Dv):P:=h
def aGg{P:Prop}(h:P:=by
 have HE:mW 1 0:=λw=>iR _ _ (by decide+kernel) w;go_enter func361,ntmps361;exact Dv):P:=h
def aM7{P:Prop}(h:P:=by
 have HE:mW 1 0:=λw=>iR _ _ (by decide+kernel) w;go_enter func359,ntmps359;exact Dv):P:=h
def aM8{P:Prop}(h:P:=by
 have HE:mW 1 9223372036854775808:=λw=>iR _ _ (by decide+kernel) w;have u1:IntKind.u64.wrap (-9223372036854775808)=9223372036854775808:=by decide+kernel
 go_enter func357,ntmps357;exact Dv):P:=h
def aM9{P:Prop}(h:P:=by
 have HE:KW 355 #[J 1,Y 18446744071562067968] (Y 2147483648):=λw=>iR _ _ (by decide+kernel) w;have u1:IntKind.u64.wrap (-2147483648)=18446744071562067968:=by decide+kernel
 go_enter func354,ntmps354;exact Dv):P:=h
def I9{P:Prop}(h:P:=by
 go_wp2;go_quiet (first|(go_at_call 355;refine Calls.quiet_of_same ((HE _).mono (λe w' h=>⟨h.1,h.2.symm⟩))));all_goals go_wp2_with (go_at_call 355;with_reducible refine kw (HL.out _) ?_)
 all_goals go_returns
 all_goals exact⟨rfl,YN Gr.g⟩):P:=h
def Dv{P:Prop}(h:P:=by
 go_wp2;go_quiet (first|(go_at_call 355;refine Calls.quiet_of_same ((HE _).mono (λe w' h=>⟨h.1,h.2.symm⟩))));all_goals go_wp2<;>go_returns
 all_goals exact⟨rfl,YN Gr.g⟩):P:=h
def YN(h:Gr W w):Gr W (w.drewN n):=by
 obtain⟨⟨⟨a1,a2,a3⟩,b,c⟩,d⟩:=h;exact⟨⟨⟨a1,a2,a3⟩,b,c⟩,below_drewN d n⟩
attribute [local go_sem] undef in
def QT(hi lo:Int)(c:(hi != 0)=E)(w:ak):
  QR 354 #[.agg #[Z .i32 (-2147483648),Z .i32 2147483647],J 0,aS hi lo] w (X #[Y 2147483647,O V]):=by
 have HE:mW 0 2147483647:=λw=>gI _ w;go_enter func354,ntmps354;exact Dv
attribute [local go_sem] undef in
def QU(hi lo:Int)(c:hi=0)(c2:decide (2147483647<lo)=E)(w:ak):
  QR 354 #[.agg #[Z .i32 (-2147483648),Z .i32 2147483647],J 0,aS hi lo] w (X #[Y 2147483647,O V]):=by
 subst c;have HE:mW 0 2147483647:=λw=>gI _ w;go_enter func354,ntmps354;exact Dv
attribute [local go_sem] undef in
def Ul(hi lo:Int)(c:hi=0)(c2:decide (2147483647<lo)=V)(w:ak):
  QR 354 #[.agg #[Z .i32 (-2147483648),Z .i32 2147483647],J 0,aS hi lo] w (X #[Y lo,O E]):=by
 subst c;have HE:mW 0 2147483647:=λw=>gI _ w;have HL:mW 0 lo:=λw=>gI _ w;go_enter func354,ntmps354;exact I9
attribute [local go_sem] undef in
def QO(hi lo:Int)(c:(hi != 0)=E)(w:ak):
  QR 354 #[.agg #[Z .i32 (-2147483648),Z .i32 2147483647],J 1,aS hi lo] w (X #[Y 18446744071562067968,O V]):=by
 exact aM9
attribute [local go_sem] undef in
def QS(hi lo:Int)(c:hi=0)(c2:decide (2147483648<lo)=E)(w:ak):
  QR 354 #[.agg #[Z .i32 (-2147483648),Z .i32 2147483647],J 1,aS hi lo] w (X #[Y 18446744071562067968,O V]):=by
 subst c;exact aM9
attribute [local go_sem] undef in
def Uk(hi lo r:Int)(c:hi=0)(c2:decide (2147483648<lo)=V)(hr:IntKind.u64.wrap (-lo)=r)(w:ak):
  QR 354 #[.agg #[Z .i32 (-2147483648),Z .i32 2147483647],J 1,aS hi lo] w (X #[Y r,O E]):=by
 subst c;have HE:KW 355 #[J 1,Y 18446744071562067968] (Y 2147483648):=λw=>iR _ _ (by decide+kernel) w;have HL:KW 355 #[J 1,Y lo] (Y r):=λw=>iR _ _ hr w;have u1:IntKind.u64.wrap (-2147483648)=18446744071562067968:=by decide+kernel
 go_enter func354,ntmps354;exact I9
attribute [local go_sem] undef in
def QM(hi lo:Int)(c:(hi != 0)=E)(w:ak):
  QR 357 #[kV (-9223372036854775808) 9223372036854775807,J 0,aS hi lo] w (X #[Y 9223372036854775807,O V]):=by
 exact aGe
attribute [local go_sem] undef in
def QN(hi lo:Int)(c:hi=0)(c2:decide (9223372036854775807<lo)=E)(w:ak):
  QR 357 #[kV (-9223372036854775808) 9223372036854775807,J 0,aS hi lo] w (X #[Y 9223372036854775807,O V]):=by
 subst c;exact aGe
attribute [local go_sem] undef in
def Ui(hi lo:Int)(c:hi=0)(c2:decide (9223372036854775807<lo)=V)(w:ak):
  QR 357 #[kV (-9223372036854775808) 9223372036854775807,J 0,aS hi lo] w (X #[Y lo,O E]):=by
 subst c;have HE:mW 0 9223372036854775807:=λw=>gI _ w;have HL:mW 0 lo:=λw=>gI _ w;go_enter func357,ntmps357;exact I9
attribute [local go_sem] undef in
def QK(hi lo:Int)(c:(hi != 0)=E)(w:ak):
  QR 357 #[kV (-9223372036854775808) 9223372036854775807,J 1,aS hi lo] w (X #[Y 9223372036854775808,O V]):=by
 exact aM8
attribute [local go_sem] undef in
def QL(hi lo:Int)(c:hi=0)(c2:decide (9223372036854775808<lo)=E)(w:ak):
  QR 357 #[kV (-9223372036854775808) 9223372036854775807,J 1,aS hi lo] w (X #[Y 9223372036854775808,O V]):=by
 subst c;exact aM8
attribute [local go_sem] undef in
def Uh(hi lo r:Int)(c:hi=0)(c2:decide (9223372036854775808<lo)=V)(hr:IntKind.u64.wrap (-lo)=r)(w:ak):
  QR 357 #[kV (-9223372036854775808) 9223372036854775807,J 1,aS hi lo] w (X #[Y r,O E]):=by
 subst c;have HE:mW 1 9223372036854775808:=λw=>iR _ _ (by decide+kernel) w;have HL:KW 355 #[J 1,Y lo] (Y r):=λw=>iR _ _ hr w;have u1:IntKind.u64.wrap (-9223372036854775808)=9223372036854775808:=by decide+kernel
 go_enter func357,ntmps357;exact I9
attribute [local go_sem] undef in
def QI(hi lo:Int)(c:(hi != 0)=E)(w:ak):
  TJ 0 4294967295 0 hi lo w 4294967295 V:=by
 have HE:mW 0 4294967295:=λw=>gI _ w;go_enter func359,ntmps359;exact Dv
attribute [local go_sem] undef in
def QJ(hi lo:Int)(c:hi=0)(c2:decide (4294967295<lo)=E)(w:ak):
  TJ 0 4294967295 0 hi lo w 4294967295 V:=by
 subst c;have HE:mW 0 4294967295:=λw=>gI _ w;go_enter func359,ntmps359;exact Dv
attribute [local go_sem] undef in
def Uf(hi lo:Int)(c:hi=0)(c2:decide (4294967295<lo)=V)(w:ak):
  TJ 0 4294967295 0 hi lo w lo E:=by
 subst c;have HE:mW 0 4294967295:=λw=>gI _ w;have HL:mW 0 lo:=λw=>gI _ w;go_enter func359,ntmps359;exact I9
attribute [local go_sem] undef in
def QG(hi lo:Int)(c:(hi != 0)=E)(w:ak):
  TJ 0 4294967295 1 hi lo w 0 V:=by
 exact aM7
attribute [local go_sem] undef in
def QH(hi lo:Int)(c:hi=0)(c2:decide (0<lo)=E)(w:ak):
  TJ 0 4294967295 1 hi lo w 0 V:=by
 subst c;exact aM7
attribute [local go_sem] undef in
def Ue(hi lo r:Int)(c:hi=0)(c2:decide (0<lo)=V)(hr:IntKind.u64.wrap (-lo)=r)(w:ak):
  TJ 0 4294967295 1 hi lo w r E:=by
 subst c;have HE:mW 1 0:=λw=>iR _ _ (by decide+kernel) w;have HL:KW 355 #[J 1,Y lo] (Y r):=λw=>iR _ _ hr w;go_enter func359,ntmps359;exact I9
attribute [local go_sem] undef in
def QE(hi lo:Int)(c:(hi != 0)=E)(w:ak):
  TI 0 18446744073709551615 0 hi lo w 18446744073709551615 V:=by
 exact aGf
attribute [local go_sem] undef in
def QF(hi lo:Int)(c:hi=0)(c2:decide (18446744073709551615<lo)=E)(w:ak):
  TI 0 18446744073709551615 0 hi lo w 18446744073709551615 V:=by
 subst c;exact aGf
attribute [local go_sem] undef in
def Uc(hi lo:Int)(c:hi=0)(c2:decide (18446744073709551615<lo)=V)(w:ak):
  TI 0 18446744073709551615 0 hi lo w lo E:=by
 subst c;have HE:mW 0 18446744073709551615:=λw=>gI _ w;have HL:mW 0 lo:=λw=>gI _ w;go_enter func361,ntmps361;exact I9
attribute [local go_sem] undef in
def QC(hi lo:Int)(c:(hi != 0)=E)(w:ak):
  TI 0 18446744073709551615 1 hi lo w 0 V:=by
 exact aGg
attribute [local go_sem] undef in
def QD(hi lo:Int)(c:hi=0)(c2:decide (0<lo)=E)(w:ak):
  TI 0 18446744073709551615 1 hi lo w 0 V:=by
 subst c;exact aGg
attribute [local go_sem] undef in
def Ub(hi lo r:Int)(c:hi=0)(c2:decide (0<lo)=V)(hr:IntKind.u64.wrap (-lo)=r)(w:ak):
  TI 0 18446744073709551615 1 hi lo w r E:=by
 subst c;have HE:mW 1 0:=λw=>iR _ _ (by decide+kernel) w;have HL:KW 355 #[J 1,Y lo] (Y r):=λw=>iR _ _ hr w;go_enter func361,ntmps361;exact I9
def iJ(s:aJ)(i:Nat):Int:=if h:i<s.size then(s[i].toNat :Int)else 0
def wG(s:aJ)(i:Nat):0<=iJ s i/\iJ s i<=255:=by
 unfold iJ;split
 .have:=(s[i]).toNat_lt;omega
 .omega
def jR(s:aJ)(i:Nat)(h:i<s.size)(w:ak):(Instr.index 9 (.string s) (J i)).run prog w=.ok (Z .u8 (iJ s i)) w:=by
 rw[run_index_string w 9 s .i64 i underlying9,dif_pos ⟨om,om⟩];unfold iJ;rw[dif_pos h];rfl
def num(s:aJ)(p:Nat):Nat->Int
 |0=>0
 |k+1=>iJ s p+256*num s (p+1) k
def aA3(s:aJ)(k:Nat):∀p,0<=num s p k/\num s p k<256^k:=by
 induction k with
 |zero=>intro p;exact⟨Int.le_refl _,by unfold num;decide⟩
 |succ k ih=>
  intro p;have a:=ih (p+1);have b:=wG s p;show 0<=iJ s p+256*num s (p+1) k/\iJ s p+256*num s (p+1) k<256^(k+1);rw[Int.pow_succ];omega
def aKs(s:aJ)(k:Nat):∀p,num s p (k+1)=num s p k+256^k*iJ s (p+k):=by
 induction k with
 |zero=>intro p;simp[num]
 |succ k ih=>
  intro p;show iJ s p+256*num s (p+1) (k+1)=iJ s p+256*num s (p+1) k+256^(k+1)*iJ s (p+(k+1));rw[ih (p+1),Int.pow_succ,(om:p+1+k=p+(k+1)),Int.mul_add];have:256*(256^k*iJ s (p+(k+1)))=256^k*256*iJ s (p+(k+1)):=by rw[<-Int.mul_assoc,Int.mul_comm 256]
  omega
def SA(s:aJ)(p:Nat):0<=num s p 8/\num s p 8<18446744073709551616:=aA3 s 8 p
def aIB(s:aJ)(p:Nat)(h:p+8<=s.size)(hs:s.size<=1048576)(w:ak):
  QW 129 #[.string s,J p] w (Y (num s p 8)):=by
 go_enter func129,ntmps129;go_wp2;go_loop [5,6] (λv i=>∃k:Nat,k<=8/\v=Y (num s (p+k) (8-k))/\i=J ((k:Int)-1)) (λ_ i=>(intOf i+1).toNat)
 case atStart=>exact⟨8,om,rfl,rfl⟩
 case round=>
  obtain⟨k,hk,rfl,rfl⟩:=hrel;by_cases h0:0<=(k:Int)-1
  .obtain⟨j,rfl⟩:∃j,k=j+1:=⟨k-1,om⟩;have q:=jR s (p+j) om w;have hb:=wG s (p+j);have hn:=aA3 s (8-(j+1)) (p+(j+1));have hm:num s (p+(j+1)) (8-(j+1))<72057594037927936:=Int.lt_of_lt_of_le hn.2 (by
    have:=pU (show 0<256 by decide) (om:8-(j+1)<=7);have e:((256^(8-(j+1)):Nat):Int)=(256:Int)^(8-(j+1)):=FH _ _;omega)
   have HS:Hid (num s (p+j) (8-j)=num s (p+(j+1)) (8-(j+1))*256+iJ s (p+j)):=by
    show _=_;rw[(om:8-j=8-(j+1)+1)];show iJ s (p+j)+256*num s (p+j+1) (8-(j+1))=_;rw[(om:p+j+1=p+(j+1))];omega
   have e1:((p+j:Nat):Int)=(p:Int)+j:=om;have e2:((j+1:Nat):Int)-1=j:=om;rw[e2];rw[e1]at q;have Ip:=hn.1;clear hn e1 e2;generalize num s (p+(j+1)) (8-(j+1))=v at*
   generalize iJ s (p+j)=b at*
   go_wp2;go_round
   case rel=>exact⟨j,om,by rw[HS.out],jS⟩
   case measure=>first|(simp[intOf];done)|(simp[intOf];omega)
  .obtain rfl:k=0:=om;go_wp2;go_returns;exact⟨rfl,rfl⟩
def aKn(v b:Int)(k:Nat)(hk:k<8)(v0:0<=v)(v1:v<256^k)(b0:0<=b)(b1:b<=255):bits .or .u64 v (b*256^k)=v+256^k*b/\b*256^k<18446744073709551616/\v+256^k*b<18446744073709551616:=by
 obtain⟨x,rfl⟩:=lq v0;obtain⟨y,rfl⟩:=lq b0;have e:((2^(8*k):Nat):Int)=(256:Int)^k:=by rw[Nat.pow_mul];exact FH _ _
 rw[<-e]at v1⊢
 have hx:x<2^(8*k):=om;have hy:y<2^8:=om;have hp:2^(8*k)*2^8<=2^64:=by rw[<-jY];exact pU de om
 have h1:2^(8*k)*y+x<2^(8*k)*2^8:=by
  have:2^(8*k)*(y+1)<=2^(8*k)*2^8:=Fh _ om;rw[Fj]at this;omega
 have h2:x|||y*2^(8*k)=2^(8*k)*y+x:=by
  rw[dM y,Nat.or_comm,Nat.two_pow_add_eq_or_of_lt hx]
 have h3:=bits_or_u64_nat x (y*2^(8*k)) om (by rw[dM];omega);rw[h2]at h3;have h4:((y*2^(8*k):Nat):Int)=(y:Int)*((2^(8*k):Nat):Int):=by rw[FI]
 have h5:((2^(8*k)*y+x:Nat):Int)=(x:Int)+((2^(8*k):Nat):Int)*(y:Int):=by rw[Int.natCast_add,FI];omega
 rw[h4,h5]at h3;refine⟨h3,?_,?_⟩
 .rw[<-h4];rw[dM];omega
 .rw[<-h5];omega
def aIC(s:aJ)(h:8<=s.size)(hs:s.size<=1048576)(w:ak):
  QW 274 #[.string s] w (Y (num s 0 8)):=by
 go_enter func274,ntmps274;go_wp2;go_loop [3,5] (λv i=>∃k:Nat,k<=8/\v=Y (num s 0 k)/\i=J k) (λ_ i=>8-(intOf i).toNat)
 case atStart=>exact⟨0,om,rfl,rfl⟩
 case round=>
  obtain⟨k,hk,rfl,rfl⟩:=hrel;by_cases h0:(k:Int)<8
  .have q:=jR s k om w;have hb:=wG s k;have hn:=aA3 s k 0;obtain⟨o1,o2,o3⟩:=aKn (num s 0 k) (iJ s k) k om hn.1 hn.2 hb.1 hb.2;have HS:Hid (num s 0 (k+1)=num s 0 k+256^k*iJ s k):=by show _=_;rw[aKs,Nat.zero_add]
   have Ip:=hn.1;have HW:Hid (IntKind.u64.wrap (iJ s k*2^(8*k))=iJ s k*256^k):=by
    show _=_;have e:(2:Int)^(8*k)=256^k:=by rw[Int.pow_mul];rfl
    have hp:(0:Int)<=iJ s k*256^k:=Bj hb.1 (Int.pow_nonneg de);rw[e,iT];exact Int.emod_eq_of_lt hp o2
   clear hn;generalize num s 0 k=v at*
   generalize iJ s k=b at*
   go_wp2;go_round
   case rel=>exact⟨k+1,om,by rw[HS.out,<-o1,HW.out],jS⟩
   case measure=>first|(simp[intOf];done)|(simp[intOf];omega)
  .obtain rfl:k=8:=om;go_wp2;go_returns;exact⟨rfl,rfl⟩
def aA8(p mn mx md:Int)(k:Nat)(sx ex cx xh xl sy ey cy yh yl d:Int)(tx ty:Bool)(hd:decide (d<=0)=E)
  (HO:Zz sx ex cx xh xl tx 0 sy ey cy yh yl ty d) (w:ak):
  QR 97 #[eu p mn mx md k,bP sx ex cx xh xl tx 0,bP sy ey cy yh yl ty 0] w (bP sx ex cx xh xl tx 0):=by
 go_enter func97,ntmps97;go_wp2_with (go_at_call 190;refine ku (HO _) λw1 au=>?_;have:=au.C71 w;have iy:=au.ql w);exact cO (by simp[results,results97,go_sem,iy])
def aA7(p mn mx md:Int)(k:Nat)(sx ex cx xh xl sy ey cy yh yl d:Int)(tx ty:Bool)(hd:decide (d<=0)=V)
  (HO:Zz sx ex cx xh xl tx 0 sy ey cy yh yl ty d) (w:ak):
  QR 97 #[eu p mn mx md k,bP sx ex cx xh xl tx 0,bP sy ey cy yh yl ty 0] w (bP sy ey cy yh yl ty 0):=by
 go_enter func97,ntmps97;go_wp2_with (go_at_call 190;refine ku (HO _) λw1 au=>?_;have:=au.C72 w;have iy:=au.ql w);exact cO (by simp[results,results97,go_sem,iy])
def YM(p mn mx md:Int)(k:Nat)(sx ex cx xh xl sy ey cy yh yl d:Int)(tx ty:Bool)(hd:decide (0<=d)=E)
  (HO:Zz sx ex cx xh xl tx 0 sy ey cy yh yl ty d) (w:ak):
  QR 98 #[eu p mn mx md k,bP sx ex cx xh xl tx 0,bP sy ey cy yh yl ty 0] w (bP sx ex cx xh xl tx 0):=by
 go_enter func98,ntmps98;go_wp2_with (go_at_call 190;refine ku (HO _) λw1 au=>?_;have:=au.C71 w;have iy:=au.ql w);exact cO (by simp[results,results98,go_sem,iy])
def YL(p mn mx md:Int)(k:Nat)(sx ex cx xh xl sy ey cy yh yl d:Int)(tx ty:Bool)(hd:decide (0<=d)=V)
  (HO:Zz sx ex cx xh xl tx 0 sy ey cy yh yl ty d) (w:ak):
  QR 98 #[eu p mn mx md k,bP sx ex cx xh xl tx 0,bP sy ey cy yh yl ty 0] w (bP sy ey cy yh yl ty 0):=by
 go_enter func98,ntmps98;go_wp2_with (go_at_call 190;refine ku (HO _) λw1 au=>?_;have:=au.C72 w;have iy:=au.ql w);exact cO (by simp[results,results98,go_sem,iy])
