import Derived.Test.YtmiekgjgpmfekaaGreatDoorPm
import Derived.Deep.RegionHeld3
import Derived.Deep.DeepCutAuto
import Derived.BigQuiet
import Derived.Deep.QuietTactic
set_option linter.all false
set_option maxRecDepth 1000000
set_option maxHeartbeats 40000000
open Bool renaming false → V, true → E
open Go.Proofs.YtmiekgjgpmfekaaGreatDoor renaming vI → J, vU → Y
open Go.Value renaming int → Z, bool → O, tuple → X
open Go.Proofs.Tryz
namespace Go.Proofs.YtmiekgjgpmfekaaGreatDoor
open Go.RowKit
attribute [local go_sem] aj
variable{n N b cap M n' N' b' cap':Nat}{w W:World}{v v2:Value}
theorem lY(w:World)(N:Nat):Own (w.alloc (.cells #[] 183)) w.heap.size (aB w.heap.size 0 0) 0 N:=by
 refine⟨?_,by simp⟩;have:=World.ownsRow_lit (base:=w.heap.size) (e:=183) (size:=1) w #[] 0 (Nat.le_refl _) (Nat.zero_le _) rfl
 simpa[Xb]using this
theorem VR(z r:Nat)(hr:r<32)(hz:z<=1000000)(hn:n<=1000000)(hpos:0<n)(hN:N<4294967296^n)
  (hcell:∀j,j<n->aj w b j (Z .u32 (dg N j:Int))) (hcap:n<=cap) (s:Nat) (hs:s=32*z+r) (hM:M=N*2^(32*z+r)):
  CT 99 #[aB b n cap,J s] w fun e w'=>∃v' k,e=.returned v'/\Big w' v' k M/\k<=n+z+1/\Gb w w':=by
 have HC:Hid _:=hcell;have HN:Hid _:=hN;have HM:Hid _:=hM;have hq:(s:Int)/32=(z:Int):=om;have hm:(s:Int)%32=(r:Int):=om;have hs1:s<=100000000:=om;have HS:Hid _:=hs;have n0:((n:Int)==0)=V:=by simp;omega
 clear hcell hN hs hM;go_enter func99,ntmps99;go_wp2;go_loopw [5,6] (fun v i wr=>∃k:Nat,k<=z/\i=J k/\Own wr w.heap.size v k M/\Gb w wr) (fun _ i _=>z-(intOf i).toNat)
 case atStart=>exact⟨0,Nat.zero_le _,rfl,lY w _,(Gb.refl w).alloc _⟩
 case round=>
  obtain⟨k,hk,rfl,hown,hgb⟩:=hrel;by_cases hlt:k<z
  ·have hlt':(k:Int)<(z:Int):=om;have hd:((dg M k:Nat):Int)=0:=by rw[HM.out,aA7 N r z k hlt];rfl
   have HD:Hid _:=hd;have hsz:=hgb.size;have HO:Hid _:=hown;have HG:Hid _:=hgb;clear hd hown hgb;go_wp2_with (at_builtin;refine dB rfl _ _ rfl w.heap.size k M _ wr.heap.size rfl (Own.alloc HO.out _) rfl (by rw[HD.out];simp[go_sem]) om (by simp[go_sem];omega) ?_;intro v' w1 hown1 hb1);go_roundw
   case rel=>exact⟨k+1,om,by go_num,hown1,Gb.below (Gb.alloc HG.out _) hb1 (Nat.le_refl _)⟩
   case measure=>simp[intOf]<;>omega
  ·obtain rfl:k=z:=om;go_wp2;go_loopw [5,7,8] (fun v c i wr'=>∃i' c':Nat,i'<=n/\i=J i'/\c=Y c'/\Hid (c'=N%4294967296^i'*2^r/4294967296^i')/\Own wr' w.heap.size v (k+i') M/\Gb w wr') (fun _ _ i _=>n-(intOf i).toNat)
   case atStart=>exact⟨0,0,Nat.zero_le _,rfl,rfl,by show _=_;simp[Nat.mod_one],hown,hgb⟩
   case round=>
    obtain⟨i,c,hi,rfl,rfl,WJ,hown2,EX⟩:=hrel;have hcl:=IZ N r i hr;rw[<-WJ.out]at hcl;have hsz:=EX.size;have HO:Hid _:=hown2;have HG:Hid _:=EX;clear hown2 EX;by_cases hin:i<n
    ·have hin':(i:Int)<(n:Int):=om;have hc:aj wr b i (Z .u32 (dg N i:Int)):=Gb.old HG.out (HC i hin);obtain⟨e1,e2⟩:=UD N r i c WJ.out;have hdl:=jf N i;obtain⟨b1,b2⟩:=Uz (dg N i) r c hdl hr hcl;have hdm:dg M (k+i)=(dg N i*2^r+c)%4294967296:=by rw[HM.out,X4,e1]
     obtain⟨y,hy⟩:∃y:Nat,y=dg N i*2^r:=⟨_,rfl⟩;have hw1:IntKind.u64.wrap ((dg N i:Int)*2^r)=(y:Int):=by
      have e:(dg N i:Int)*2^r=(y:Int):=by rw[hy];push_cast;rfl
      rw[e,IntKind.wrap_u64];omega
     rw[<-hy]at b1 b2 hdm e2;have xU:Hid ((((y:Int)+(c:Int))%4294967296)=(dg M (k+i):Int)):=by show _=_;rw[hdm];omega
     have HE2:Hid _:=e2;clear hy e1 e2 hdm;generalize dg N i=t at*
     go_wp2_with (at_builtin;refine dB rfl _ _ rfl w.heap.size (k+i) M _ wr.heap.size rfl (Own.alloc HO.out _) rfl (by rw[<-xU.out];simp[go_sem]) om (by simp[go_sem];omega) ?_;intro v' w1 hown1 hb1);go_roundw
     case rel=>exact⟨i+1,(y+c)/4294967296,om,by go_num,by go_num,by show _=_;rw[HE2.out],hown1,Gb.below (Gb.alloc HG.out _) hb1 (Nat.le_refl _)⟩
     case measure=>simp[intOf]<;>omega
    ·obtain rfl:i=n:=om;obtain⟨f1,f2⟩:=aA8 N r k i HN.out hr;have xU:Hid ((c:Int)=(dg M (k+i):Int)):=by show _=_;rw[HM.out,f1,<-WJ.out]
     have HF2:Hid (M<4294967296^(k+i+1)):=by show _<_;rw[HM.out];exact f2
     clear f1 f2;go_wp2_with (first
      |(at_builtin;refine dB rfl _ _ rfl w.heap.size (k+i) M _ wr.heap.size rfl (Own.alloc HO.out _) rfl (by rw[<-xU.out];simp[go_sem]) om (by simp[go_sem];omega) ?_;intro v' w1 hown1 hb1)
      |(go_at_call 162;refine(jZ (Own.raw hown1 HF2.out) om).mono ?_;rintro e w' ⟨v'',k',rfl,hw,hbig,hk'⟩;subst hw))
     go_returns;exact⟨_,_,rfl,hbig,om,Gb.below (Gb.alloc HG.out _) hb1 (Nat.le_refl _)⟩
theorem fV(h:Big w v n N)(hn:n<=1000000)(s:Nat)(hs:s<=10000000):
  CT 99 #[v,J s] w fun e w'=>∃v' k,e=.returned v'/\Big w' v' k (N*2^s)/\k<=n+s/32+1/\Gb w w':=by
 obtain⟨hnm,hN,b,cap,rfl,hcap,hmx,hcell⟩:=h;rcases Nat.eq_zero_or_pos n with rfl|hpos
 ·have e:N*2^s=N:=by rw[hnm.zero];simp
  rw[e];have HB:Hid (Big w (aB b 0 cap) 0 N):=⟨hnm,hN,b,cap,rfl,hcap,hmx,hcell⟩;clear hcell hnm hN e;go_enter func99,ntmps99;go_wp2;go_returns;exact⟨_,_,rfl,HB.out,om,Gb.refl w⟩
 ·have e:32*(s/32)+s%32=s:=om;refine(VR (M:=N*2^s) (s/32) (s%32) om om hn hpos hN hcell hcap s om (by rw[e])).mono ?_;exact fun _ _ h=>h
theorem aDO{P:Prop}(h:P:=by
 go_wp2_with (at_builtin;go_loud (refine dB rfl _ _ rfl w.heap.size k M _ wr.heap.size rfl (Own.alloc HO.out _) rfl (by rw[<-xU.out];simp[go_sem]) om (by simp[go_sem];omega) ?_;intro v' w1 hown1 hb1));go_roundw
 case rel=>exact⟨k+1,j+1,by show _=_;have:=HJ.out;omega,.inr om,om,HJN.out,by go_num,hown1,Gb.below (Gb.alloc HG.out _) hb1 (Nat.le_refl _)⟩
 case measure=>simp[intOf]<;>omega):P:=h
theorem LM(x r:Nat):((x/2^r%4294967296:Nat):Int)=(x:Int)/2^r%4294967296:=by
 rw[Int.natCast_emod,Int.natCast_ediv,Int.natCast_pow];rfl
theorem QF(z r:Nat)(hr:r<32)(hz:z<=1000000)(hn:n<=1000000)(hN:N<4294967296^n)
  (hcell:∀j,j<n->aj w b j (Z .u32 (dg N j:Int))) (hcap:n<=cap) (s:Nat) (hs:s=32*z+r) (hM:M=N/2^(32*z+r)):
  CT 187 #[aB b n cap,J s] w fun e w'=>∃v' k,e=.returned v'/\Big w' v' k M/\k<=n/\Gb w w':=by
 have HC:Hid _:=hcell;have HN:Hid _:=hN;have HM:Hid _:=hM;have hq:(s:Int)/32=(z:Int):=om;have hm:(s:Int)%32=(r:Int):=om;have hs1:s<=100000000:=om;have HS:Hid _:=hs;clear hcell hN hs hM;go_enter func187,ntmps187;go_wp2;go_loopw [5,6] (fun v i wr=>∃k j:Nat,Hid (j=z+k)/\Hid (k=0\/j<=n)/\j<=2000000/\k<=1000000/\i=J j/\Own wr w.heap.size v k M/\Gb w wr) (fun _ i _=>n-(intOf i).toNat)
 case atStart=>exact⟨0,z,by show _=_;omega,.inl rfl,om,om,by go_num,lY w _,(Gb.refl w).alloc _⟩
 case round=>
  obtain⟨k,j,HJ,HK,hj2,hk2,rfl,hown,hgb⟩:=hrel;have hsz:=hgb.size;have HO:Hid _:=hown;have HG:Hid _:=hgb;clear hown hgb;by_cases hlt:j<n
  ·have hlt':(j:Int)<(n:Int):=om;have hdM:dg M k=(dg N j+dg N (j+1)*4294967296)/2^r%4294967296:=by rw[HM.out,HJ.out];exact aEw N r z k hr
   have hc:aj wr b j (Z .u32 (dg N j:Int)):=Gb.old HG.out (HC j hlt);have hd0:=jf N j;have hd1:=jf N (j+1);have HJN:Hid (k+1<=1000000):=by show _<=_;have:=HJ.out;omega
   by_cases hlt2:j+1<n
   ·have aJE:(j:Int)+1<(n:Int):=om;have hc2:aj wr b (j+1) (Z .u32 (dg N (j+1):Int)):=Gb.old HG.out (HC (j+1) hlt2);obtain⟨x,hx⟩:∃x:Nat,x=dg N j+dg N (j+1)*4294967296:=⟨_,rfl⟩;have hxi:(dg N j:Int)+(dg N (j+1):Int)*4294967296=(x:Int):=om;have aKl:x<18446744073709551616:=om;rw[<-hx]at hdM;have xU:Hid ((x:Int)/2^r%4294967296=(dg M k:Int)):=by show _=_;rw[hdM,LM]
    clear hdM hx;generalize dg N j=t0 at*
    generalize dg N (j+1)=t1 at*
    exact aDO
   ·have hnl:¬(j:Int)+1<(n:Int):=om;have hz1:dg N (j+1)=0:=l7 HN.out om;rw[hz1]at hdM;simp only[Nat.zero_mul,Nat.add_zero]at hdM;have xU:Hid ((dg N j:Int)/2^r%4294967296=(dg M k:Int)):=by show _=_;rw[hdM,LM]
    clear hdM hz1 hd1;generalize dg N j=t0 at*
    exact aDO
  ·have hlt':¬(j:Int)<(n:Int):=om;have HL:Hid (M<4294967296^k/\k<=n):=by
    have hJ:=HJ.out;rcases HK.out with rfl|hk
    ·have:=X3 N r z n HN.out om;refine⟨?_,om⟩;rw[HM.out,this];decide
    ·have:=aEv N r z n HN.out om;refine⟨?_,om⟩;rw[HM.out,show k=n-z by omega];exact this
   go_wp2_with (go_at_call 162;refine(jZ (Own.raw HO.out HL.out.1) (by have:=HL.out.2;omega)).mono ?_;rintro e w' ⟨v'',k',rfl,hw,hbig,hk'⟩;subst hw);go_returns;exact⟨_,_,rfl,hbig,by have:=HL.out.2;omega,HG.out⟩
theorem qX(h:Big w v n N)(hn:n<=1000000)(s:Nat)(hs:s<=10000000):
  CT 187 #[v,J s] w fun e w'=>∃v' k,e=.returned v'/\Big w' v' k (N/2^s)/\k<=n/\Gb w w':=by
 obtain⟨hnm,hN,b,cap,rfl,hcap,hmx,hcell⟩:=h;have e:32*(s/32)+s%32=s:=om;exact QF (M:=N/2^s) (s/32) (s%32) om om hn hN hcell hcap s om (by rw[e])
theorem aDM{P:Prop}(h:P:=by
 go_wp2_with (at_builtin;go_loud (refine dB rfl _ _ rfl w.heap.size k M _ wr.heap.size rfl (Own.alloc HO.out _) rfl (by rw[<-xU.out];simp[go_sem]) om (by simp[go_sem];omega) ?_;intro v' w1 hown1 hb1));go_roundw
 case rel=>exact⟨k+1,0,om,by go_num,by go_num,by show _=_;rw[HE2.out],hown1,Gb.below (Gb.alloc HG.out _) hb1 (Nat.le_refl _)⟩
 case measure=>simp[intOf]<;>omega):P:=h
theorem aDN{P:Prop}(h:P:=by
 go_wp2_with (at_builtin;go_loud (refine dB rfl _ _ rfl w.heap.size k M _ wr.heap.size rfl (Own.alloc HO.out _) rfl (by rw[<-xU.out];simp[go_sem]) om (by simp[go_sem];omega) ?_;intro v' w1 hown1 hb1));go_roundw
 case rel=>exact⟨k+1,1,om,by go_num,by go_num,by show _=_;rw[HE2.out],hown1,Gb.below (Gb.alloc HG.out _) hb1 (Nat.le_refl _)⟩
 case measure=>simp[intOf]<;>omega):P:=h
theorem QE(hn:n<=1000000)(hN:N<4294967296^n)(hn':n'<=1000000)(hN':N'<4294967296^n')
  (hcell:∀j,j<n->aj w b j (Z .u32 (dg N j:Int))) (hcap:n<=cap) (hcell':∀j,j<n'->aj w b' j (Z .u32 (dg N' j:Int))) (hcap':n'<=cap') (hle:N'<=N) (hM:M=N-N'):
  CT 176 #[aB b n cap,aB b' n' cap'] w fun e w'=>∃v' k,e=.returned v'/\Big w' v' k M/\k<=n/\Gb w w':=by
 have HC:Hid _:=hcell;have HN:Hid _:=hN;have OL:Hid _:=hcell';have HN':Hid _:=hN';have HM:Hid _:=hM;have HL:Hid _:=hle;clear hcell hN hM hcell' hN' hle;go_enter func176,ntmps176;go_wp2;go_loopw [5,6,7] (fun v c i wr=>∃k c':Nat,k<=n/\i=J k/\c=Y c'/\Hid (c'=OI N N' k)/\Own wr w.heap.size v k M/\Gb w wr) (fun _ _ i _=>n-(intOf i).toNat)
 case atStart=>exact⟨0,0,Nat.zero_le _,rfl,rfl,by show _=_;rw[N9],lY w _,(Gb.refl w).alloc _⟩
 case round=>
  obtain⟨k,c,hk,rfl,rfl,WJ,hown,hgb⟩:=hrel;have hsz:=hgb.size;have HO:Hid _:=hown;have HG:Hid _:=hgb;clear hown hgb;by_cases hl:k<n
  ·have hc:aj wr b k (Z .u32 (dg N k:Int)):=Gb.old HG.out (HC k hl);have hl1:(k:Int)<(n:Int):=om;have e1:=XR N N' k HL.out;have e2:=N_ N N' k;have c1:=RH N N' k;rw[<-WJ.out]at e1 e2 c1;rw[<-HM.out]at e1;have hd0:=jf N k;have hd1:=jf N' k;have hd2:=jf M k;by_cases hl':k<n'
   ·have hc':aj wr b' k (Z .u32 (dg N' k:Int)):=Gb.old HG.out (OL k hl');have EW:(k:Int)<(n':Int):=om;by_cases hb:dg N k<dg N' k+c
    ·rw[if_pos hb]at e1 e2;have xU:Hid ((dg N k:Int)+4294967296-((c:Int)+(dg N' k:Int))=(dg M k:Int)):=by show _=_;omega
     have HE2:Hid _:=e2;have hb1:(dg N k:Int)<(c:Int)+(dg N' k:Int):=om;have hb2:(dg N k:Int)+4294967296-((c:Int)+(dg N' k:Int))<4294967296:=om;clear e1 e2 hd2;generalize dg N k=t at*
     generalize dg N' k=t' at*
     exact aDN
    ·rw[if_neg hb]at e1 e2;have xU:Hid ((dg N k:Int)-((c:Int)+(dg N' k:Int))=(dg M k:Int)):=by show _=_;omega
     have HE2:Hid _:=e2;have hb1:¬(dg N k:Int)<(c:Int)+(dg N' k:Int):=om;have hb2:(dg N k:Int)-((c:Int)+(dg N' k:Int))<4294967296:=om;clear e1 e2 hd2;generalize dg N k=t at*
     generalize dg N' k=t' at*
     exact aDM
   ·have EW:¬(k:Int)<(n':Int):=om;have hz:dg N' k=0:=l7 HN'.out om;rw[hz]at e1 e2;by_cases hb:dg N k<0+c
    ·rw[if_pos hb]at e1 e2;have xU:Hid ((dg N k:Int)+4294967296-(c:Int)=(dg M k:Int)):=by show _=_;omega
     have HE2:Hid _:=e2;have hb1:(dg N k:Int)<(c:Int):=om;have hb2:(dg N k:Int)+4294967296-(c:Int)<4294967296:=om;clear e1 e2 hd2 hz hd1 hb;generalize dg N k=t at*
     exact aDN
    ·rw[if_neg hb]at e1 e2;have xU:Hid ((dg N k:Int)-(c:Int)=(dg M k:Int)):=by show _=_;omega
     have HE2:Hid _:=e2;have hb1:¬(dg N k:Int)<(c:Int):=om;have hb2:(dg N k:Int)-(c:Int)<4294967296:=om;clear e1 e2 hd2 hz hd1 hb;generalize dg N k=t at*
     exact aDM
  ·have hl1:¬(k:Int)<(n:Int):=om;have HF:Hid (M<4294967296^k):=by
    have h1:=HN.out;show _<_;rw[HM.out,show k=n by omega];omega
   go_wp2_with (go_at_call 162;refine(jZ (Own.raw HO.out HF.out) om).mono ?_;rintro e w' ⟨v'',k',rfl,hw,hbig,hk'⟩;subst hw);go_returns;exact⟨_,_,rfl,hbig,om,HG.out⟩
theorem lK(h:Big w v n N)(hn:n<=1000000)(h':Big w v2 n' N')(hn':n'<=1000000)(hle:N'<=N):
  CT 176 #[v,v2] w fun e w'=>∃v' k,e=.returned v'/\Big w' v' k (N-N')/\k<=n/\Gb w w':=by
 obtain⟨hnm,hN,b,cap,rfl,hcap,hmx,hcell⟩:=h;obtain⟨hnm',hN',b',cap',rfl,hcap',Jz,hcell'⟩:=h';exact QE hn hN hn' hN' hcell hcap hcell' hcap' hle rfl
theorem QV(hn:n<=1000000)(hN:N<4294967296^n)(hn':n'<=1000000)(hN':N'<4294967296^n')
  (hcell:∀j,j<n->aj w b j (Z .u32 (dg N j:Int))) (hcap:n<=cap) (hcell':∀j,j<n'->aj w b' j (Z .u32 (dg N' j:Int))) (hcap':n'<=cap') (hM:M=N+N'):
  CT 163 #[aB b n cap,aB b' n' cap'] w fun e w'=>∃v' k,e=.returned v'/\Big w' v' k M/\k<=n+n'+1/\Gb w w':=by
 have HC:Hid _:=hcell;have HN:Hid _:=hN;have OL:Hid _:=hcell';have HN':Hid _:=hN';have HM:Hid _:=hM;clear hcell hN hM hcell' hN';go_enter func163,ntmps163;go_wp2;go_loopw [5,6,7] (fun v c i wr=>∃k c':Nat,(k<=n\/k<=n')/\i=J k/\c=Y c'/\Hid (c'=(N%4294967296^k+N'%4294967296^k)/4294967296^k)/\Own wr w.heap.size v k M/\Gb w wr) (fun _ _ i _=>n+n'-(intOf i).toNat)
 case atStart=>exact⟨0,0,.inl (Nat.zero_le _),rfl,rfl,by show _=_;simp[Nat.mod_one],lY w _,(Gb.refl w).alloc _⟩
 case round=>
  obtain⟨k,c,hk,rfl,rfl,WJ,hown,hgb⟩:=hrel;have hsz:=hgb.size;have HO:Hid _:=hown;have HG:Hid _:=hgb;clear hown hgb;obtain⟨e1,e2,c1⟩:=Ii N N' k c WJ.out;have hd0:=jf N k;have hd1:=jf N' k;have xU:Hid (((c:Int)+(dg N k:Int)+(dg N' k:Int))%4294967296=(dg M k:Int)):=by show _=_;rw[HM.out,e1];omega
  have HE2:Hid _:=e2;clear e1 e2;by_cases hl:k<n
  ·have hc:aj wr b k (Z .u32 (dg N k:Int)):=Gb.old HG.out (HC k hl);have hl1:(k:Int)<(n:Int):=om;by_cases hl':k<n'
   ·have hc':aj wr b' k (Z .u32 (dg N' k:Int)):=Gb.old HG.out (OL k hl');have EW:(k:Int)<(n':Int):=om;generalize dg N k=t at*
    generalize dg N' k=t' at*
    go_wp2_with (at_builtin;go_loud (refine dB rfl _ _ rfl w.heap.size k M _ wr.heap.size rfl (Own.alloc HO.out _) rfl (by rw[<-xU.out];simp[go_sem]) om (by simp[go_sem];omega) ?_;intro v' w1 hown1 hb1));go_roundw
    case rel=>exact⟨k+1,(c+t+t')/4294967296,.inl om,by go_num,by go_num,by show _=_;rw[HE2.out],hown1,Gb.below (Gb.alloc HG.out _) hb1 (Nat.le_refl _)⟩
    case measure=>simp[intOf]<;>omega
   ·have EW:¬(k:Int)<(n':Int):=om;have hz:dg N' k=0:=l7 HN'.out om;rw[hz]at HE2;have FU:Hid (((c:Int)+(dg N k:Int))%4294967296=(dg M k:Int)):=by show _=_;rw[<-xU.out,hz];simp
    clear hz xU hd1;generalize dg N k=t at*
    go_wp2_with (at_builtin;go_loud (refine dB rfl _ _ rfl w.heap.size k M _ wr.heap.size rfl (Own.alloc HO.out _) rfl (by rw[<-FU.out];simp[go_sem]) om (by simp[go_sem];omega) ?_;intro v' w1 hown1 hb1));go_roundw
    case rel=>exact⟨k+1,(c+t)/4294967296,.inl om,by go_num,by go_num,by show _=_;rw[HE2.out];rfl,hown1,Gb.below (Gb.alloc HG.out _) hb1 (Nat.le_refl _)⟩
    case measure=>simp[intOf]<;>omega
  ·have hl1:¬(k:Int)<(n:Int):=om;have hz:dg N k=0:=l7 HN.out om;by_cases hl':k<n'
   ·have hc':aj wr b' k (Z .u32 (dg N' k:Int)):=Gb.old HG.out (OL k hl');have EW:(k:Int)<(n':Int):=om;rw[hz]at HE2;have FU:Hid (((c:Int)+(dg N' k:Int))%4294967296=(dg M k:Int)):=by show _=_;rw[<-xU.out,hz];simp
    clear hz xU hd0;generalize dg N' k=t at*
    go_wp2_with (at_builtin;go_loud (refine dB rfl _ _ rfl w.heap.size k M _ wr.heap.size rfl (Own.alloc HO.out _) rfl (by rw[<-FU.out];simp[go_sem]) om (by simp[go_sem];omega) ?_;intro v' w1 hown1 hb1));go_roundw
    case rel=>exact⟨k+1,(c+t)/4294967296,.inr om,by go_num,by go_num,by show _=_;rw[HE2.out];rfl,hown1,Gb.below (Gb.alloc HG.out _) hb1 (Nat.le_refl _)⟩
    case measure=>simp[intOf]<;>omega
   ·have EW:¬(k:Int)<(n':Int):=om;have FU:Hid ((c:Int)=(dg M k:Int)):=by
     have:=Ub HN.out HN'.out (show n<=k by omega) (show n'<=k by omega);show _=_;rw[HM.out,this,<-WJ.out]
    have HF:Hid (M<4294967296^(k+1)):=by
     have:=A8 HN.out HN'.out (show n<=k by omega) (show n'<=k by omega);show _<_;rw[HM.out];exact this
    clear hz xU hd0 hd1 HE2;have hkb:k<=n+n':=om;go_wp2_with (first
     |(at_builtin;go_loud (refine dB rfl _ _ rfl w.heap.size k M _ wr.heap.size rfl (Own.alloc HO.out _) rfl (by rw[<-FU.out];simp[go_sem]) om (by simp[go_sem];omega) ?_;intro v' w1 hown1 hb1))
     |(go_at_call 162;refine(jZ (Own.raw hown1 HF.out) om).mono ?_;rintro e w' ⟨v'',k',rfl,hw,hbig,hk'⟩;subst hw))
    go_returns;exact⟨_,_,rfl,hbig,om,Gb.below (Gb.alloc HG.out _) hb1 (Nat.le_refl _)⟩
theorem AA(h:Big w v n N)(hn:n<=1000000)(h':Big w v2 n' N')(hn':n'<=1000000):
  CT 163 #[v,v2] w fun e w'=>∃v' k,e=.returned v'/\Big w' v' k (N+N')/\k<=n+n'+1/\Gb w w':=by
 obtain⟨hnm,hN,b,cap,rfl,hcap,hmx,hcell⟩:=h;obtain⟨hnm',hN',b',cap',rfl,hcap',Jz,hcell'⟩:=h';exact QV hn hN hn' hN' hcell hcap hcell' hcap' rfl
theorem K_{P:Prop}(h:P:=by
 go_enter func87,ntmps87;go_wp2;go_returns;exact⟨rfl,Gr.g⟩):P:=h
theorem GI{P:Prop}(h:P:=by
 go_wp2_with (go_at_call 262;refine kw (HT _) ?_);go_returns;exact⟨rfl,Gr.g⟩):P:=h
theorem rG(w:World):QR 87 #[J 0] w (X #[.iface 180 (.agg #[Z .i32 (-2147483648),Z .i32 2147483647]),O E]):=by
 exact K_
theorem kN(w:World):QR 87 #[J 1] w (X #[.iface 182 (gQ (-9223372036854775808) 9223372036854775807),O E]):=by
 exact K_
theorem rF(w:World):QR 87 #[J 2] w (X #[.iface 185 (.agg #[Z .u32 0,Z .u32 4294967295]),O E]):=by
 exact K_
theorem rE(w:World):QR 87 #[J 3] w (X #[.iface 187 (aG 0 18446744073709551615),O E]):=by
 exact K_
theorem AL(kind:Int)(h:¬(0<=kind/\kind<=3))(w:World):QR 87 #[J kind] w (X #[Value.nilIface,O V]):=by
 rcases(show kind<0\/4<=kind by omega)with c|c
 all_goals
  clear h;exact K_
theorem fF(v m:Int)(h:IntKind.u64.wrap (-v)=m)(w:World):QW 262 #[J 1,Y v] w (Y m):=by
 go_enter func262,ntmps262;go_wp2;go_returns;exact⟨rfl,rfl⟩
theorem dQ(v:Int)(w:World):QW 262 #[J 0,Y v] w (Y v):=by
 go_enter func262,ntmps262;go_wp2;go_returns;exact⟨rfl,rfl⟩
theorem NK(v x y m:Int)(q:Bool)(hx:IntKind.i32.wrap v=x)(c:x<0)(hy:IntKind.u64.wrap x=y)(hq:(y==v)=q)(hm:IntKind.u64.wrap (-v)=m)(w:World):
  QR 260 #[.agg #[Z .i32 (-2147483648),Z .i32 2147483647],Y v] w (X #[J 1,Y m,O q]):=by
 have HT:KW 262 #[J 1,Y v] (Y m):=fun w=>fF v m hm w;go_enter func260,ntmps260;exact GI
theorem NJ(v x y:Int)(q:Bool)(hx:IntKind.i32.wrap v=x)(c:0<=x)(hy:IntKind.u64.wrap x=y)(hq:(y==v)=q)(w:World):
  QR 260 #[.agg #[Z .i32 (-2147483648),Z .i32 2147483647],Y v] w (X #[J 0,Y v,O q]):=by
 have HT:jv 0 v:=fun w=>dQ v w;go_enter func260,ntmps260;exact GI
theorem BZ(v x y m:Int)(q:Bool)(hx:IntKind.i64.wrap v=x)(c:x<0)(hy:IntKind.u64.wrap x=y)(hq:(y==v)=q)(hm:IntKind.u64.wrap (-v)=m)(w:World):
  QR 263 #[gQ (-9223372036854775808) 9223372036854775807,Y v] w (X #[J 1,Y m,O q]):=by
 have HT:KW 262 #[J 1,Y v] (Y m):=fun w=>fF v m hm w;go_enter func263,ntmps263;exact GI
theorem BX(v x y:Int)(q:Bool)(hx:IntKind.i64.wrap v=x)(c:0<=x)(hy:IntKind.u64.wrap x=y)(hq:(y==v)=q)(w:World):
  QR 263 #[gQ (-9223372036854775808) 9223372036854775807,Y v] w (X #[J 0,Y v,O q]):=by
 have HT:jv 0 v:=fun w=>dQ v w;go_enter func263,ntmps263;exact GI
theorem NI(v x y:Int)(q:Bool)(hx:IntKind.u32.wrap v=x)(c:0<=x)(hy:IntKind.u64.wrap x=y)(hq:(y==v)=q)(w:World):
  QR 265 #[.agg #[Z .u32 0,Z .u32 4294967295],Y v] w (X #[J 0,Y v,O q]):=by
 have HT:jv 0 v:=fun w=>dQ v w;go_enter func265,ntmps265;exact GI
theorem NH(v:Int)(c:0<=v)(hv:IntKind.u64.wrap v=v)(w:World):
  QR 267 #[aG 0 18446744073709551615,Y v] w (X #[J 0,Y v,O E]):=by
 have HT:jv 0 v:=fun w=>dQ v w;go_enter func267,ntmps267;exact GI
theorem XB{P:Prop}(h:P:=by
 have HE:jv 0 9223372036854775807:=fun w=>dQ _ w;go_enter func264,ntmps264;exact w_):P:=h
theorem XC{P:Prop}(h:P:=by
 have HE:jv 0 18446744073709551615:=fun w=>dQ _ w;go_enter func268,ntmps268;exact w_):P:=h
theorem XD{P:Prop}(h:P:=by
 have HE:jv 1 0:=fun w=>fF _ _ (by decide+kernel) w;go_enter func268,ntmps268;exact w_):P:=h
theorem aDJ{P:Prop}(h:P:=by
 have HE:jv 1 0:=fun w=>fF _ _ (by decide+kernel) w;go_enter func266,ntmps266;exact w_):P:=h
theorem aDK{P:Prop}(h:P:=by
 have HE:jv 1 9223372036854775808:=fun w=>fF _ _ (by decide+kernel) w;have u1:IntKind.u64.wrap (-9223372036854775808)=9223372036854775808:=by decide+kernel
 go_enter func264,ntmps264;exact w_):P:=h
theorem aDL{P:Prop}(h:P:=by
 have HE:KW 262 #[J 1,Y 18446744071562067968] (Y 2147483648):=fun w=>fF _ _ (by decide+kernel) w;have u1:IntKind.u64.wrap (-2147483648)=18446744071562067968:=by decide+kernel
 go_enter func261,ntmps261;exact w_):P:=h
theorem Bz{P:Prop}(h:P:=by
 go_wp2;go_quiet (first|(go_at_call 262;refine Calls.quiet_of_same ((HE _).mono (fun e w' h=>⟨h.1,h.2.symm⟩))));all_goals go_wp2_with (go_at_call 262;with_reducible refine kw (HL.out _) ?_)
 all_goals go_returns
 all_goals exact⟨rfl,Ny Gr.g⟩):P:=h
theorem w_{P:Prop}(h:P:=by
 go_wp2;go_quiet (first|(go_at_call 262;refine Calls.quiet_of_same ((HE _).mono (fun e w' h=>⟨h.1,h.2.symm⟩))));all_goals go_wp2
 all_goals go_returns
 all_goals exact⟨rfl,Ny Gr.g⟩):P:=h
theorem Ny(h:Gr W w):Gr W (w.drewN n):=by
 obtain⟨⟨⟨a1,a2,a3⟩,b,c⟩,d⟩:=h;exact⟨⟨⟨a1,a2,a3⟩,b,c⟩,below_drewN d n⟩
attribute [local go_sem] undef in
theorem Gm(hi lo:Int)(c:(hi != 0)=E)(w:World):
  QR 261 #[.agg #[Z .i32 (-2147483648),Z .i32 2147483647],J 0,aG hi lo] w (X #[Y 2147483647,O V]):=by
 have HE:jv 0 2147483647:=fun w=>dQ _ w;go_enter func261,ntmps261;exact w_
attribute [local go_sem] undef in
theorem Gn(hi lo:Int)(c:hi=0)(c2:decide (2147483647<lo)=E)(w:World):
  QR 261 #[.agg #[Z .i32 (-2147483648),Z .i32 2147483647],J 0,aG hi lo] w (X #[Y 2147483647,O V]):=by
 subst c;have HE:jv 0 2147483647:=fun w=>dQ _ w;go_enter func261,ntmps261;exact w_
attribute [local go_sem] undef in
theorem IQ(hi lo:Int)(c:hi=0)(c2:decide (2147483647<lo)=V)(w:World):
  QR 261 #[.agg #[Z .i32 (-2147483648),Z .i32 2147483647],J 0,aG hi lo] w (X #[Y lo,O E]):=by
 subst c;have HE:jv 0 2147483647:=fun w=>dQ _ w;have HL:jv 0 lo:=fun w=>dQ _ w;go_enter func261,ntmps261;exact Bz
attribute [local go_sem] undef in
theorem Gi(hi lo:Int)(c:(hi != 0)=E)(w:World):
  QR 261 #[.agg #[Z .i32 (-2147483648),Z .i32 2147483647],J 1,aG hi lo] w (X #[Y 18446744071562067968,O V]):=by
 exact aDL
attribute [local go_sem] undef in
theorem Gj(hi lo:Int)(c:hi=0)(c2:decide (2147483648<lo)=E)(w:World):
  QR 261 #[.agg #[Z .i32 (-2147483648),Z .i32 2147483647],J 1,aG hi lo] w (X #[Y 18446744071562067968,O V]):=by
 subst c;exact aDL
attribute [local go_sem] undef in
theorem IL(hi lo r:Int)(c:hi=0)(c2:decide (2147483648<lo)=V)(hr:IntKind.u64.wrap (-lo)=r)(w:World):
  QR 261 #[.agg #[Z .i32 (-2147483648),Z .i32 2147483647],J 1,aG hi lo] w (X #[Y r,O E]):=by
 subst c;have HE:KW 262 #[J 1,Y 18446744071562067968] (Y 2147483648):=fun w=>fF _ _ (by decide+kernel) w;have HL:KW 262 #[J 1,Y lo] (Y r):=fun w=>fF _ _ hr w;have u1:IntKind.u64.wrap (-2147483648)=18446744071562067968:=by decide+kernel
 go_enter func261,ntmps261;exact Bz
attribute [local go_sem] undef in
theorem xw(hi lo:Int)(c:(hi != 0)=E)(w:World):
  QR 264 #[gQ (-9223372036854775808) 9223372036854775807,J 0,aG hi lo] w (X #[Y 9223372036854775807,O V]):=by
 exact XB
attribute [local go_sem] undef in
theorem xA(hi lo:Int)(c:hi=0)(c2:decide (9223372036854775807<lo)=E)(w:World):
  QR 264 #[gQ (-9223372036854775808) 9223372036854775807,J 0,aG hi lo] w (X #[Y 9223372036854775807,O V]):=by
 subst c;exact XB
attribute [local go_sem] undef in
theorem yR(hi lo:Int)(c:hi=0)(c2:decide (9223372036854775807<lo)=V)(w:World):
  QR 264 #[gQ (-9223372036854775808) 9223372036854775807,J 0,aG hi lo] w (X #[Y lo,O E]):=by
 subst c;have HE:jv 0 9223372036854775807:=fun w=>dQ _ w;have HL:jv 0 lo:=fun w=>dQ _ w;go_enter func264,ntmps264;exact Bz
attribute [local go_sem] undef in
theorem xg(hi lo:Int)(c:(hi != 0)=E)(w:World):
  QR 264 #[gQ (-9223372036854775808) 9223372036854775807,J 1,aG hi lo] w (X #[Y 9223372036854775808,O V]):=by
 exact aDK
attribute [local go_sem] undef in
theorem xk(hi lo:Int)(c:hi=0)(c2:decide (9223372036854775808<lo)=E)(w:World):
  QR 264 #[gQ (-9223372036854775808) 9223372036854775807,J 1,aG hi lo] w (X #[Y 9223372036854775808,O V]):=by
 subst c;exact aDK
attribute [local go_sem] undef in
theorem yQ(hi lo r:Int)(c:hi=0)(c2:decide (9223372036854775808<lo)=V)(hr:IntKind.u64.wrap (-lo)=r)(w:World):
  QR 264 #[gQ (-9223372036854775808) 9223372036854775807,J 1,aG hi lo] w (X #[Y r,O E]):=by
 subst c;have HE:jv 1 9223372036854775808:=fun w=>fF _ _ (by decide+kernel) w;have HL:KW 262 #[J 1,Y lo] (Y r):=fun w=>fF _ _ hr w;have u1:IntKind.u64.wrap (-9223372036854775808)=9223372036854775808:=by decide+kernel
 go_enter func264,ntmps264;exact Bz
attribute [local go_sem] undef in
theorem Gf(hi lo:Int)(c:(hi != 0)=E)(w:World):
  Io 0 4294967295 0 hi lo w 4294967295 V:=by
 have HE:jv 0 4294967295:=fun w=>dQ _ w;go_enter func266,ntmps266;exact w_
attribute [local go_sem] undef in
theorem Gg(hi lo:Int)(c:hi=0)(c2:decide (4294967295<lo)=E)(w:World):
  Io 0 4294967295 0 hi lo w 4294967295 V:=by
 subst c;have HE:jv 0 4294967295:=fun w=>dQ _ w;go_enter func266,ntmps266;exact w_
attribute [local go_sem] undef in
theorem IJ(hi lo:Int)(c:hi=0)(c2:decide (4294967295<lo)=V)(w:World):
  Io 0 4294967295 0 hi lo w lo E:=by
 subst c;have HE:jv 0 4294967295:=fun w=>dQ _ w;have HL:jv 0 lo:=fun w=>dQ _ w;go_enter func266,ntmps266;exact Bz
attribute [local go_sem] undef in
theorem F8(hi lo:Int)(c:(hi != 0)=E)(w:World):
  Io 0 4294967295 1 hi lo w 0 V:=by
 exact aDJ
attribute [local go_sem] undef in
theorem F9(hi lo:Int)(c:hi=0)(c2:decide (0<lo)=E)(w:World):
  Io 0 4294967295 1 hi lo w 0 V:=by
 subst c;exact aDJ
attribute [local go_sem] undef in
theorem II(hi lo r:Int)(c:hi=0)(c2:decide (0<lo)=V)(hr:IntKind.u64.wrap (-lo)=r)(w:World):
  Io 0 4294967295 1 hi lo w r E:=by
 subst c;have HE:jv 1 0:=fun w=>fF _ _ (by decide+kernel) w;have HL:KW 262 #[J 1,Y lo] (Y r):=fun w=>fF _ _ hr w;go_enter func266,ntmps266;exact Bz
attribute [local go_sem] undef in
theorem F6(hi lo:Int)(c:(hi != 0)=E)(w:World):
  Il 0 18446744073709551615 0 hi lo w 18446744073709551615 V:=by
 exact XC
attribute [local go_sem] undef in
theorem F7(hi lo:Int)(c:hi=0)(c2:decide (18446744073709551615<lo)=E)(w:World):
  Il 0 18446744073709551615 0 hi lo w 18446744073709551615 V:=by
 subst c;exact XC
attribute [local go_sem] undef in
theorem IE(hi lo:Int)(c:hi=0)(c2:decide (18446744073709551615<lo)=V)(w:World):
  Il 0 18446744073709551615 0 hi lo w lo E:=by
 subst c;have HE:jv 0 18446744073709551615:=fun w=>dQ _ w;have HL:jv 0 lo:=fun w=>dQ _ w;go_enter func268,ntmps268;exact Bz
attribute [local go_sem] undef in
theorem FY(hi lo:Int)(c:(hi != 0)=E)(w:World):
  Il 0 18446744073709551615 1 hi lo w 0 V:=by
 exact XD
attribute [local go_sem] undef in
theorem FZ(hi lo:Int)(c:hi=0)(c2:decide (0<lo)=E)(w:World):
  Il 0 18446744073709551615 1 hi lo w 0 V:=by
 subst c;exact XD
attribute [local go_sem] undef in
theorem IC(hi lo r:Int)(c:hi=0)(c2:decide (0<lo)=V)(hr:IntKind.u64.wrap (-lo)=r)(w:World):
  Il 0 18446744073709551615 1 hi lo w r E:=by
 subst c;have HE:jv 1 0:=fun w=>fF _ _ (by decide+kernel) w;have HL:KW 262 #[J 1,Y lo] (Y r):=fun w=>fF _ _ hr w;go_enter func268,ntmps268;exact Bz
