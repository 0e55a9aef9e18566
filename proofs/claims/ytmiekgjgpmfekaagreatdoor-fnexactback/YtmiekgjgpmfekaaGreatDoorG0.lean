import Derived.Test.YtmiekgjgpmfekaaGreatDoorPm
import Derived.Deep.RegionHeld3
import Derived.Deep.DeepCutAuto
import Derived.BigQuiet
import Derived.Deep.QuietTactic
import Derived.WalkSmall
import Derived.Laws.Bits64b
set_option linter.all false
set_option maxRecDepth 1000000
set_option maxHeartbeats 40000000
open Bool renaming false → V, true → E
open Go.Proofs.YtmiekgjgpmfekaaGreatDoor renaming vI → J, vU → Y
open Go.Value renaming int → Z, bool → O, tuple → X
open Go.Proofs.Tryz
namespace Go.Proofs.YtmiekgjgpmfekaaGreatDoor
open Go.RowKit
attribute [local go_sem] aj
variable{n N b cap M n' N' b' cap':Nat}{w W:World}{v v2:Value}
theorem mX(w:World)(N:Nat):Own (w.alloc (.cells #[] 183)) w.heap.size (aB w.heap.size 0 0) 0 N:=by
 refine⟨?_,by simp⟩;have:=World.ownsRow_lit (base:=w.heap.size) (e:=183) (size:=1) w #[] 0 (Nat.le_refl _) (Nat.zero_le _) rfl
 simpa[XW]using this
theorem WT(z r:Nat)(hr:r<32)(hz:z<=1000000)(hn:n<=1000000)(hpos:0<n)(hN:N<4294967296^n)
  (hcell:∀j,j<n->aj w b j (Z .u32 (dg N j:Int))) (hcap:n<=cap) (s:Nat) (hs:s=32*z+r) (hM:M=N*2^(32*z+r)):
  CT 99 #[aB b n cap,J s] w fun e w'=>∃v' k,e=.returned v'/\Big w' v' k M/\k<=n+z+1/\Gb w w':=by
 have HC:Hid _:=hcell;have HN:Hid _:=hN;have HM:Hid _:=hM;have hq:(s:Int)/32=(z:Int):=om;have hm:(s:Int)%32=(r:Int):=om;have hs1:s<=100000000:=om;have HS:Hid _:=hs;have n0:((n:Int)==0)=V:=by simp;omega
 clear hcell hN hs hM;go_enter func99,ntmps99;go_wp2;go_loopw [5,6] (fun v i wr=>∃k:Nat,k<=z/\i=J k/\Own wr w.heap.size v k M/\Gb w wr) (fun _ i _=>z-(intOf i).toNat)
 case atStart=>exact⟨0,Nat.zero_le _,rfl,mX w _,(Gb.refl w).alloc _⟩
 case round=>
  obtain⟨k,hk,rfl,hown,hgb⟩:=hrel;by_cases hlt:k<z
  ·have hlt':(k:Int)<(z:Int):=om;have hd:((dg M k:Nat):Int)=0:=by rw[HM.out,aBT N r z k hlt];rfl
   have HD:Hid _:=hd;have hsz:=hgb.size;have HO:Hid _:=hown;have HG:Hid _:=hgb;clear hd hown hgb;go_wp2_with (at_builtin;refine dH rfl _ _ rfl w.heap.size k M _ wr.heap.size rfl (Own.alloc HO.out _) rfl (by rw[HD.out];simp[go_sem]) om (by simp[go_sem];omega) ?_;intro v' w1 hown1 hb1);go_roundw
   case rel=>exact⟨k+1,om,by go_num,hown1,Gb.below (Gb.alloc HG.out _) hb1 (Nat.le_refl _)⟩
   case measure=>simp[intOf]<;>omega
  ·obtain rfl:k=z:=om;go_wp2;go_loopw [5,7,8] (fun v c i wr'=>∃i' c':Nat,i'<=n/\i=J i'/\c=Y c'/\Hid (c'=N%4294967296^i'*2^r/4294967296^i')/\Own wr' w.heap.size v (k+i') M/\Gb w wr') (fun _ _ i _=>n-(intOf i).toNat)
   case atStart=>exact⟨0,0,Nat.zero_le _,rfl,rfl,by show _=_;simp[Nat.mod_one],hown,hgb⟩
   case round=>
    obtain⟨i,c,hi,rfl,rfl,Xw,hown2,FD⟩:=hrel;have hcl:=Jt N r i hr;rw[<-Xw.out]at hcl;have hsz:=FD.size;have HO:Hid _:=hown2;have HG:Hid _:=FD;clear hown2 FD;by_cases hin:i<n
    ·have hin':(i:Int)<(n:Int):=om;have hc:aj wr b i (Z .u32 (dg N i:Int)):=Gb.old HG.out (HC i hin);obtain⟨e1,e2⟩:=Vr N r i c Xw.out;have hdl:=jm N i;obtain⟨b1,b2⟩:=Vo (dg N i) r c hdl hr hcl;have hdm:dg M (k+i)=(dg N i*2^r+c)%4294967296:=by rw[HM.out,YQ,e1]
     obtain⟨y,hy⟩:∃y:Nat,y=dg N i*2^r:=⟨_,rfl⟩;have hw1:IntKind.u64.wrap ((dg N i:Int)*2^r)=(y:Int):=by
      have e:(dg N i:Int)*2^r=(y:Int):=by rw[hy];push_cast;rfl
      rw[e,IntKind.wrap_u64];omega
     rw[<-hy]at b1 b2 hdm e2;have yK:Hid ((((y:Int)+(c:Int))%4294967296)=(dg M (k+i):Int)):=by show _=_;rw[hdm];omega
     have HE2:Hid _:=e2;clear hy e1 e2 hdm;generalize dg N i=t at*
     go_wp2_with (at_builtin;refine dH rfl _ _ rfl w.heap.size (k+i) M _ wr.heap.size rfl (Own.alloc HO.out _) rfl (by rw[<-yK.out];simp[go_sem]) om (by simp[go_sem];omega) ?_;intro v' w1 hown1 hb1);go_roundw
     case rel=>exact⟨i+1,(y+c)/4294967296,om,by go_num,by go_num,by show _=_;rw[HE2.out],hown1,Gb.below (Gb.alloc HG.out _) hb1 (Nat.le_refl _)⟩
     case measure=>simp[intOf]<;>omega
    ·obtain rfl:i=n:=om;obtain⟨f1,f2⟩:=aBU N r k i HN.out hr;have yK:Hid ((c:Int)=(dg M (k+i):Int)):=by show _=_;rw[HM.out,f1,<-Xw.out]
     have HF2:Hid (M<4294967296^(k+i+1)):=by show _<_;rw[HM.out];exact f2
     clear f1 f2;go_wp2_with (first
      |(at_builtin;refine dH rfl _ _ rfl w.heap.size (k+i) M _ wr.heap.size rfl (Own.alloc HO.out _) rfl (by rw[<-yK.out];simp[go_sem]) om (by simp[go_sem];omega) ?_;intro v' w1 hown1 hb1)
      |(go_at_call 162;refine(kQ (Own.raw hown1 HF2.out) om).mono ?_;rintro e w' ⟨v'',k',rfl,hw,hbig,hk'⟩;subst hw))
     go_returns;exact⟨_,_,rfl,hbig,om,Gb.below (Gb.alloc HG.out _) hb1 (Nat.le_refl _)⟩
theorem fZ(h:Big w v n N)(hn:n<=1000000)(s:Nat)(hs:s<=10000000):
  CT 99 #[v,J s] w fun e w'=>∃v' k,e=.returned v'/\Big w' v' k (N*2^s)/\k<=n+s/32+1/\Gb w w':=by
 obtain⟨hnm,hN,b,cap,rfl,hcap,hmx,hcell⟩:=h;rcases Nat.eq_zero_or_pos n with rfl|hpos
 ·have e:N*2^s=N:=by rw[hnm.zero];simp
  rw[e];have HB:Hid (Big w (aB b 0 cap) 0 N):=⟨hnm,hN,b,cap,rfl,hcap,hmx,hcell⟩;clear hcell hnm hN e;go_enter func99,ntmps99;go_wp2;go_returns;exact⟨_,_,rfl,HB.out,om,Gb.refl w⟩
 ·have e:32*(s/32)+s%32=s:=om;refine(WT (M:=N*2^s) (s/32) (s%32) om om hn hpos hN hcell hcap s om (by rw[e])).mono ?_;exact fun _ _ h=>h
theorem aEL{P:Prop}(h:P:=by
 go_wp2_with (at_builtin;go_loud (refine dH rfl _ _ rfl w.heap.size k M _ wr.heap.size rfl (Own.alloc HO.out _) rfl (by rw[<-yK.out];simp[go_sem]) om (by simp[go_sem];omega) ?_;intro v' w1 hown1 hb1));go_roundw
 case rel=>exact⟨k+1,j+1,by show _=_;have:=HJ.out;omega,.inr om,om,HJN.out,by go_num,hown1,Gb.below (Gb.alloc HG.out _) hb1 (Nat.le_refl _)⟩
 case measure=>simp[intOf]<;>omega):P:=h
theorem MR(x r:Nat):((x/2^r%4294967296:Nat):Int)=(x:Int)/2^r%4294967296:=by
 rw[Int.natCast_emod,Int.natCast_ediv,Int.natCast_pow];rfl
theorem RD(z r:Nat)(hr:r<32)(hz:z<=1000000)(hn:n<=1000000)(hN:N<4294967296^n)
  (hcell:∀j,j<n->aj w b j (Z .u32 (dg N j:Int))) (hcap:n<=cap) (s:Nat) (hs:s=32*z+r) (hM:M=N/2^(32*z+r)):
  CT 187 #[aB b n cap,J s] w fun e w'=>∃v' k,e=.returned v'/\Big w' v' k M/\k<=n/\Gb w w':=by
 have HC:Hid _:=hcell;have HN:Hid _:=hN;have HM:Hid _:=hM;have hq:(s:Int)/32=(z:Int):=om;have hm:(s:Int)%32=(r:Int):=om;have hs1:s<=100000000:=om;have HS:Hid _:=hs;clear hcell hN hs hM;go_enter func187,ntmps187;go_wp2;go_loopw [5,6] (fun v i wr=>∃k j:Nat,Hid (j=z+k)/\Hid (k=0\/j<=n)/\j<=2000000/\k<=1000000/\i=J j/\Own wr w.heap.size v k M/\Gb w wr) (fun _ i _=>n-(intOf i).toNat)
 case atStart=>exact⟨0,z,by show _=_;omega,.inl rfl,om,om,by go_num,mX w _,(Gb.refl w).alloc _⟩
 case round=>
  obtain⟨k,j,HJ,HK,hj2,hk2,rfl,hown,hgb⟩:=hrel;have hsz:=hgb.size;have HO:Hid _:=hown;have HG:Hid _:=hgb;clear hown hgb;by_cases hlt:j<n
  ·have hlt':(j:Int)<(n:Int):=om;have hdM:dg M k=(dg N j+dg N (j+1)*4294967296)/2^r%4294967296:=by rw[HM.out,HJ.out];exact aFA N r z k hr
   have hc:aj wr b j (Z .u32 (dg N j:Int)):=Gb.old HG.out (HC j hlt);have hd0:=jm N j;have hd1:=jm N (j+1);have HJN:Hid (k+1<=1000000):=by show _<=_;have:=HJ.out;omega
   by_cases hlt2:j+1<n
   ·have aKI:(j:Int)+1<(n:Int):=om;have hc2:aj wr b (j+1) (Z .u32 (dg N (j+1):Int)):=Gb.old HG.out (HC (j+1) hlt2);obtain⟨x,hx⟩:∃x:Nat,x=dg N j+dg N (j+1)*4294967296:=⟨_,rfl⟩;have hxi:(dg N j:Int)+(dg N (j+1):Int)*4294967296=(x:Int):=om;have aK6:x<18446744073709551616:=om;rw[<-hx]at hdM;have yK:Hid ((x:Int)/2^r%4294967296=(dg M k:Int)):=by show _=_;rw[hdM,MR]
    clear hdM hx;generalize dg N j=t0 at*
    generalize dg N (j+1)=t1 at*
    exact aEL
   ·have hnl:¬(j:Int)+1<(n:Int):=om;have hz1:dg N (j+1)=0:=mY HN.out om;rw[hz1]at hdM;simp only[Nat.zero_mul,Nat.add_zero]at hdM;have yK:Hid ((dg N j:Int)/2^r%4294967296=(dg M k:Int)):=by show _=_;rw[hdM,MR]
    clear hdM hz1 hd1;generalize dg N j=t0 at*
    exact aEL
  ·have hlt':¬(j:Int)<(n:Int):=om;have HL:Hid (M<4294967296^k/\k<=n):=by
    have hJ:=HJ.out;rcases HK.out with rfl|hk
    ·have:=YP N r z n HN.out om;refine⟨?_,om⟩;rw[HM.out,this];decide
    ·have:=aFz N r z n HN.out om;refine⟨?_,om⟩;rw[HM.out,show k=n-z by omega];exact this
   go_wp2_with (go_at_call 162;refine(kQ (Own.raw HO.out HL.out.1) (by have:=HL.out.2;omega)).mono ?_;rintro e w' ⟨v'',k',rfl,hw,hbig,hk'⟩;subst hw);go_returns;exact⟨_,_,rfl,hbig,by have:=HL.out.2;omega,HG.out⟩
theorem rW(h:Big w v n N)(hn:n<=1000000)(s:Nat)(hs:s<=10000000):
  CT 187 #[v,J s] w fun e w'=>∃v' k,e=.returned v'/\Big w' v' k (N/2^s)/\k<=n/\Gb w w':=by
 obtain⟨hnm,hN,b,cap,rfl,hcap,hmx,hcell⟩:=h;have e:32*(s/32)+s%32=s:=om;exact RD (M:=N/2^s) (s/32) (s%32) om om hn hN hcell hcap s om (by rw[e])
theorem aEJ{P:Prop}(h:P:=by
 go_wp2_with (at_builtin;go_loud (refine dH rfl _ _ rfl w.heap.size k M _ wr.heap.size rfl (Own.alloc HO.out _) rfl (by rw[<-yK.out];simp[go_sem]) om (by simp[go_sem];omega) ?_;intro v' w1 hown1 hb1));go_roundw
 case rel=>exact⟨k+1,0,om,by go_num,by go_num,by show _=_;rw[HE2.out],hown1,Gb.below (Gb.alloc HG.out _) hb1 (Nat.le_refl _)⟩
 case measure=>simp[intOf]<;>omega):P:=h
theorem aEK{P:Prop}(h:P:=by
 go_wp2_with (at_builtin;go_loud (refine dH rfl _ _ rfl w.heap.size k M _ wr.heap.size rfl (Own.alloc HO.out _) rfl (by rw[<-yK.out];simp[go_sem]) om (by simp[go_sem];omega) ?_;intro v' w1 hown1 hb1));go_roundw
 case rel=>exact⟨k+1,1,om,by go_num,by go_num,by show _=_;rw[HE2.out],hown1,Gb.below (Gb.alloc HG.out _) hb1 (Nat.le_refl _)⟩
 case measure=>simp[intOf]<;>omega):P:=h
theorem Rz(hn:n<=1000000)(hN:N<4294967296^n)(hn':n'<=1000000)(hN':N'<4294967296^n')
  (hcell:∀j,j<n->aj w b j (Z .u32 (dg N j:Int))) (hcap:n<=cap) (hcell':∀j,j<n'->aj w b' j (Z .u32 (dg N' j:Int))) (hcap':n'<=cap') (hle:N'<=N) (hM:M=N-N'):
  CT 176 #[aB b n cap,aB b' n' cap'] w fun e w'=>∃v' k,e=.returned v'/\Big w' v' k M/\k<=n/\Gb w w':=by
 have HC:Hid _:=hcell;have HN:Hid _:=hN;have PO:Hid _:=hcell';have HN':Hid _:=hN';have HM:Hid _:=hM;have HL:Hid _:=hle;clear hcell hN hM hcell' hN' hle;go_enter func176,ntmps176;go_wp2;go_loopw [5,6,7] (fun v c i wr=>∃k c':Nat,k<=n/\i=J k/\c=Y c'/\Hid (c'=PL N N' k)/\Own wr w.heap.size v k M/\Gb w wr) (fun _ _ i _=>n-(intOf i).toNat)
 case atStart=>exact⟨0,0,Nat.zero_le _,rfl,rfl,by show _=_;rw[OT],mX w _,(Gb.refl w).alloc _⟩
 case round=>
  obtain⟨k,c,hk,rfl,rfl,Xw,hown,hgb⟩:=hrel;have hsz:=hgb.size;have HO:Hid _:=hown;have HG:Hid _:=hgb;clear hown hgb;by_cases hl:k<n
  ·have hc:aj wr b k (Z .u32 (dg N k:Int)):=Gb.old HG.out (HC k hl);have hl1:(k:Int)<(n:Int):=om;have e1:=YI N N' k HL.out;have e2:=OU N N' k;have c1:=S9 N N' k;rw[<-Xw.out]at e1 e2 c1;rw[<-HM.out]at e1;have hd0:=jm N k;have hd1:=jm N' k;have hd2:=jm M k;by_cases hl':k<n'
   ·have hc':aj wr b' k (Z .u32 (dg N' k:Int)):=Gb.old HG.out (PO k hl');have FC:(k:Int)<(n':Int):=om;by_cases hb:dg N k<dg N' k+c
    ·rw[if_pos hb]at e1 e2;have yK:Hid ((dg N k:Int)+4294967296-((c:Int)+(dg N' k:Int))=(dg M k:Int)):=by show _=_;omega
     have HE2:Hid _:=e2;have hb1:(dg N k:Int)<(c:Int)+(dg N' k:Int):=om;have hb2:(dg N k:Int)+4294967296-((c:Int)+(dg N' k:Int))<4294967296:=om;clear e1 e2 hd2;generalize dg N k=t at*
     generalize dg N' k=t' at*
     exact aEK
    ·rw[if_neg hb]at e1 e2;have yK:Hid ((dg N k:Int)-((c:Int)+(dg N' k:Int))=(dg M k:Int)):=by show _=_;omega
     have HE2:Hid _:=e2;have hb1:¬(dg N k:Int)<(c:Int)+(dg N' k:Int):=om;have hb2:(dg N k:Int)-((c:Int)+(dg N' k:Int))<4294967296:=om;clear e1 e2 hd2;generalize dg N k=t at*
     generalize dg N' k=t' at*
     exact aEJ
   ·have FC:¬(k:Int)<(n':Int):=om;have hz:dg N' k=0:=mY HN'.out om;rw[hz]at e1 e2;by_cases hb:dg N k<0+c
    ·rw[if_pos hb]at e1 e2;have yK:Hid ((dg N k:Int)+4294967296-(c:Int)=(dg M k:Int)):=by show _=_;omega
     have HE2:Hid _:=e2;have hb1:(dg N k:Int)<(c:Int):=om;have hb2:(dg N k:Int)+4294967296-(c:Int)<4294967296:=om;clear e1 e2 hd2 hz hd1 hb;generalize dg N k=t at*
     exact aEK
    ·rw[if_neg hb]at e1 e2;have yK:Hid ((dg N k:Int)-(c:Int)=(dg M k:Int)):=by show _=_;omega
     have HE2:Hid _:=e2;have hb1:¬(dg N k:Int)<(c:Int):=om;have hb2:(dg N k:Int)-(c:Int)<4294967296:=om;clear e1 e2 hd2 hz hd1 hb;generalize dg N k=t at*
     exact aEJ
  ·have hl1:¬(k:Int)<(n:Int):=om;have HF:Hid (M<4294967296^k):=by
    have h1:=HN.out;show _<_;rw[HM.out,show k=n by omega];omega
   go_wp2_with (go_at_call 162;refine(kQ (Own.raw HO.out HF.out) om).mono ?_;rintro e w' ⟨v'',k',rfl,hw,hbig,hk'⟩;subst hw);go_returns;exact⟨_,_,rfl,hbig,om,HG.out⟩
theorem mF(h:Big w v n N)(hn:n<=1000000)(h':Big w v2 n' N')(hn':n'<=1000000)(hle:N'<=N):
  CT 176 #[v,v2] w fun e w'=>∃v' k,e=.returned v'/\Big w' v' k (N-N')/\k<=n/\Gb w w':=by
 obtain⟨hnm,hN,b,cap,rfl,hcap,hmx,hcell⟩:=h;obtain⟨hnm',hN',b',cap',rfl,hcap',J6,hcell'⟩:=h';exact Rz hn hN hn' hN' hcell hcap hcell' hcap' hle rfl
theorem RY(hn:n<=1000000)(hN:N<4294967296^n)(hn':n'<=1000000)(hN':N'<4294967296^n')
  (hcell:∀j,j<n->aj w b j (Z .u32 (dg N j:Int))) (hcap:n<=cap) (hcell':∀j,j<n'->aj w b' j (Z .u32 (dg N' j:Int))) (hcap':n'<=cap') (hM:M=N+N'):
  CT 163 #[aB b n cap,aB b' n' cap'] w fun e w'=>∃v' k,e=.returned v'/\Big w' v' k M/\k<=n+n'+1/\Gb w w':=by
 have HC:Hid _:=hcell;have HN:Hid _:=hN;have PO:Hid _:=hcell';have HN':Hid _:=hN';have HM:Hid _:=hM;clear hcell hN hM hcell' hN';go_enter func163,ntmps163;go_wp2;go_loopw [5,6,7] (fun v c i wr=>∃k c':Nat,(k<=n\/k<=n')/\i=J k/\c=Y c'/\Hid (c'=(N%4294967296^k+N'%4294967296^k)/4294967296^k)/\Own wr w.heap.size v k M/\Gb w wr) (fun _ _ i _=>n+n'-(intOf i).toNat)
 case atStart=>exact⟨0,0,.inl (Nat.zero_le _),rfl,rfl,by show _=_;simp[Nat.mod_one],mX w _,(Gb.refl w).alloc _⟩
 case round=>
  obtain⟨k,c,hk,rfl,rfl,Xw,hown,hgb⟩:=hrel;have hsz:=hgb.size;have HO:Hid _:=hown;have HG:Hid _:=hgb;clear hown hgb;obtain⟨e1,e2,c1⟩:=IX N N' k c Xw.out;have hd0:=jm N k;have hd1:=jm N' k;have yK:Hid (((c:Int)+(dg N k:Int)+(dg N' k:Int))%4294967296=(dg M k:Int)):=by show _=_;rw[HM.out,e1];omega
  have HE2:Hid _:=e2;clear e1 e2;by_cases hl:k<n
  ·have hc:aj wr b k (Z .u32 (dg N k:Int)):=Gb.old HG.out (HC k hl);have hl1:(k:Int)<(n:Int):=om;by_cases hl':k<n'
   ·have hc':aj wr b' k (Z .u32 (dg N' k:Int)):=Gb.old HG.out (PO k hl');have FC:(k:Int)<(n':Int):=om;generalize dg N k=t at*
    generalize dg N' k=t' at*
    go_wp2_with (at_builtin;go_loud (refine dH rfl _ _ rfl w.heap.size k M _ wr.heap.size rfl (Own.alloc HO.out _) rfl (by rw[<-yK.out];simp[go_sem]) om (by simp[go_sem];omega) ?_;intro v' w1 hown1 hb1));go_roundw
    case rel=>exact⟨k+1,(c+t+t')/4294967296,.inl om,by go_num,by go_num,by show _=_;rw[HE2.out],hown1,Gb.below (Gb.alloc HG.out _) hb1 (Nat.le_refl _)⟩
    case measure=>simp[intOf]<;>omega
   ·have FC:¬(k:Int)<(n':Int):=om;have hz:dg N' k=0:=mY HN'.out om;rw[hz]at HE2;have Gn:Hid (((c:Int)+(dg N k:Int))%4294967296=(dg M k:Int)):=by show _=_;rw[<-yK.out,hz];simp
    clear hz yK hd1;generalize dg N k=t at*
    go_wp2_with (at_builtin;go_loud (refine dH rfl _ _ rfl w.heap.size k M _ wr.heap.size rfl (Own.alloc HO.out _) rfl (by rw[<-Gn.out];simp[go_sem]) om (by simp[go_sem];omega) ?_;intro v' w1 hown1 hb1));go_roundw
    case rel=>exact⟨k+1,(c+t)/4294967296,.inl om,by go_num,by go_num,by show _=_;rw[HE2.out];rfl,hown1,Gb.below (Gb.alloc HG.out _) hb1 (Nat.le_refl _)⟩
    case measure=>simp[intOf]<;>omega
  ·have hl1:¬(k:Int)<(n:Int):=om;have hz:dg N k=0:=mY HN.out om;by_cases hl':k<n'
   ·have hc':aj wr b' k (Z .u32 (dg N' k:Int)):=Gb.old HG.out (PO k hl');have FC:(k:Int)<(n':Int):=om;rw[hz]at HE2;have Gn:Hid (((c:Int)+(dg N' k:Int))%4294967296=(dg M k:Int)):=by show _=_;rw[<-yK.out,hz];simp
    clear hz yK hd0;generalize dg N' k=t at*
    go_wp2_with (at_builtin;go_loud (refine dH rfl _ _ rfl w.heap.size k M _ wr.heap.size rfl (Own.alloc HO.out _) rfl (by rw[<-Gn.out];simp[go_sem]) om (by simp[go_sem];omega) ?_;intro v' w1 hown1 hb1));go_roundw
    case rel=>exact⟨k+1,(c+t)/4294967296,.inr om,by go_num,by go_num,by show _=_;rw[HE2.out];rfl,hown1,Gb.below (Gb.alloc HG.out _) hb1 (Nat.le_refl _)⟩
    case measure=>simp[intOf]<;>omega
   ·have FC:¬(k:Int)<(n':Int):=om;have Gn:Hid ((c:Int)=(dg M k:Int)):=by
     have:=UW HN.out HN'.out (show n<=k by omega) (show n'<=k by omega);show _=_;rw[HM.out,this,<-Xw.out]
    have HF:Hid (M<4294967296^(k+1)):=by
     have:=BN HN.out HN'.out (show n<=k by omega) (show n'<=k by omega);show _<_;rw[HM.out];exact this
    clear hz yK hd0 hd1 HE2;have hkb:k<=n+n':=om;go_wp2_with (first
     |(at_builtin;go_loud (refine dH rfl _ _ rfl w.heap.size k M _ wr.heap.size rfl (Own.alloc HO.out _) rfl (by rw[<-Gn.out];simp[go_sem]) om (by simp[go_sem];omega) ?_;intro v' w1 hown1 hb1))
     |(go_at_call 162;refine(kQ (Own.raw hown1 HF.out) om).mono ?_;rintro e w' ⟨v'',k',rfl,hw,hbig,hk'⟩;subst hw))
    go_returns;exact⟨_,_,rfl,hbig,om,Gb.below (Gb.alloc HG.out _) hb1 (Nat.le_refl _)⟩
theorem BD(h:Big w v n N)(hn:n<=1000000)(h':Big w v2 n' N')(hn':n'<=1000000):
  CT 163 #[v,v2] w fun e w'=>∃v' k,e=.returned v'/\Big w' v' k (N+N')/\k<=n+n'+1/\Gb w w':=by
 obtain⟨hnm,hN,b,cap,rfl,hcap,hmx,hcell⟩:=h;obtain⟨hnm',hN',b',cap',rfl,hcap',J6,hcell'⟩:=h';exact RY hn hN hn' hN' hcell hcap hcell' hcap' rfl
theorem L6{P:Prop}(h:P:=by
 go_enter func87,ntmps87;go_wp2;go_returns;exact⟨rfl,Gr.g⟩):P:=h
theorem H_{P:Prop}(h:P:=by
 go_wp2_with (go_at_call 262;refine kw (HT _) ?_);go_returns;exact⟨rfl,Gr.g⟩):P:=h
theorem sF(w:World):QR 87 #[J 0] w (X #[.iface 180 (.agg #[Z .i32 (-2147483648),Z .i32 2147483647]),O E]):=by
 exact L6
theorem lD(w:World):QR 87 #[J 1] w (X #[.iface 182 (gW (-9223372036854775808) 9223372036854775807),O E]):=by
 exact L6
theorem sD(w:World):QR 87 #[J 2] w (X #[.iface 185 (.agg #[Z .u32 0,Z .u32 4294967295]),O E]):=by
 exact L6
theorem su(w:World):QR 87 #[J 3] w (X #[.iface 187 (aG 0 18446744073709551615),O E]):=by
 exact L6
theorem BF(kind:Int)(h:¬(0<=kind/\kind<=3))(w:World):QR 87 #[J kind] w (X #[Value.nilIface,O V]):=by
 rcases(show kind<0\/4<=kind by omega)with c|c
 all_goals
  clear h;exact L6
theorem fH(v m:Int)(h:IntKind.u64.wrap (-v)=m)(w:World):QW 262 #[J 1,Y v] w (Y m):=by
 go_enter func262,ntmps262;go_wp2;go_returns;exact⟨rfl,rfl⟩
theorem dQ(v:Int)(w:World):QW 262 #[J 0,Y v] w (Y v):=by
 go_enter func262,ntmps262;go_wp2;go_returns;exact⟨rfl,rfl⟩
theorem Oy(v x y m:Int)(q:Bool)(hx:IntKind.i32.wrap v=x)(c:x<0)(hy:IntKind.u64.wrap x=y)(hq:(y==v)=q)(hm:IntKind.u64.wrap (-v)=m)(w:World):
  QR 260 #[.agg #[Z .i32 (-2147483648),Z .i32 2147483647],Y v] w (X #[J 1,Y m,O q]):=by
 have HT:KW 262 #[J 1,Y v] (Y m):=fun w=>fH v m hm w;go_enter func260,ntmps260;exact H_
theorem Ox(v x y:Int)(q:Bool)(hx:IntKind.i32.wrap v=x)(c:0<=x)(hy:IntKind.u64.wrap x=y)(hq:(y==v)=q)(w:World):
  QR 260 #[.agg #[Z .i32 (-2147483648),Z .i32 2147483647],Y v] w (X #[J 0,Y v,O q]):=by
 have HT:jC 0 v:=fun w=>dQ v w;go_enter func260,ntmps260;exact H_
theorem CX(v x y m:Int)(q:Bool)(hx:IntKind.i64.wrap v=x)(c:x<0)(hy:IntKind.u64.wrap x=y)(hq:(y==v)=q)(hm:IntKind.u64.wrap (-v)=m)(w:World):
  QR 263 #[gW (-9223372036854775808) 9223372036854775807,Y v] w (X #[J 1,Y m,O q]):=by
 have HT:KW 262 #[J 1,Y v] (Y m):=fun w=>fH v m hm w;go_enter func263,ntmps263;exact H_
theorem CW(v x y:Int)(q:Bool)(hx:IntKind.i64.wrap v=x)(c:0<=x)(hy:IntKind.u64.wrap x=y)(hq:(y==v)=q)(w:World):
  QR 263 #[gW (-9223372036854775808) 9223372036854775807,Y v] w (X #[J 0,Y v,O q]):=by
 have HT:jC 0 v:=fun w=>dQ v w;go_enter func263,ntmps263;exact H_
theorem Ov(v x y:Int)(q:Bool)(hx:IntKind.u32.wrap v=x)(c:0<=x)(hy:IntKind.u64.wrap x=y)(hq:(y==v)=q)(w:World):
  QR 265 #[.agg #[Z .u32 0,Z .u32 4294967295],Y v] w (X #[J 0,Y v,O q]):=by
 have HT:jC 0 v:=fun w=>dQ v w;go_enter func265,ntmps265;exact H_
theorem Ou(v:Int)(c:0<=v)(hv:IntKind.u64.wrap v=v)(w:World):
  QR 267 #[aG 0 18446744073709551615,Y v] w (X #[J 0,Y v,O E]):=by
 have HT:jC 0 v:=fun w=>dQ v w;go_enter func267,ntmps267;exact H_
theorem Yp{P:Prop}(h:P:=by
 have HE:jC 0 9223372036854775807:=fun w=>dQ _ w;go_enter func264,ntmps264;exact xX):P:=h
theorem Yq{P:Prop}(h:P:=by
 have HE:jC 0 18446744073709551615:=fun w=>dQ _ w;go_enter func268,ntmps268;exact xX):P:=h
theorem Yr{P:Prop}(h:P:=by
 have HE:jC 1 0:=fun w=>fH _ _ (by decide+kernel) w;go_enter func268,ntmps268;exact xX):P:=h
theorem aEG{P:Prop}(h:P:=by
 have HE:jC 1 0:=fun w=>fH _ _ (by decide+kernel) w;go_enter func266,ntmps266;exact xX):P:=h
theorem aEH{P:Prop}(h:P:=by
 have HE:jC 1 9223372036854775808:=fun w=>fH _ _ (by decide+kernel) w;have u1:IntKind.u64.wrap (-9223372036854775808)=9223372036854775808:=by decide+kernel
 go_enter func264,ntmps264;exact xX):P:=h
theorem aEI{P:Prop}(h:P:=by
 have HE:KW 262 #[J 1,Y 18446744071562067968] (Y 2147483648):=fun w=>fH _ _ (by decide+kernel) w;have u1:IntKind.u64.wrap (-2147483648)=18446744071562067968:=by decide+kernel
 go_enter func261,ntmps261;exact xX):P:=h
theorem Cb{P:Prop}(h:P:=by
 go_wp2;go_quiet (first|(go_at_call 262;refine Calls.quiet_of_same ((HE _).mono (fun e w' h=>⟨h.1,h.2.symm⟩))));all_goals go_wp2_with (go_at_call 262;with_reducible refine kw (HL.out _) ?_)
 all_goals go_returns
 all_goals exact⟨rfl,Ol Gr.g⟩):P:=h
theorem xX{P:Prop}(h:P:=by
 go_wp2;go_quiet (first|(go_at_call 262;refine Calls.quiet_of_same ((HE _).mono (fun e w' h=>⟨h.1,h.2.symm⟩))));all_goals go_wp2
 all_goals go_returns
 all_goals exact⟨rfl,Ol Gr.g⟩):P:=h
theorem Ol(h:Gr W w):Gr W (w.drewN n):=by
 obtain⟨⟨⟨a1,a2,a3⟩,b,c⟩,d⟩:=h;exact⟨⟨⟨a1,a2,a3⟩,b,c⟩,below_drewN d n⟩
attribute [local go_sem] undef in
theorem GN(hi lo:Int)(c:(hi != 0)=E)(w:World):
  QR 261 #[.agg #[Z .i32 (-2147483648),Z .i32 2147483647],J 0,aG hi lo] w (X #[Y 2147483647,O V]):=by
 have HE:jC 0 2147483647:=fun w=>dQ _ w;go_enter func261,ntmps261;exact xX
attribute [local go_sem] undef in
theorem GR(hi lo:Int)(c:hi=0)(c2:decide (2147483647<lo)=E)(w:World):
  QR 261 #[.agg #[Z .i32 (-2147483648),Z .i32 2147483647],J 0,aG hi lo] w (X #[Y 2147483647,O V]):=by
 subst c;have HE:jC 0 2147483647:=fun w=>dQ _ w;go_enter func261,ntmps261;exact xX
attribute [local go_sem] undef in
theorem Jm(hi lo:Int)(c:hi=0)(c2:decide (2147483647<lo)=V)(w:World):
  QR 261 #[.agg #[Z .i32 (-2147483648),Z .i32 2147483647],J 0,aG hi lo] w (X #[Y lo,O E]):=by
 subst c;have HE:jC 0 2147483647:=fun w=>dQ _ w;have HL:jC 0 lo:=fun w=>dQ _ w;go_enter func261,ntmps261;exact Cb
attribute [local go_sem] undef in
theorem GK(hi lo:Int)(c:(hi != 0)=E)(w:World):
  QR 261 #[.agg #[Z .i32 (-2147483648),Z .i32 2147483647],J 1,aG hi lo] w (X #[Y 18446744071562067968,O V]):=by
 exact aEI
attribute [local go_sem] undef in
theorem GL(hi lo:Int)(c:hi=0)(c2:decide (2147483648<lo)=E)(w:World):
  QR 261 #[.agg #[Z .i32 (-2147483648),Z .i32 2147483647],J 1,aG hi lo] w (X #[Y 18446744071562067968,O V]):=by
 subst c;exact aEI
attribute [local go_sem] undef in
theorem Jl(hi lo r:Int)(c:hi=0)(c2:decide (2147483648<lo)=V)(hr:IntKind.u64.wrap (-lo)=r)(w:World):
  QR 261 #[.agg #[Z .i32 (-2147483648),Z .i32 2147483647],J 1,aG hi lo] w (X #[Y r,O E]):=by
 subst c;have HE:KW 262 #[J 1,Y 18446744071562067968] (Y 2147483648):=fun w=>fH _ _ (by decide+kernel) w;have HL:KW 262 #[J 1,Y lo] (Y r):=fun w=>fH _ _ hr w;have u1:IntKind.u64.wrap (-2147483648)=18446744071562067968:=by decide+kernel
 go_enter func261,ntmps261;exact Cb
attribute [local go_sem] undef in
theorem yg(hi lo:Int)(c:(hi != 0)=E)(w:World):
  QR 264 #[gW (-9223372036854775808) 9223372036854775807,J 0,aG hi lo] w (X #[Y 9223372036854775807,O V]):=by
 exact Yp
attribute [local go_sem] undef in
theorem yj(hi lo:Int)(c:hi=0)(c2:decide (9223372036854775807<lo)=E)(w:World):
  QR 264 #[gW (-9223372036854775808) 9223372036854775807,J 0,aG hi lo] w (X #[Y 9223372036854775807,O V]):=by
 subst c;exact Yp
attribute [local go_sem] undef in
theorem zF(hi lo:Int)(c:hi=0)(c2:decide (9223372036854775807<lo)=V)(w:World):
  QR 264 #[gW (-9223372036854775808) 9223372036854775807,J 0,aG hi lo] w (X #[Y lo,O E]):=by
 subst c;have HE:jC 0 9223372036854775807:=fun w=>dQ _ w;have HL:jC 0 lo:=fun w=>dQ _ w;go_enter func264,ntmps264;exact Cb
attribute [local go_sem] undef in
theorem xY(hi lo:Int)(c:(hi != 0)=E)(w:World):
  QR 264 #[gW (-9223372036854775808) 9223372036854775807,J 1,aG hi lo] w (X #[Y 9223372036854775808,O V]):=by
 exact aEH
attribute [local go_sem] undef in
theorem xZ(hi lo:Int)(c:hi=0)(c2:decide (9223372036854775808<lo)=E)(w:World):
  QR 264 #[gW (-9223372036854775808) 9223372036854775807,J 1,aG hi lo] w (X #[Y 9223372036854775808,O V]):=by
 subst c;exact aEH
attribute [local go_sem] undef in
theorem zD(hi lo r:Int)(c:hi=0)(c2:decide (9223372036854775808<lo)=V)(hr:IntKind.u64.wrap (-lo)=r)(w:World):
  QR 264 #[gW (-9223372036854775808) 9223372036854775807,J 1,aG hi lo] w (X #[Y r,O E]):=by
 subst c;have HE:jC 1 9223372036854775808:=fun w=>fH _ _ (by decide+kernel) w;have HL:KW 262 #[J 1,Y lo] (Y r):=fun w=>fH _ _ hr w;have u1:IntKind.u64.wrap (-9223372036854775808)=9223372036854775808:=by decide+kernel
 go_enter func264,ntmps264;exact Cb
attribute [local go_sem] undef in
theorem GH(hi lo:Int)(c:(hi != 0)=E)(w:World):
  I5 0 4294967295 0 hi lo w 4294967295 V:=by
 have HE:jC 0 4294967295:=fun w=>dQ _ w;go_enter func266,ntmps266;exact xX
attribute [local go_sem] undef in
theorem GI(hi lo:Int)(c:hi=0)(c2:decide (4294967295<lo)=E)(w:World):
  I5 0 4294967295 0 hi lo w 4294967295 V:=by
 subst c;have HE:jC 0 4294967295:=fun w=>dQ _ w;go_enter func266,ntmps266;exact xX
attribute [local go_sem] undef in
theorem Jj(hi lo:Int)(c:hi=0)(c2:decide (4294967295<lo)=V)(w:World):
  I5 0 4294967295 0 hi lo w lo E:=by
 subst c;have HE:jC 0 4294967295:=fun w=>dQ _ w;have HL:jC 0 lo:=fun w=>dQ _ w;go_enter func266,ntmps266;exact Cb
attribute [local go_sem] undef in
theorem Gy(hi lo:Int)(c:(hi != 0)=E)(w:World):
  I5 0 4294967295 1 hi lo w 0 V:=by
 exact aEG
attribute [local go_sem] undef in
theorem Gz(hi lo:Int)(c:hi=0)(c2:decide (0<lo)=E)(w:World):
  I5 0 4294967295 1 hi lo w 0 V:=by
 subst c;exact aEG
attribute [local go_sem] undef in
theorem Ji(hi lo r:Int)(c:hi=0)(c2:decide (0<lo)=V)(hr:IntKind.u64.wrap (-lo)=r)(w:World):
  I5 0 4294967295 1 hi lo w r E:=by
 subst c;have HE:jC 1 0:=fun w=>fH _ _ (by decide+kernel) w;have HL:KW 262 #[J 1,Y lo] (Y r):=fun w=>fH _ _ hr w;go_enter func266,ntmps266;exact Cb
attribute [local go_sem] undef in
theorem Gw(hi lo:Int)(c:(hi != 0)=E)(w:World):
  I4 0 18446744073709551615 0 hi lo w 18446744073709551615 V:=by
 exact Yq
attribute [local go_sem] undef in
theorem Gx(hi lo:Int)(c:hi=0)(c2:decide (18446744073709551615<lo)=E)(w:World):
  I4 0 18446744073709551615 0 hi lo w 18446744073709551615 V:=by
 subst c;exact Yq
attribute [local go_sem] undef in
theorem Jg(hi lo:Int)(c:hi=0)(c2:decide (18446744073709551615<lo)=V)(w:World):
  I4 0 18446744073709551615 0 hi lo w lo E:=by
 subst c;have HE:jC 0 18446744073709551615:=fun w=>dQ _ w;have HL:jC 0 lo:=fun w=>dQ _ w;go_enter func268,ntmps268;exact Cb
attribute [local go_sem] undef in
theorem Gu(hi lo:Int)(c:(hi != 0)=E)(w:World):
  I4 0 18446744073709551615 1 hi lo w 0 V:=by
 exact Yr
attribute [local go_sem] undef in
theorem Gv(hi lo:Int)(c:hi=0)(c2:decide (0<lo)=E)(w:World):
  I4 0 18446744073709551615 1 hi lo w 0 V:=by
 subst c;exact Yr
attribute [local go_sem] undef in
theorem Jf(hi lo r:Int)(c:hi=0)(c2:decide (0<lo)=V)(hr:IntKind.u64.wrap (-lo)=r)(w:World):
  I4 0 18446744073709551615 1 hi lo w r E:=by
 subst c;have HE:jC 1 0:=fun w=>fH _ _ (by decide+kernel) w;have HL:KW 262 #[J 1,Y lo] (Y r):=fun w=>fH _ _ hr w;go_enter func268,ntmps268;exact Cb
def kS(s:ByteArray)(i:Nat):Int:=if h:i<s.size then(s[i].toNat :Int)else 0
theorem yX(s:ByteArray)(i:Nat):0<=kS s i/\kS s i<=255:=by
 unfold kS;split
 ·have:=(s[i]).toNat_lt;omega
 ·omega
theorem DZ(s:ByteArray)(i:Nat)(h:i<s.size)(w:World):(Instr.index 9 (.string s) (J i)).run Tryz.prog w=.ok (Z .u8 (kS s i)) w:=by
 rw[run_index_string w 9 s .i64 i Tryz.underlying9,dif_pos ⟨om,om⟩];unfold kS;rw[dif_pos h];rfl
def num(s:ByteArray)(p:Nat):Nat->Int
 |0=>0
 |k+1=>kS s p+256*num s (p+1) k
theorem Ri(s:ByteArray)(k:Nat):∀p,0<=num s p k/\num s p k<256^k:=by
 induction k with
 |zero=>intro p;exact⟨Int.le_refl _,by unfold num;decide⟩
 |succ k ih=>
  intro p;have a:=ih (p+1);have b:=yX s p;show 0<=kS s p+256*num s (p+1) k/\kS s p+256*num s (p+1) k<256^(k+1);rw[Int.pow_succ];omega
theorem aCq(s:ByteArray)(k:Nat):∀p,num s p (k+1)=num s p k+256^k*kS s (p+k):=by
 induction k with
 |zero=>intro p;simp[num]
 |succ k ih=>
  intro p;show kS s p+256*num s (p+1) (k+1)=kS s p+256*num s (p+1) k+256^(k+1)*kS s (p+(k+1));rw[ih (p+1),Int.pow_succ,show p+1+k=p+(k+1) by omega,Int.mul_add];have:256*(256^k*kS s (p+(k+1)))=256^k*256*kS s (p+(k+1)):=by rw[<-Int.mul_assoc,Int.mul_comm 256]
  omega
theorem Ii(s:ByteArray)(p:Nat):0<=num s p 8/\num s p 8<18446744073709551616:=Ri s 8 p
theorem aAJ(s:ByteArray)(p:Nat)(h:p+8<=s.size)(hs:s.size<=1048576)(w:World):
  QW 61 #[.string s,J p] w (Y (num s p 8)):=by
 go_enter func61,ntmps61;go_wp2;go_loop [5,6] (fun v i=>∃k:Nat,k<=8/\v=Y (num s (p+k) (8-k))/\i=J ((k:Int)-1)) (fun _ i=>(intOf i+1).toNat)
 case atStart=>exact⟨8,om,rfl,rfl⟩
 case round=>
  obtain⟨k,hk,rfl,rfl⟩:=hrel;by_cases h0:0<=(k:Int)-1
  ·obtain⟨j,rfl⟩:∃j,k=j+1:=⟨k-1,om⟩;have q:=DZ s (p+j) om w;have hb:=yX s (p+j);have hn:=Ri s (8-(j+1)) (p+(j+1));have hm:num s (p+(j+1)) (8-(j+1))<72057594037927936:=Int.lt_of_lt_of_le hn.2 (by
    have:=Nat.pow_le_pow_right (show 0<256 by decide) (show 8-(j+1)<=7 by omega);have e:((256^(8-(j+1)):Nat):Int)=(256:Int)^(8-(j+1)):=Int.natCast_pow _ _;omega)
   have HS:Hid (num s (p+j) (8-j)=num s (p+(j+1)) (8-(j+1))*256+kS s (p+j)):=by
    show _=_;rw[show 8-j=8-(j+1)+1 by omega];show kS s (p+j)+256*num s (p+j+1) (8-(j+1))=_;rw[show p+j+1=p+(j+1) by omega];omega
   have e1:((p+j:Nat):Int)=(p:Int)+j:=om;have e2:((j+1:Nat):Int)-1=j:=om;rw[e2];rw[e1]at q;have hn0:=hn.1;clear hn e1 e2;generalize num s (p+(j+1)) (8-(j+1))=v at*
   generalize kS s (p+j)=b at*
   go_wp2;go_round
   case rel=>exact⟨j,om,by rw[HS.out],by go_num⟩
   case measure=>first|(simp[intOf];done)|(simp[intOf];omega)
  ·obtain rfl:k=0:=om;go_wp2;go_returns;exact⟨rfl,rfl⟩
theorem aCo(v b:Int)(k:Nat)(hk:k<8)(v0:0<=v)(v1:v<256^k)(b0:0<=b)(b1:b<=255):bits .or .u64 v (b*256^k)=v+256^k*b/\b*256^k<18446744073709551616/\v+256^k*b<18446744073709551616:=by
 obtain⟨x,rfl⟩:=Int.eq_ofNat_of_zero_le v0;obtain⟨y,rfl⟩:=Int.eq_ofNat_of_zero_le b0;have e:((2^(8*k):Nat):Int)=(256:Int)^k:=by rw[Nat.pow_mul];exact Int.natCast_pow _ _
 rw[<-e]at v1⊢
 have hx:x<2^(8*k):=om;have hy:y<2^8:=om;have hp:2^(8*k)*2^8<=2^64:=by rw[<-Nat.pow_add];exact Nat.pow_le_pow_right de om
 have h1:2^(8*k)*y+x<2^(8*k)*2^8:=by
  have:2^(8*k)*(y+1)<=2^(8*k)*2^8:=Nat.mul_le_mul_left _ om;rw[Nat.mul_add]at this;omega
 have h2:x|||y*2^(8*k)=2^(8*k)*y+x:=by
  rw[Nat.mul_comm y,Nat.or_comm,Nat.two_pow_add_eq_or_of_lt hx]
 have h3:=bits_or_u64_nat x (y*2^(8*k)) om (by rw[Nat.mul_comm];omega);rw[h2]at h3;have h4:((y*2^(8*k):Nat):Int)=(y:Int)*((2^(8*k):Nat):Int):=by rw[Int.natCast_mul]
 have h5:((2^(8*k)*y+x:Nat):Int)=(x:Int)+((2^(8*k):Nat):Int)*(y:Int):=by rw[Int.natCast_add,Int.natCast_mul];omega
 rw[h4,h5]at h3;refine⟨h3,?_,?_⟩
 ·rw[<-h4];rw[Nat.mul_comm];omega
 ·rw[<-h5];omega
theorem aAK(s:ByteArray)(h:8<=s.size)(hs:s.size<=1048576)(w:World):
  QW 137 #[.string s] w (Y (num s 0 8)):=by
 go_enter func137,ntmps137;go_wp2;go_loop [3,5] (fun v i=>∃k:Nat,k<=8/\v=Y (num s 0 k)/\i=J k) (fun _ i=>8-(intOf i).toNat)
 case atStart=>exact⟨0,om,rfl,rfl⟩
 case round=>
  obtain⟨k,hk,rfl,rfl⟩:=hrel;by_cases h0:(k:Int)<8
  ·have q:=DZ s k om w;have hb:=yX s k;have hn:=Ri s k 0;obtain⟨o1,o2,o3⟩:=aCo (num s 0 k) (kS s k) k om hn.1 hn.2 hb.1 hb.2;have HS:Hid (num s 0 (k+1)=num s 0 k+256^k*kS s k):=by show _=_;rw[aCq,Nat.zero_add]
   have hn0:=hn.1;have HW:Hid (IntKind.u64.wrap (kS s k*2^(8*k))=kS s k*256^k):=by
    show _=_;have e:(2:Int)^(8*k)=256^k:=by rw[Int.pow_mul];rfl
    have hp:(0:Int)<=kS s k*256^k:=Int.mul_nonneg hb.1 (Int.pow_nonneg de);rw[e,IntKind.wrap_u64];exact Int.emod_eq_of_lt hp o2
   clear hn;generalize num s 0 k=v at*
   generalize kS s k=b at*
   go_wp2;go_round
   case rel=>exact⟨k+1,om,by rw[HS.out,<-o1,HW.out],by go_num⟩
   case measure=>first|(simp[intOf];done)|(simp[intOf];omega)
  ·obtain rfl:k=8:=om;go_wp2;go_returns;exact⟨rfl,rfl⟩
