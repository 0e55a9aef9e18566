import Derived.Test.YtnbbfeknbfohhaaGreatDoorA7
import Derived.Deep.RegionHeld3
set_option linter.unusedVariables false
set_option linter.unusedSimpArgs false
set_option maxRecDepth 1000000
set_option maxHeartbeats 40000000
open Go.Value renaming int → J
open Go.Proofs.Tryz
namespace Go.Proofs.YtnbbfeknbfohhaaGreatDoor
open Go.RowKit
theorem lC(w:World)(N:Nat):Own (w.alloc (.cells #[] 179)) w.heap.size (.slice (some ⟨w.heap.size,0,none⟩) 0 0) 0 N:=by
 refine⟨?_,by simp⟩
 have:=World.ownsRow_lit (base:=w.heap.size) (e:=179) (size:=1) w #[] 0 (Nat.le_refl _) (Nat.zero_le _) rfl
 simpa[Si]using this
theorem QC{b cap n N M:Nat}{w:World}(z r:Nat)(hr:r<32)(hz:z≤1000000)(hn:n≤1000000)(hpos:0<n)(hN:N<4294967296^n)
  (hcell:∀j,j<n→w.cell? ⟨b,j,none⟩=some (J .u32 (dg N j:Int))) (hcap:n≤cap) (s:Nat) (hs:s=32*z+r) (hM:M=N*2^(32*z+r)):
  CT 180 #[.slice (some ⟨b,0,none⟩) n cap,J .i64 s] w fun e w'=>∃v' k,e=.returned v'∧Big w' v' k M∧k≤n+z+1∧Gb w w':=by
 have HC:Hid _:=hcell
 have HN:Hid _:=hN
 have HM:Hid _:=hM
 have hq:(s:Int)/32=(z:Int):=om
 have hm:(s:Int)%32=(r:Int):=om
 have hs1:s≤100000000:=om
 have HS:Hid _:=hs
 have n0:((n:Int)==0)=false:=by simp;omega
 clear hcell hN hs hM
 go_enter func180,ntmps180
 go_wp2
 go_loopw [5,6] (fun v i wr=>∃k:Nat,k≤z∧i=J .i64 k∧Own wr w.heap.size v k M∧Gb w wr) (fun _ i _=>z-(intOf i).toNat)
 case atStart=>exact⟨0,Nat.zero_le _,rfl,lC w _,(Gb.refl w).alloc _⟩
 case round=>
  obtain⟨k,hk,rfl,hown,hgb⟩:=hrel
  by_cases hlt:k<z
  ·have hlt':(k:Int)<(z:Int):=om
   have hd:((dg M k:Nat):Int)=0:=by rw[HM.out,Xk N r z k hlt];rfl
   have HD:Hid _:=hd
   have hsz:=hgb.size
   have HO:Hid _:=hown
   have HG:Hid _:=hgb
   clear hd hown hgb
   go_wp2_with (at_builtin;refine bF rfl _ _ rfl w.heap.size k M _ wr.heap.size rfl (Own.alloc HO.out _) rfl (by rw[HD.out];simp[go_sem]) om (by simp[go_sem];omega) ?_;intro v' w1 hown1 hb1)
   go_roundw
   case rel=>exact⟨k+1,om,by go_num,hown1,Gb.below (Gb.alloc HG.out _) hb1 (Nat.le_refl _)⟩
   case measure=>simp[intOf]<;>omega
  ·obtain rfl:k=z:=om
   go_wp2
   go_loopw [5,7,8] (fun v c i wr'=>∃i' c':Nat,i'≤n∧i=J .i64 i'∧c=J .u64 c'∧Hid (c'=N%4294967296^i'*2^r/4294967296^i')∧Own wr' w.heap.size v (k+i') M∧Gb w wr') (fun _ _ i _=>n-(intOf i).toNat)
   case atStart=>exact⟨0,0,Nat.zero_le _,rfl,rfl,by show _=_;simp[Nat.mod_one],hown,hgb⟩
   case round=>
    obtain⟨i,c,hi,rfl,rfl,Rq,hown2,zZ⟩:=hrel
    have hcl:=Dq N r i hr
    rw[←Rq.out]at hcl
    have hsz:=zZ.size
    have HO:Hid _:=hown2
    have HG:Hid _:=zZ
    clear hown2 zZ
    by_cases hin:i<n
    ·have hin':(i:Int)<(n:Int):=om
     have hc:wr.cell? ⟨b,i,none⟩=some (J .u32 (dg N i:Int)):=Gb.old HG.out (HC.out i hin)
     obtain⟨e1,e2⟩:=OO N r i c Rq.out
     have hdl:=iJ N i
     obtain⟨b1,b2⟩:=OJ (dg N i) r c hdl hr hcl
     have hdm:dg M (k+i)=(dg N i*2^r+c)%4294967296:=by rw[HM.out,TG,e1]
     obtain⟨y,hy⟩:∃y:Nat,y=dg N i*2^r:=⟨_,rfl⟩
     have hw1:IntKind.u64.wrap ((dg N i:Int)*2^r)=(y:Int):=by
      have e:(dg N i:Int)*2^r=(y:Int):=by rw[hy];push_cast;rfl
      rw[e,IntKind.wrap_u64];omega
     rw[←hy]at b1 b2 hdm e2
     have sQ:Hid ((((y:Int)+(c:Int))%4294967296)=(dg M (k+i):Int)):=by show _=_;rw[hdm];omega
     have HE2:Hid _:=e2
     clear hy e1 e2 hdm
     generalize dg N i=t at*
     go_wp2_with (at_builtin;refine bF rfl _ _ rfl w.heap.size (k+i) M _ wr.heap.size rfl (Own.alloc HO.out _) rfl (by rw[←sQ.out];simp[go_sem]) om (by simp[go_sem];omega) ?_;intro v' w1 hown1 hb1)
     go_roundw
     case rel=>exact⟨i+1,(y+c)/4294967296,om,by go_num,by go_num,by show _=_;rw[HE2.out],hown1,Gb.below (Gb.alloc HG.out _) hb1 (Nat.le_refl _)⟩
     case measure=>simp[intOf]<;>omega
    ·obtain rfl:i=n:=om
     obtain⟨f1,f2⟩:=Xl N r k i HN.out hr
     have sQ:Hid ((c:Int)=(dg M (k+i):Int)):=by show _=_;rw[HM.out,f1,←Rq.out]
     have HF2:Hid (M<4294967296^(k+i+1)):=by show _<_;rw[HM.out];exact f2
     clear f1 f2
     go_wp2_with (first
      |(at_builtin;refine bF rfl _ _ rfl w.heap.size (k+i) M _ wr.heap.size rfl (Own.alloc HO.out _) rfl (by rw[←sQ.out];simp[go_sem]) om (by simp[go_sem];omega) ?_;intro v' w1 hown1 hb1)
      |(go_at_call 200;refine(jT (Own.raw hown1 HF2.out) om).mono ?_;rintro e w' ⟨v'',k',rfl,hw,hbig,hk'⟩;subst hw))
     go_returns
     exact⟨_,_,rfl,hbig,om,Gb.below (Gb.alloc HG.out _) hb1 (Nat.le_refl _)⟩
theorem eP{v:Value}{n N:Nat}{w:World}(h:Big w v n N)(hn:n≤1000000)(s:Nat)(hs:s≤10000000):
  CT 180 #[v,J .i64 s] w fun e w'=>∃v' k,e=.returned v'∧Big w' v' k (N*2^s)∧k≤n+s/32+1∧Gb w w':=by
 obtain⟨hnm,hN,b,cap,rfl,hcap,hmx,hcell⟩:=h
 rcases Nat.eq_zero_or_pos n with rfl|hpos
 ·have e:N*2^s=N:=by rw[hnm.zero];simp
  rw[e]
  have HB:Hid (Big w (.slice (some ⟨b,0,none⟩) 0 cap) 0 N):=⟨hnm,hN,b,cap,rfl,hcap,hmx,hcell⟩
  clear hcell hnm hN e
  go_enter func180,ntmps180
  go_wp2
  go_returns
  exact⟨_,_,rfl,HB.out,om,Gb.refl w⟩
 ·have e:32*(s/32)+s%32=s:=om
  refine(QC (M:=N*2^s) (s/32) (s%32) om om hn hpos hN hcell hcap s om (by rw[e])).mono ?_
  exact fun _ _ h=>h
theorem Nb{P:Prop}(h:P:=by
 go_wp2_with (at_builtin;go_loud (refine bF rfl _ _ rfl w.heap.size k M _ wr.heap.size rfl (Own.alloc HO.out _) rfl (by rw[←sQ.out];simp[go_sem]) om (by simp[go_sem];omega) ?_;intro v' w1 hown1 hb1))
 go_roundw
 case rel=>exact⟨k+1,j+1,by show _=_;have:=HJ.out;omega,.inr om,om,HJN.out,by go_num,hown1,Gb.below (Gb.alloc HG.out _) hb1 (Nat.le_refl _)⟩
 case measure=>simp[intOf]<;>omega):P:=h
theorem Fh(x r:Nat):((x/2^r%4294967296:Nat):Int)=(x:Int)/2^r%4294967296:=by
 rw[Int.natCast_emod,Int.natCast_ediv,Int.natCast_pow];rfl
theorem JZ{b cap n N M:Nat}{w:World}(z r:Nat)(hr:r<32)(hz:z≤1000000)(hn:n≤1000000)(hN:N<4294967296^n)
  (hcell:∀j,j<n→w.cell? ⟨b,j,none⟩=some (J .u32 (dg N j:Int))) (hcap:n≤cap) (s:Nat) (hs:s=32*z+r) (hM:M=N/2^(32*z+r)):
  CT 201 #[.slice (some ⟨b,0,none⟩) n cap,J .i64 s] w fun e w'=>∃v' k,e=.returned v'∧Big w' v' k M∧k≤n∧Gb w w':=by
 have HC:Hid _:=hcell
 have HN:Hid _:=hN
 have HM:Hid _:=hM
 have hq:(s:Int)/32=(z:Int):=om
 have hm:(s:Int)%32=(r:Int):=om
 have hs1:s≤100000000:=om
 have HS:Hid _:=hs
 clear hcell hN hs hM
 go_enter func201,ntmps201
 go_wp2
 go_loopw [5,6] (fun v i wr=>∃k j:Nat,Hid (j=z+k)∧Hid (k=0∨j≤n)∧j≤2000000∧k≤1000000∧i=J .i64 j∧Own wr w.heap.size v k M∧Gb w wr) (fun _ i _=>n-(intOf i).toNat)
 case atStart=>exact⟨0,z,by show _=_;omega,.inl rfl,om,om,by go_num,lC w _,(Gb.refl w).alloc _⟩
 case round=>
  obtain⟨k,j,HJ,HK,hj2,hk2,rfl,hown,hgb⟩:=hrel
  have hsz:=hgb.size
  have HO:Hid _:=hown
  have HG:Hid _:=hgb
  clear hown hgb
  by_cases hlt:j<n
  ·have hlt':(j:Int)<(n:Int):=om
   have hdM:dg M k=(dg N j+dg N (j+1)*4294967296)/2^r%4294967296:=by rw[HM.out,HJ.out];exact aAq N r z k hr
   have hc:wr.cell? ⟨b,j,none⟩=some (J .u32 (dg N j:Int)):=Gb.old HG.out (HC.out j hlt)
   have hd0:=iJ N j
   have hd1:=iJ N (j+1)
   have HJN:Hid (k+1≤1000000):=by show _≤_;have:=HJ.out;omega
   by_cases hlt2:j+1<n
   ·have aEz:(j:Int)+1<(n:Int):=om
    have hc2:wr.cell? ⟨b,j+1,none⟩=some (J .u32 (dg N (j+1):Int)):=Gb.old HG.out (HC.out (j+1) hlt2)
    obtain⟨x,hx⟩:∃x:Nat,x=dg N j+dg N (j+1)*4294967296:=⟨_,rfl⟩
    have hxi:(dg N j:Int)+(dg N (j+1):Int)*4294967296=(x:Int):=om
    have aFb:x<18446744073709551616:=om
    rw[←hx]at hdM
    have sQ:Hid ((x:Int)/2^r%4294967296=(dg M k:Int)):=by show _=_;rw[hdM,Fh]
    clear hdM hx
    generalize dg N j=t0 at*
    generalize dg N (j+1)=t1 at*
    exact Nb
   ·have hnl:¬(j:Int)+1<(n:Int):=om
    have hz1:dg N (j+1)=0:=lF HN.out om
    rw[hz1]at hdM
    simp only[Nat.zero_mul,Nat.add_zero]at hdM
    have sQ:Hid ((dg N j:Int)/2^r%4294967296=(dg M k:Int)):=by show _=_;rw[hdM,Fh]
    clear hdM hz1 hd1
    generalize dg N j=t0 at*
    exact Nb
  ·have hlt':¬(j:Int)<(n:Int):=om
   have HL:Hid (M<4294967296^k∧k≤n):=by
    have hJ:=HJ.out
    rcases HK.out with rfl|hk
    ·have:=TF N r z n HN.out om
     refine⟨?_,om⟩
     rw[HM.out,this];decide
    ·have:=aAp N r z n HN.out om
     refine⟨?_,om⟩
     rw[HM.out,show k=n-z by omega];exact this
   go_wp2_with (go_at_call 200;refine(jT (Own.raw HO.out HL.out.1) (by have:=HL.out.2;omega)).mono ?_;rintro e w' ⟨v'',k',rfl,hw,hbig,hk'⟩;subst hw)
   go_returns
   exact⟨_,_,rfl,hbig,by have:=HL.out.2;omega,HG.out⟩
theorem oG{v:Value}{n N:Nat}{w:World}(h:Big w v n N)(hn:n≤1000000)(s:Nat)(hs:s≤10000000):
  CT 201 #[v,J .i64 s] w fun e w'=>∃v' k,e=.returned v'∧Big w' v' k (N/2^s)∧k≤n∧Gb w w':=by
 obtain⟨hnm,hN,b,cap,rfl,hcap,hmx,hcell⟩:=h
 have e:32*(s/32)+s%32=s:=om
 exact JZ (M:=N/2^s) (s/32) (s%32) om om hn hN hcell hcap s om (by rw[e])
theorem M_{P:Prop}(h:P:=by
 go_wp2_with (at_builtin;go_loud (refine bF rfl _ _ rfl w.heap.size k M _ wr.heap.size rfl (Own.alloc HO.out _) rfl (by rw[←sQ.out];simp[go_sem]) om (by simp[go_sem];omega) ?_;intro v' w1 hown1 hb1))
 go_roundw
 case rel=>exact⟨k+1,0,om,by go_num,by go_num,by show _=_;rw[HE2.out],hown1,Gb.below (Gb.alloc HG.out _) hb1 (Nat.le_refl _)⟩
 case measure=>simp[intOf]<;>omega):P:=h
theorem Na{P:Prop}(h:P:=by
 go_wp2_with (at_builtin;go_loud (refine bF rfl _ _ rfl w.heap.size k M _ wr.heap.size rfl (Own.alloc HO.out _) rfl (by rw[←sQ.out];simp[go_sem]) om (by simp[go_sem];omega) ?_;intro v' w1 hown1 hb1))
 go_roundw
 case rel=>exact⟨k+1,1,om,by go_num,by go_num,by show _=_;rw[HE2.out],hown1,Gb.below (Gb.alloc HG.out _) hb1 (Nat.le_refl _)⟩
 case measure=>simp[intOf]<;>omega):P:=h
theorem JY{b cap n N b' cap' n' N' M:Nat}{w:World}(hn:n≤1000000)(hN:N<4294967296^n)(hn':n'≤1000000)(hN':N'<4294967296^n')
  (hcell:∀j,j<n→w.cell? ⟨b,j,none⟩=some (J .u32 (dg N j:Int))) (hcap:n≤cap) (hcell':∀j,j<n'→w.cell? ⟨b',j,none⟩=some (J .u32 (dg N' j:Int))) (hcap':n'≤cap') (hle:N'≤N) (hM:M=N-N'):
  CT 191 #[.slice (some ⟨b,0,none⟩) n cap,.slice (some ⟨b',0,none⟩) n' cap'] w fun e w'=>∃v' k,e=.returned v'∧Big w' v' k M∧k≤n∧Gb w w':=by
 have HC:Hid _:=hcell
 have HN:Hid _:=hN
 have Rx:Hid _:=hcell'
 have HN':Hid _:=hN'
 have HM:Hid _:=hM
 have HL:Hid _:=hle
 clear hcell hN hM hcell' hN' hle
 go_enter func191,ntmps191
 go_wp2
 go_loopw [5,6,7] (fun v c i wr=>∃k c':Nat,k≤n∧i=J .i64 k∧c=J .u64 c'∧Hid (c'=IL N N' k)∧Own wr w.heap.size v k M∧Gb w wr) (fun _ _ i _=>n-(intOf i).toNat)
 case atStart=>exact⟨0,0,Nat.zero_le _,rfl,rfl,by show _=_;rw[Ie],lC w _,(Gb.refl w).alloc _⟩
 case round=>
  obtain⟨k,c,hk,rfl,rfl,Rq,hown,hgb⟩:=hrel
  have hsz:=hgb.size
  have HO:Hid _:=hown
  have HG:Hid _:=hgb
  clear hown hgb
  by_cases hl:k<n
  ·have hc:wr.cell? ⟨b,k,none⟩=some (J .u32 (dg N k:Int)):=Gb.old HG.out (HC.out k hl)
   have hl1:(k:Int)<(n:Int):=om
   have e1:=Tq N N' k HL.out
   have e2:=Ig N N' k
   have c1:=MH N N' k
   rw[←Rq.out]at e1 e2 c1
   rw[←HM.out]at e1
   have hd0:=iJ N k
   have hd1:=iJ N' k
   have hd2:=iJ M k
   by_cases hl':k<n'
   ·have hc':wr.cell? ⟨b',k,none⟩=some (J .u32 (dg N' k:Int)):=Gb.old HG.out (Rx.out k hl')
    have zY:(k:Int)<(n':Int):=om
    by_cases hb:dg N k<dg N' k+c
    ·rw[if_pos hb]at e1 e2
     have sQ:Hid ((dg N k:Int)+4294967296-((c:Int)+(dg N' k:Int))=(dg M k:Int)):=by show _=_;omega
     have HE2:Hid _:=e2
     have hb1:(dg N k:Int)<(c:Int)+(dg N' k:Int):=om
     have hb2:(dg N k:Int)+4294967296-((c:Int)+(dg N' k:Int))<4294967296:=om
     clear e1 e2 hd2
     generalize dg N k=t at*
     generalize dg N' k=t' at*
     exact Na
    ·rw[if_neg hb]at e1 e2
     have sQ:Hid ((dg N k:Int)-((c:Int)+(dg N' k:Int))=(dg M k:Int)):=by show _=_;omega
     have HE2:Hid _:=e2
     have hb1:¬(dg N k:Int)<(c:Int)+(dg N' k:Int):=om
     have hb2:(dg N k:Int)-((c:Int)+(dg N' k:Int))<4294967296:=om
     clear e1 e2 hd2
     generalize dg N k=t at*
     generalize dg N' k=t' at*
     exact M_
   ·have zY:¬(k:Int)<(n':Int):=om
    have hz:dg N' k=0:=lF HN'.out om
    rw[hz]at e1 e2
    by_cases hb:dg N k<0+c
    ·rw[if_pos hb]at e1 e2
     have sQ:Hid ((dg N k:Int)+4294967296-(c:Int)=(dg M k:Int)):=by show _=_;omega
     have HE2:Hid _:=e2
     have hb1:(dg N k:Int)<(c:Int):=om
     have hb2:(dg N k:Int)+4294967296-(c:Int)<4294967296:=om
     clear e1 e2 hd2 hz hd1 hb
     generalize dg N k=t at*
     exact Na
    ·rw[if_neg hb]at e1 e2
     have sQ:Hid ((dg N k:Int)-(c:Int)=(dg M k:Int)):=by show _=_;omega
     have HE2:Hid _:=e2
     have hb1:¬(dg N k:Int)<(c:Int):=om
     have hb2:(dg N k:Int)-(c:Int)<4294967296:=om
     clear e1 e2 hd2 hz hd1 hb
     generalize dg N k=t at*
     exact M_
  ·have hl1:¬(k:Int)<(n:Int):=om
   have HF:Hid (M<4294967296^k):=by
    have h1:=HN.out
    show _<_
    rw[HM.out,show k=n by omega];omega
   go_wp2_with (go_at_call 200;refine(jT (Own.raw HO.out HF.out) om).mono ?_;rintro e w' ⟨v'',k',rfl,hw,hbig,hk'⟩;subst hw)
   go_returns
   exact⟨_,_,rfl,hbig,om,HG.out⟩
theorem kV{v v2:Value}{n N n' N':Nat}{w:World}(h:Big w v n N)(hn:n≤1000000)(h':Big w v2 n' N')(hn':n'≤1000000)(hle:N'≤N):
  CT 191 #[v,v2] w fun e w'=>∃v' k,e=.returned v'∧Big w' v' k (N-N')∧k≤n∧Gb w w':=by
 obtain⟨hnm,hN,b,cap,rfl,hcap,hmx,hcell⟩:=h
 obtain⟨hnm',hN',b',cap',rfl,hcap',D9,hcell'⟩:=h'
 exact JY hn hN hn' hN' hcell hcap hcell' hcap' hle rfl
theorem Kt{b cap n N b' cap' n' N' M:Nat}{w:World}(hn:n≤1000000)(hN:N<4294967296^n)(hn':n'≤1000000)(hN':N'<4294967296^n')
  (hcell:∀j,j<n→w.cell? ⟨b,j,none⟩=some (J .u32 (dg N j:Int))) (hcap:n≤cap) (hcell':∀j,j<n'→w.cell? ⟨b',j,none⟩=some (J .u32 (dg N' j:Int))) (hcap':n'≤cap') (hM:M=N+N'):
  CT 203 #[.slice (some ⟨b,0,none⟩) n cap,.slice (some ⟨b',0,none⟩) n' cap'] w fun e w'=>∃v' k,e=.returned v'∧Big w' v' k M∧k≤n+n'+1∧Gb w w':=by
 have HC:Hid _:=hcell
 have HN:Hid _:=hN
 have Rx:Hid _:=hcell'
 have HN':Hid _:=hN'
 have HM:Hid _:=hM
 clear hcell hN hM hcell' hN'
 go_enter func203,ntmps203
 go_wp2
 go_loopw [5,6,7] (fun v c i wr=>∃k c':Nat,(k≤n∨k≤n')∧i=J .i64 k∧c=J .u64 c'∧Hid (c'=(N%4294967296^k+N'%4294967296^k)/4294967296^k)∧Own wr w.heap.size v k M∧Gb w wr) (fun _ _ i _=>n+n'-(intOf i).toNat)
 case atStart=>exact⟨0,0,.inl (Nat.zero_le _),rfl,rfl,by show _=_;simp[Nat.mod_one],lC w _,(Gb.refl w).alloc _⟩
 case round=>
  obtain⟨k,c,hk,rfl,rfl,Rq,hown,hgb⟩:=hrel
  have hsz:=hgb.size
  have HO:Hid _:=hown
  have HG:Hid _:=hgb
  clear hown hgb
  obtain⟨e1,e2,c1⟩:=CW N N' k c Rq.out
  have hd0:=iJ N k
  have hd1:=iJ N' k
  have sQ:Hid (((c:Int)+(dg N k:Int)+(dg N' k:Int))%4294967296=(dg M k:Int)):=by show _=_;rw[HM.out,e1];omega
  have HE2:Hid _:=e2
  clear e1 e2
  by_cases hl:k<n
  ·have hc:wr.cell? ⟨b,k,none⟩=some (J .u32 (dg N k:Int)):=Gb.old HG.out (HC.out k hl)
   have hl1:(k:Int)<(n:Int):=om
   by_cases hl':k<n'
   ·have hc':wr.cell? ⟨b',k,none⟩=some (J .u32 (dg N' k:Int)):=Gb.old HG.out (Rx.out k hl')
    have zY:(k:Int)<(n':Int):=om
    generalize dg N k=t at*
    generalize dg N' k=t' at*
    go_wp2_with (at_builtin;go_loud (refine bF rfl _ _ rfl w.heap.size k M _ wr.heap.size rfl (Own.alloc HO.out _) rfl (by rw[←sQ.out];simp[go_sem]) om (by simp[go_sem];omega) ?_;intro v' w1 hown1 hb1))
    go_roundw
    case rel=>exact⟨k+1,(c+t+t')/4294967296,.inl om,by go_num,by go_num,by show _=_;rw[HE2.out],hown1,Gb.below (Gb.alloc HG.out _) hb1 (Nat.le_refl _)⟩
    case measure=>simp[intOf]<;>omega
   ·have zY:¬(k:Int)<(n':Int):=om
    have hz:dg N' k=0:=lF HN'.out om
    rw[hz]at HE2
    have AO:Hid (((c:Int)+(dg N k:Int))%4294967296=(dg M k:Int)):=by show _=_;rw[←sQ.out,hz];simp
    clear hz sQ hd1
    generalize dg N k=t at*
    go_wp2_with (at_builtin;go_loud (refine bF rfl _ _ rfl w.heap.size k M _ wr.heap.size rfl (Own.alloc HO.out _) rfl (by rw[←AO.out];simp[go_sem]) om (by simp[go_sem];omega) ?_;intro v' w1 hown1 hb1))
    go_roundw
    case rel=>exact⟨k+1,(c+t)/4294967296,.inl om,by go_num,by go_num,by show _=_;rw[HE2.out];rfl,hown1,Gb.below (Gb.alloc HG.out _) hb1 (Nat.le_refl _)⟩
    case measure=>simp[intOf]<;>omega
  ·have hl1:¬(k:Int)<(n:Int):=om
   have hz:dg N k=0:=lF HN.out om
   by_cases hl':k<n'
   ·have hc':wr.cell? ⟨b',k,none⟩=some (J .u32 (dg N' k:Int)):=Gb.old HG.out (Rx.out k hl')
    have zY:(k:Int)<(n':Int):=om
    rw[hz]at HE2
    have AO:Hid (((c:Int)+(dg N' k:Int))%4294967296=(dg M k:Int)):=by show _=_;rw[←sQ.out,hz];simp
    clear hz sQ hd0
    generalize dg N' k=t at*
    go_wp2_with (at_builtin;go_loud (refine bF rfl _ _ rfl w.heap.size k M _ wr.heap.size rfl (Own.alloc HO.out _) rfl (by rw[←AO.out];simp[go_sem]) om (by simp[go_sem];omega) ?_;intro v' w1 hown1 hb1))
    go_roundw
    case rel=>exact⟨k+1,(c+t)/4294967296,.inr om,by go_num,by go_num,by show _=_;rw[HE2.out];rfl,hown1,Gb.below (Gb.alloc HG.out _) hb1 (Nat.le_refl _)⟩
    case measure=>simp[intOf]<;>omega
   ·have zY:¬(k:Int)<(n':Int):=om
    have AO:Hid ((c:Int)=(dg M k:Int)):=by
     have:=Oj HN.out HN'.out (show n≤k by omega) (show n'≤k by omega)
     show _=_;rw[HM.out,this,←Rq.out]
    have HF:Hid (M<4294967296^(k+1)):=by
     have:=wQ HN.out HN'.out (show n≤k by omega) (show n'≤k by omega)
     show _<_;rw[HM.out];exact this
    clear hz sQ hd0 hd1 HE2
    have hkb:k≤n+n':=om
    go_wp2_with (first
     |(at_builtin;go_loud (refine bF rfl _ _ rfl w.heap.size k M _ wr.heap.size rfl (Own.alloc HO.out _) rfl (by rw[←AO.out];simp[go_sem]) om (by simp[go_sem];omega) ?_;intro v' w1 hown1 hb1))
     |(go_at_call 200;refine(jT (Own.raw hown1 HF.out) om).mono ?_;rintro e w' ⟨v'',k',rfl,hw,hbig,hk'⟩;subst hw))
    go_returns
    exact⟨_,_,rfl,hbig,om,Gb.below (Gb.alloc HG.out _) hb1 (Nat.le_refl _)⟩
theorem wI{v v2:Value}{n N n' N':Nat}{w:World}(h:Big w v n N)(hn:n≤1000000)(h':Big w v2 n' N')(hn':n'≤1000000):
  CT 203 #[v,v2] w fun e w'=>∃v' k,e=.returned v'∧Big w' v' k (N+N')∧k≤n+n'+1∧Gb w w':=by
 obtain⟨hnm,hN,b,cap,rfl,hcap,hmx,hcell⟩:=h
 obtain⟨hnm',hN',b',cap',rfl,hcap',D9,hcell'⟩:=h'
 exact Kt hn hN hn' hN' hcell hcap hcell' hcap' rfl
