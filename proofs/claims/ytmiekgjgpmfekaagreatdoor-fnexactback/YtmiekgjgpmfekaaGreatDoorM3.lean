import Derived.Test.YtmiekgjgpmfekaaGreatDoorG9
import Derived.Test.YtmiekgjgpmfekaaGreatDoorM6
set_option linter.all false
set_option maxRecDepth 1000000
set_option maxHeartbeats 40000000
open Bool renaming false → Z
open Go.Proofs.YtmiekgjgpmfekaaGreatDoor renaming vI → J, vU → Y
open Go.Proofs.Tryz
namespace Go.Proofs.YtmiekgjgpmfekaaGreatDoor
open Go.RowKit
variable{w w' x:World}{b g K N c L N':Nat}{u k mu inv scale f p mx one inf sg nan:Int}{v v':Value}
theorem aDY{P:Prop}(h:P:=by
 refine bodyPost_ret (v:=.agg #[J 1,aB b2 k2 cc2,J z,.bool Z]) (by simp[results,Tryz.results165,go_sem,jy];rfl) rfl ⟨b2,k2,cc2,?_,rfl,?_⟩
 ·exact hbig2.Vj jy.1 jy.2.2.1 jy.2.2.2.2.1 jy.2.2.2.2.2.2.1
 ·exact Gb.g):P:=h
theorem aDZ{P:Prop}(h:P:=by
 refine bodyPost_ret (v:=.agg #[J 0,aB b2 k2 cc2,J z,.bool Z]) (by simp[results,Tryz.results165,go_sem,jy];rfl) rfl ⟨b2,k2,cc2,?_,rfl,?_⟩
 ·exact hbig2.Vj jy.1 jy.2.2.1 jy.2.2.2.2.1 jy.2.2.2.2.2.2.1
 ·exact Gb.g):P:=h
attribute [local go_sem] aj bG
theorem yx(c s x c' s' x':Int)(G G':Nat)(hG:G<18446744073709551616)(hG':G'<18446744073709551616)(hs:s=0\/s=1)(hs':s'=0\/s'=1)(x0:-50000<=x)(x1:x<=50000)(y0:-50000<=x')(y1:x'<=50000)(w:World):
  CT 165 #[eX c s x ((G:Nat)),eX (c') (s') (x') ((G':Nat))] w fun e w'=>∃b k cc,aF 4 w' (aB b k cc) (G*G')/\e=.returned (.agg #[J (mulS s s'),aB b k cc,J (x+x'),.bool Z])/\Gb w w':=by
 have HB:Hid (∀(H:Nat) w,H<18446744073709551616->CT 100 #[Y (H:Nat)] w (qK 2 H w)):=fun H w hH=>dV (fE H hH w);have HM:Hid (∀v v' (N N':Nat) w,aF 2 w v N->aF 2 w v' N'->CT 103 #[v,v'] w (qK 4 (N*N') w)):=fun v v' N N' w ⟨n,a1,a2⟩ ⟨n',b1,b2⟩=>dV ((xg a2 om b2 om).mono (fun e w' ⟨v,k,c1,c2,c3,c4⟩=>⟨v,k,c1,c2,om,c4⟩));have u1:IntKind.i64.wrap (x+x')=x+x':=wi;obtain⟨z,hz⟩:∃z,x+x'=z:=⟨_,rfl⟩;rw[hz]at u1⊢
 have u2:IntKind.i64.wrap (x+x')=z:=by rw[hz];exact u1
 clear u1 hz;rcases hs with rfl|rfl<;>rcases hs' with rfl|rfl
 ·go_enter func165,ntmps165;go_wp2;go_region_held3 (fun w'=>aj w' w.heap.size 1 (J 0)/\aj w' w.heap.size 2 (J x)/\aj w' w.heap.size 3 (Y (G:Nat))/\aj w' (w.heap.size+1) 1 (J 0)/\aj w' (w.heap.size+1) 2 (J x')/\aj w' (w.heap.size+1) 3 (Y (G':Nat)))
   (exact kX)
   (first
    |(go_at_call 100;refine(HB _ _ (by assumption)).mono ?_;rintro e w1 ⟨b,k,cc,hbig,rfl,ak⟩;have:=ak.uV w)
    |(go_at_call 103;refine(HM _ _ _ _ _ (aF.gb (by assumption) Gb.g) (aF.gb (by assumption) Gb.g)).mono ?_;rintro e w2 ⟨b2,k2,cc2,hbig2,rfl,aA⟩;have jy:=aA.uV w))
  all_goals go_wp2
  all_goals
   exact aDZ
 ·go_enter func165,ntmps165;go_wp2;go_region_held3 (fun w'=>aj w' w.heap.size 1 (J 0)/\aj w' w.heap.size 2 (J x)/\aj w' w.heap.size 3 (Y (G:Nat))/\aj w' (w.heap.size+1) 1 (J 1)/\aj w' (w.heap.size+1) 2 (J x')/\aj w' (w.heap.size+1) 3 (Y (G':Nat)))
   (exact kX)
   (first
    |(go_at_call 100;refine(HB _ _ (by assumption)).mono ?_;rintro e w1 ⟨b,k,cc,hbig,rfl,ak⟩;have:=ak.uV w)
    |(go_at_call 103;refine(HM _ _ _ _ _ (aF.gb (by assumption) Gb.g) (aF.gb (by assumption) Gb.g)).mono ?_;rintro e w2 ⟨b2,k2,cc2,hbig2,rfl,aA⟩;have jy:=aA.uV w))
  all_goals go_wp2
  all_goals
   exact aDY
 ·go_enter func165,ntmps165;go_wp2;go_region_held3 (fun w'=>aj w' w.heap.size 1 (J 1)/\aj w' w.heap.size 2 (J x)/\aj w' w.heap.size 3 (Y (G:Nat))/\aj w' (w.heap.size+1) 1 (J 0)/\aj w' (w.heap.size+1) 2 (J x')/\aj w' (w.heap.size+1) 3 (Y (G':Nat)))
   (exact kX)
   (first
    |(go_at_call 100;refine(HB _ _ (by assumption)).mono ?_;rintro e w1 ⟨b,k,cc,hbig,rfl,ak⟩;have:=ak.uV w)
    |(go_at_call 103;refine(HM _ _ _ _ _ (aF.gb (by assumption) Gb.g) (aF.gb (by assumption) Gb.g)).mono ?_;rintro e w2 ⟨b2,k2,cc2,hbig2,rfl,aA⟩;have jy:=aA.uV w))
  all_goals go_wp2
  all_goals
   exact aDY
 ·go_enter func165,ntmps165;go_wp2;go_region_held3 (fun w'=>aj w' w.heap.size 1 (J 1)/\aj w' w.heap.size 2 (J x)/\aj w' w.heap.size 3 (Y (G:Nat))/\aj w' (w.heap.size+1) 1 (J 1)/\aj w' (w.heap.size+1) 2 (J x')/\aj w' (w.heap.size+1) 3 (Y (G':Nat)))
   (exact kX)
   (first
    |(go_at_call 100;refine(HB _ _ (by assumption)).mono ?_;rintro e w1 ⟨b,k,cc,hbig,rfl,ak⟩;have:=ak.uV w)
    |(go_at_call 103;refine(HM _ _ _ _ _ (aF.gb (by assumption) Gb.g) (aF.gb (by assumption) Gb.g)).mono ?_;rintro e w2 ⟨b2,k2,cc2,hbig2,rfl,aA⟩;have jy:=aA.uV w))
  all_goals go_wp2
  all_goals
   exact aDZ
theorem aA1{k:Nat}(h:aF K w (aB b k c) N)(h0:N=0):k=0:=by
 obtain⟨n,hn,hnm,hr⟩:=h;have e:n=k:=by obtain⟨_,b',c',hv,_⟩:=hr;cases hv;rfl
 rw[<-e];exact(hnm.iff).2 h0
theorem aA0{k:Nat}(h:aF K w (aB b k c) N)(h0:N≠0):0<k:=by
 obtain⟨n,hn,hnm,hr⟩:=h;have e:n=k:=by obtain⟨_,b',c',hv,_⟩:=hr;cases hv;rfl
 rw[<-e];rcases Nat.eq_zero_or_pos n with c|c
 ·exact absurd ((hnm.iff).1 c) h0
 ·exact c
theorem SI(hK:K<=1000)(hL:L<=1000)(h:aF K w v N)(h':aF L w v' N')(h0:0<N'):
  CT 167 #[v,v'] w fun e w'=>∃b k c b' k' c',aF K w' (aB b k c) (N/N')/\aF (L+1) w' (aB b' k' c') (N%N')/\e=.returned (.tuple #[aB b k c,aB b' k' c'])/\Gb w w':=by
 obtain⟨n,hn,hb⟩:=h;obtain⟨n',hn',hb'⟩:=h';refine(WX hb om hb' om h0).mono ?_;rintro e w' ⟨q,r,k,k',rfl,hq,hr,hk,hk',hg⟩;obtain⟨b,c,rfl,_⟩:=Big.shape hq;obtain⟨b',c',rfl,_⟩:=Big.shape hr;exact⟨b,k,c,b',k',c',⟨k,om,hq⟩,⟨k',om,hr⟩,rfl,hg⟩
theorem oV(h:aQ f p mx one inf sg nan)(c s x c' s' x':Int)(A B:Nat)(hA:A<18446744073709551616)(hB:B<18446744073709551616)(hB0:0<B)(a0:0<=s)(a1:s<=1)(b0:0<=s')(b1:s'<=1)(sp:Int)(hm1:(s+s').tmod 2=sp)(hm2:(s+s')%2=sp)(x0:-50000<=x)(x1:x<=50000)(y0:-50000<=x')(y1:x'<=50000)(P:Nat)(hP:(P:Int)=p+4)(w:World):
  CT 108 #[J f,eX c s x ((A:Nat)),eX (c') (s') (x') ((B:Nat))] w fun e w'=>∃b k cc,aF 8 w' (aB b k cc) (A*2^P/B)/\e=.returned (.agg #[J sp,aB b k cc,J (x-x'-P),.bool (decide (A*2^P%B≠0))])/\Gb w w':=by
 have hpb:p<=53/\24<=p:=by rcases h with h|h<;>omega
 have aLq:P<=57:=om;have HB:Hid (∀(H:Nat) w,H<18446744073709551616->CT 100 #[Y (H:Nat)] w (qK 2 H w)):=fun H w hH=>dV (fE H hH w);have HS:Hid (∀v w,aF 2 w v A->CT 99 #[v,J (P:Int)] w (qK 8 (A*2^P) w)):=fun v w ⟨n,a1,a2⟩=>dV ((fZ a2 om P om).mono (fun e w' ⟨v,k,c1,c2,c3,c4⟩=>⟨v,k,c1,c2,om,c4⟩));have HD:Hid (∀v v' w,aF 8 w v (A*2^P)->aF 2 w v' B->CT 167 #[v,v'] w fun e w'=>∃b k c b' k' c',aF 8 w' (aB b k c) (A*2^P/B)/\aF 3 w' (aB b' k' c') (A*2^P%B)/\e=.returned (.tuple #[aB b k c,aB b' k' c'])/\Gb w w'):=fun v v' w h1 h2=>SI om om h1 h2 hB0;have HP:KW 98 #[J f] (J p):=fun w=>jT h w;have g1:p+4=(P:Int):=hP.symm;obtain⟨z,hz⟩:∃z,x-x'-(P:Int)=z:=⟨_,rfl⟩;rw[hz];clear hP h;by_cases hr:A*2^P%B=0
 ·rw[show decide (A*2^P%B≠0)=Z by simp[hr]];have HR:Hid _:=hr;clear hr;generalize A*2^P%B=R at*
  generalize A*2^P/B=Qn at*
  generalize A*2^P=X at*
  go_enter func108,ntmps108;go_wp2_with (go_at_call 98;refine kw (HP _) ?_);go_region_held3 (fun w'=>aj w' w.heap.size 1 (J s)/\aj w' w.heap.size 2 (J x)/\aj w' w.heap.size 3 (Y (A:Nat))/\aj w' (w.heap.size+1) 1 (J s')/\aj w' (w.heap.size+1) 2 (J x')/\aj w' (w.heap.size+1) 3 (Y (B:Nat)))
   (exact kX)
   (first
    |(go_at_call 100;refine(HB _ _ (by assumption)).mono ?_;rintro e w1 ⟨b,k,cc,hbig,rfl,ak⟩;have:=ak.uV w)
    |(go_at_call 99;refine(HS _ _ (aF.gb (by assumption) Gb.g)).mono ?_;rintro e w2 ⟨b2,k2,cc2,hbig2,rfl,aA⟩;have:=aA.uV w)
    |(go_at_call 167;refine(HD _ _ _ (aF.gb (by assumption) Gb.g) (aF.gb (by assumption) Gb.g)).mono ?_;rintro e w3 ⟨b3,k3,cc3,b4,k4,cc4,aAu,aAt,rfl,aC⟩;have sU:=aC.uV w;have:=aC.e2 w.heap.size 1 2 _ _;have:=aC.e2 (w.heap.size+1) 1 2 _ _;obtain rfl:k4=0:=(aA1 aAt HR.out)))
  all_goals go_wp2
  all_goals
   refine bodyPost_ret (v:=.agg #[J sp,aB b3 k3 cc3,J z,.bool Z]) (by simp[results,Tryz.results108,go_sem,sU]) rfl ⟨b3,k3,cc3,?_,rfl,?_⟩
   ·exact aAu.Vj sU.1 sU.2.2.1 sU.2.2.2.2.1 sU.2.2.2.2.2.2.1
   ·exact Gb.g
 ·rw[show decide (A*2^P%B≠0)=true by simp[hr]];have HR:Hid (A*2^P%B≠0):=hr;clear hr;generalize A*2^P%B=R at*
  generalize A*2^P/B=Qn at*
  generalize A*2^P=X at*
  go_enter func108,ntmps108;go_wp2_with (go_at_call 98;refine kw (HP _) ?_);go_region_held3 (fun w'=>aj w' w.heap.size 1 (J s)/\aj w' w.heap.size 2 (J x)/\aj w' w.heap.size 3 (Y (A:Nat))/\aj w' (w.heap.size+1) 1 (J s')/\aj w' (w.heap.size+1) 2 (J x')/\aj w' (w.heap.size+1) 3 (Y (B:Nat)))
   (exact kX)
   (first
    |(go_at_call 100;refine(HB _ _ (by assumption)).mono ?_;rintro e w1 ⟨b,k,cc,hbig,rfl,ak⟩;have:=ak.uV w)
    |(go_at_call 99;refine(HS _ _ (aF.gb (by assumption) Gb.g)).mono ?_;rintro e w2 ⟨b2,k2,cc2,hbig2,rfl,aA⟩;have:=aA.uV w)
    |(go_at_call 167;refine(HD _ _ _ (aF.gb (by assumption) Gb.g) (aF.gb (by assumption) Gb.g)).mono ?_;rintro e w3 ⟨b3,k3,cc3,b4,k4,cc4,aAu,aAt,rfl,aC⟩;have sU:=aC.uV w;have:=aC.e2 w.heap.size 1 2 _ _;have:=aC.e2 (w.heap.size+1) 1 2 _ _;have hkn:0<k4:=aA0 aAt HR.out;have hkp:(0:Int)<(k4:Int):=om))
  all_goals go_wp2
  all_goals
   refine bodyPost_ret (v:=.agg #[J sp,aB b3 k3 cc3,J z,.bool true]) (by simp[results,Tryz.results108,go_sem,sU,hkn]) rfl ⟨b3,k3,cc3,?_,rfl,?_⟩
   ·exact aAu.Vj sU.1 sU.2.2.1 sU.2.2.2.2.1 sU.2.2.2.2.2.2.1
   ·exact Gb.g
theorem aD0{P:Prop}(h:P:=by
 go_enter func41,ntmps41;go_wp2_with (first
  |(go_at_call 94;refine kw (HF _) ?_)
  |(go_at_call 57;first|(with_reducible refine ku (gU.out _) fun w1 ak=>?_;have ig:=ak.aW w;have hz0:=au ig.1))
  |(go_at_call 95;first|(with_reducible refine ku (lN.out _) fun va aT=>?_;have:=aT.aW w;have:=aT.dX w1))
  |(go_at_call 96;refine ku (HL _) fun w9 aU=>?_;have h_:=aU.aW w))
 exact dB (by simp[results,Tryz.results41,go_sem,h_])):P:=h
theorem aD1{P:Prop}(h:P:=by
 go_enter func41,ntmps41;go_wp2_with (first
  |(go_at_call 94;refine kw (HF _) ?_)
  |(go_at_call 57;first|(with_reducible refine ku (gU.out _) fun w1 ak=>?_;have ig:=ak.aW w;have hz0:=au ig.1))
  |(go_at_call 95;first|(with_reducible refine ku (lN.out _) fun va aT=>?_;have:=aT.aW w;have:=aT.dX w1))
  |(go_at_call 98;refine kw (HP _) ?_)
  |(go_at_call 100;refine(HB _).mono ?_;rintro e n1 ⟨b1,k1,q1,hb1,rfl,nM⟩;have:=nM.aW w;have:=nM.dX w1)
  |(go_at_call 99;refine(HS _ _ hb1).mono ?_;rintro e n2 ⟨b2,k2,q2,hb2,rfl,FH⟩;have:=FH.aW w;have:=FH.dX w1)
  |(go_at_call 101;refine(HRt _ _ hb2).mono ?_;rintro e n3 ⟨b3,k3,q3,hb3,rfl,z_⟩;have:=z_.aW w;have:=z_.dX w1)
  |(go_at_call 103;refine(HM _ _ hb3).mono ?_;rintro e n4 ⟨b4,k4,q4,hb4,rfl,vZ⟩;have:=vZ.aW w;have:=vZ.dX w1)
  |(go_at_call 102;refine ku (HCm _ _ _ hb4 (aF.gb (aF.gb hb2 z_) vZ)) fun n5 IB=>?_;have:=IB.aW w;have:=IB.dX w1)
  |(go_at_call 85;with_reducible refine(HR.out _ _ (aF.gb (aF.gb hb3 vZ) IB)).mono ?_;rintro e w9 ⟨z,fl,hq',rfl,aU⟩;have h_:=aU.aW w))
 refine bodyPost_ret (v:=aK z fl) (by simp[results,Tryz.results41,go_sem,h_]) rfl ⟨z,fl,hq',rfl,?_⟩;exact Gb.g):P:=h
theorem A8(f mode a:Int)(HF:lK f mode a Z)(z fl:Int)(HL:nY f z fl)(w:World):
  QB 41 #[J f,J mode,Y a] w (aK z fl):=by
 go_enter func41,ntmps41;go_wp2_with (first
  |(go_at_call 94;refine kw (HF _) ?_)
  |(go_at_call 83;refine ku (HL _) fun w9 aU=>?_;have h_:=aU.aW w))
 exact dB (by simp[results,Tryz.results41,go_sem,h_])
theorem Vw(f mode a ca sa xa ga:Int)(HF:lK f mode a true)(gU:bD f a ca sa xa ga)(lN:bI ca sa xa ga true)(t:Bool)(e5:(ca==4)=t)(z fl:Int)(HL:o9 f t z fl)(w:World):
  QB 41 #[J f,J mode,Y a] w (aK z fl):=by
 cases t
 ·exact aD0
 ·exact aD0
theorem Qk(f mode a ca sa xa ga:Int)(HF:lK f mode a true)(gU:bD f a ca sa xa ga)(lN:bI ca sa xa ga Z)(e1:ca=0)(z fl:Int)(HL:nR f sa z fl)(w:World):
  QB 41 #[J f,J mode,Y a] w (aK z fl):=by
 subst e1;go_enter func41,ntmps41;go_wp2_with (first
  |(go_at_call 94;refine kw (HF _) ?_)
  |(go_at_call 57;first|(with_reducible refine ku (gU.out _) fun w1 ak=>?_;have ig:=ak.aW w;have hz0:=au ig.1))
  |(go_at_call 95;first|(with_reducible refine ku (lN.out _) fun va aT=>?_;have:=aT.aW w;have:=aT.dX w1))
  |(go_at_call 84;refine ku (HL _) fun w9 aU=>?_;have h_:=aU.aW w))
 exact dB (by simp[results,Tryz.results41,go_sem,h_])
theorem Vu(f mode a ca sa xa ga:Int)(HF:lK f mode a true)(gU:bD f a ca sa xa ga)(lN:bI ca sa xa ga Z)(e1:(ca==0)=Z)(e2:sa=1)(z fl:Int)(HL:nY f z fl)(w:World):
  QB 41 #[J f,J mode,Y a] w (aK z fl):=by
 subst e2;go_enter func41,ntmps41;go_wp2_with (first
  |(go_at_call 94;refine kw (HF _) ?_)
  |(go_at_call 57;first|(with_reducible refine ku (gU.out _) fun w1 ak=>?_;have ig:=ak.aW w;have hz0:=au ig.1))
  |(go_at_call 95;first|(with_reducible refine ku (lN.out _) fun va aT=>?_;have:=aT.aW w;have:=aT.dX w1))
  |(go_at_call 83;refine ku (HL _) fun w9 aU=>?_;have h_:=aU.aW w))
 exact dB (by simp[results,Tryz.results41,go_sem,h_])
theorem Vx(f mode a ca sa xa ga:Int)(HF:lK f mode a true)(gU:bD f a ca sa xa ga)(lN:bI ca sa xa ga Z)(e1:ca=2)(e2:sa=0)(z fl:Int)(HL:Dh f 0 z fl)(w:World):
  QB 41 #[J f,J mode,Y a] w (aK z fl):=by
 subst e1 e2;go_enter func41,ntmps41;go_wp2_with (first
  |(go_at_call 94;refine kw (HF _) ?_)
  |(go_at_call 57;first|(with_reducible refine ku (gU.out _) fun w1 ak=>?_;have ig:=ak.aW w;have hz0:=au ig.1))
  |(go_at_call 95;first|(with_reducible refine ku (lN.out _) fun va aT=>?_;have:=aT.aW w;have:=aT.dX w1))
  |(go_at_call 97;refine ku (HL _) fun w9 aU=>?_;have h_:=aU.aW w))
 exact dB (by simp[results,Tryz.results41,go_sem,h_])
theorem Vt(f mode a ca sa xa ga:Int)(HF:lK f mode a true)(gU:bD f a ca sa xa ga)(lN:bI ca sa xa ga Z)(e1:ca=1)(e2:sa=0)(A:Nat)(e3:ga=(A:Int))(hA:A<18446744073709551616)(x0:-50000<=xa)(x1:xa<=50000)(p:Int)(p0:0<=p)(p1:p<=60)(HP:KW 98 #[J f] (J p))(P:Nat)(P0 d0 d q r0:Int)(hP0:p+8=P0)(hd0:xa-P0=d0)(hr1:d0.tmod 2=r0)(hr2:(r0 != 0)=true)(hP:P0+1=(P:Int))(hPb:P<=70)(hd:xa-(P:Int)=d)(hq:d.tdiv 2=q)(hqw:wrap64 q=q)(rest:Bool)(z0:Int)(hz:(z0 != 0)=rest)(Rt:Nat)(HRt:Hid (∀v w,aF 8 w v (A*2^P)->CT 101 #[v] w (qK 8 Rt w)))(HCm:Hid (∀v v' w,aF 16 w v (Rt*Rt)->aF 8 w v' (A*2^P)->QB 102 #[v,v'] w (J z0)))(Q:Int->Int->Prop)(HR:Hid (∀v w,aF 8 w v Rt->CT 85 #[J f,J mode,.agg #[J 0,v,J q,.bool rest]] w (EX Q w)))(w:World):
  CT 41 #[J f,J mode,Y a] w (EX Q w):=by
 subst e1 e2 e3;have HB:Hid (∀w,CT 100 #[Y (A:Int)] w (qK 2 A w)):=fun w=>dV (fE A hA w);have HS:Hid (∀v w,aF 2 w v A->CT 99 #[v,J (P:Int)] w (qK 8 (A*2^P) w)):=fun v w ⟨n,a1,a2⟩=>dV ((fZ a2 om P om).mono (fun e w' ⟨v,k,c1,c2,c3,c4⟩=>⟨v,k,c1,c2,om,c4⟩));have HM:Hid (∀v w,aF 8 w v Rt->CT 103 #[v,v] w (qK 16 (Rt*Rt) w)):=fun v w ⟨n,a1,a2⟩=>dV ((xg a2 om a2 om).mono (fun e w' ⟨v,k,c1,c2,c3,c4⟩=>⟨v,k,c1,c2,om,c4⟩));generalize A*2^P=X at*
 generalize Rt*Rt=XX at*
 have aKg:(P:Int)<=70:=om;have hpn:-100<=P0:=om;have hpm:P0<=100:=om;exact aD1
theorem Qm(f mode a ca sa xa ga:Int)(HF:lK f mode a true)(gU:bD f a ca sa xa ga)(lN:bI ca sa xa ga Z)(e1:ca=1)(e2:sa=0)(A:Nat)(e3:ga=(A:Int))(hA:A<18446744073709551616)(x0:-50000<=xa)(x1:xa<=50000)(p:Int)(p0:0<=p)(p1:p<=60)(HP:KW 98 #[J f] (J p))(P:Nat)(d q r0:Int)(hP0:p+8=(P:Int))(hPb:P<=70)(hd:xa-(P:Int)=d)(hr1:d.tmod 2=r0)(hr2:(r0 != 0)=Z)(hq:d.tdiv 2=q)(hqw:wrap64 q=q)(rest:Bool)(z0:Int)(hz:(z0 != 0)=rest)(Rt:Nat)(HRt:Hid (∀v w,aF 8 w v (A*2^P)->CT 101 #[v] w (qK 8 Rt w)))(HCm:Hid (∀v v' w,aF 16 w v (Rt*Rt)->aF 8 w v' (A*2^P)->QB 102 #[v,v'] w (J z0)))(Q:Int->Int->Prop)(HR:Hid (∀v w,aF 8 w v Rt->CT 85 #[J f,J mode,.agg #[J 0,v,J q,.bool rest]] w (EX Q w)))(w:World):
  CT 41 #[J f,J mode,Y a] w (EX Q w):=by
 subst e1 e2 e3;have HB:Hid (∀w,CT 100 #[Y (A:Int)] w (qK 2 A w)):=fun w=>dV (fE A hA w);have HS:Hid (∀v w,aF 2 w v A->CT 99 #[v,J (P:Int)] w (qK 8 (A*2^P) w)):=fun v w ⟨n,a1,a2⟩=>dV ((fZ a2 om P om).mono (fun e w' ⟨v,k,c1,c2,c3,c4⟩=>⟨v,k,c1,c2,om,c4⟩));have HM:Hid (∀v w,aF 8 w v Rt->CT 103 #[v,v] w (qK 16 (Rt*Rt) w)):=fun v w ⟨n,a1,a2⟩=>dV ((xg a2 om a2 om).mono (fun e w' ⟨v,k,c1,c2,c3,c4⟩=>⟨v,k,c1,c2,om,c4⟩));generalize A*2^P=X at*
 generalize Rt*Rt=XX at*
 have aKg:(P:Int)<=70:=om;exact aD1
theorem Iw(h:isC mu inv scale=true):decide (mu%9223372036854775808<=4787326403894837248)=true/\(decide (qR<=inv)&&decide (inv<=4607182418800017408))=true/\(decide (0<scale)&&decide (scale<=4607182418800017408))=true:=by
 unfold isC at h;rw[Bool.and_eq_true,Bool.and_eq_true]at h;exact⟨h.1.1,h.1.2,h.2⟩
structure Mid (w:World) (b g:Nat) (u k:Int):Prop where
 c0:aj w g 0 (J 0)
 c1:aj w g 1 (J 0)
 c2:aj w g 2 (J u)
 c3:aj w g 3 (J k)
 z0:bG w g 0
 z1:bG w g 1
 z2:bG w g 2
 z3:bG w g 3
 r0:aj w b 0 (J 0)
 r1:aj w b 1 (J 0)
 r2:aj w b 2 (J 0)
 r3:aj w b 3 (J 0)
 y0:bG w b 0
 y1:bG w b 1
 y2:bG w b 2
 y3:bG w b 3
theorem Mid.gb(h:Mid w b g u k)(hg:Gb w w'):Mid w' b g u k:=
 ⟨hg.old h.c0,hg.old h.c1,hg.old h.c2,hg.old h.c3,hg.BI h.c0 h.z0,hg.BI h.c1 h.z1,hg.BI h.c2 h.z2,hg.BI h.c3 h.z3,hg.old h.r0,hg.old h.r1,hg.old h.r2,hg.old h.r3,hg.BI h.r0 h.y0,hg.BI h.r1 h.y1,hg.BI h.r2 h.y2,hg.BI h.r3 h.y3⟩
theorem Mid.next(h:Mid w b g u k)(hb:g≠b)(u' k':Int):Mid ((w.setCell ⟨g,2,none⟩ (J u')).setCell ⟨g,3,none⟩ (J k')) b g u' k':=
  ⟨aS de (aS de h.c0),aS de (aS de h.c1),aS de (bW (iK h.c2)),bW (has_set (iK h.c3)),
   bF (bF h.z0),bF (bF h.z1),bF (bF h.z2),bF (bF h.z3),
   aI hb (aI hb h.r0),aI hb (aI hb h.r1),aI hb (aI hb h.r2),aI hb (aI hb h.r3),bF (bF h.y0),bF (bF h.y1),bF (bF h.y2),bF (bF h.y3)⟩
structure Rs (w:World) (b:Nat):Prop where
 r0:aj w b 0 (J 0)
 r1:aj w b 1 (J 0)
 r2:aj w b 2 (J 0)
 r3:aj w b 3 (J 0)
 y0:bG w b 0
 y1:bG w b 1
 y2:bG w b 2
 y3:bG w b 3
theorem Rs.gb(h:Rs w b)(hg:Gb w w'):Rs w' b:=
 ⟨hg.old h.r0,hg.old h.r1,hg.old h.r2,hg.old h.r3,hg.BI h.r0 h.y0,hg.BI h.r1 h.y1,hg.BI h.r2 h.y2,hg.BI h.r3 h.y3⟩
theorem Y7(w:World):Rs (w.alloc (.cells #[J 0,J 0,J 0,J 0] 35)) w.heap.size:=
 ⟨kb,kb,kb,kb,kb,kb,kb,kb⟩
theorem aCv(h:Rs w b)(v:Int):b<w.heap.size/\Mid (w.alloc (.cells #[J 0,J 0,J 0,J 0] 35)) b w.heap.size 0 0:=by
 obtain⟨r0,r1,r2,r3,y0,y1,y2,y3⟩:=h;exact⟨au r0,⟨kb,kb,kb,kb,kb,kb,kb,kb,kb,kb,kb,kb,kb,kb,kb,kb⟩⟩
theorem aCT(h:Rs w b)(v0 v1 v2 v3:Value):let w':=(((w.setCell ⟨b,0,none⟩ v0).setCell ⟨b,1,none⟩ v1).setCell ⟨b,2,none⟩ v2).setCell ⟨b,3,none⟩ v3
  aj w' b 0 v0/\aj w' b 1 v1/\aj w' b 2 v2/\aj w' b 3 v3:=
 ⟨aS de (aS de (aS de (bW (iK h.r0)))),aS de (aS de (bW (has_set (iK h.r1)))),aS de (bW (has_set (has_set (iK h.r2)))),bW (has_set (has_set (has_set (iK h.r3))))⟩
theorem Mid.rs(h:Mid w b g u k)(hb:g≠b)(o:Nat)(v:Value):Rs (w.setCell ⟨g,o,none⟩ v) b:=
 ⟨aI hb h.r0,aI hb h.r1,aI hb h.r2,aI hb h.r3,bF h.y0,bF h.y1,bF h.y2,bF h.y3⟩
theorem aAy(h:Gb w x)(hb:w.heap.size<=b)(hg:w.heap.size<=g)(o:Nat)(v v0 v1 v2 v3:Value):Gb w (((((x.setCell ⟨g,o,none⟩ v).setCell ⟨b,0,none⟩ v0).setCell ⟨b,1,none⟩ v1).setCell ⟨b,2,none⟩ v2).setCell ⟨b,3,none⟩ v3):=
 ((((h.setCell hg _).setCell hb _).setCell hb _).setCell hb _).setCell hb _
def lZ(w:World)(g:Nat):Nat:=match w.cell? ⟨g,2,none⟩with
 |some (.int _ u)=>u.toNat
 |_=>0
theorem Ju{o:O7}(H:o.S)(HI:o.In)(hm:Wo mu)(hi:Wo inv)(hs:Wo scale)(s:ByteArray)(hz:s.size<=20000)(hn:isC mu inv scale=true)(w:World):
  CT 21 #[Y mu,Y inv,Y scale,.string s] w fun e w'=>∃r,Tried (o.oZ mu inv scale s) (o.PK mu s) s.size r/\e=.returned (pJ r)/\Gb w w':=by
 have hf:=nT;obtain⟨i1,i2,i3⟩:=Iw hn;obtain⟨c1,s1,x1,g1,u1,U1⟩:=H.unp hm;obtain⟨c2,s2,x2,g2,u2,U2⟩:=H.unp hi;obtain⟨c3,s3,x3,g3,u3,U3⟩:=H.unp hs;have e1:=aIs hm u1;have e2:=aFe hi u2;have e3:=aIr hs u3;rw[i1]at e1;rw[i2]at e2;rw[i3,Bool.and_eq_true]at e3;have hf3:∀w,(Instr.field 80 (eX c3 s3 x3 g3) 0).run Tryz.prog w=.ok (J c3) w:=fun w=>by kernel_rfl
 have B1:KB 56 #[Y mu,J (-2199023255552),J 2199023255552] (.bool true):=oI H HI hm _ _ _ _ om om om om H.k1 H.k2 U1 _ e1.symm;have B2:KB 56 #[Y inv,J 1,J 2] (.bool true):=oI H HI hi _ _ _ _ om om om om H.k3 H.k4 U2 _ e2.symm;have B3:KB 56 #[Y scale,J 0,J 2] (.bool true):=oI H HI hs _ _ _ _ om om om om H.k5 H.k4 U3 _ e3.1.symm;have hc3:(c3==0)=Z:=by have:=e3.2;simpa using this
 have hsz:¬(20000:Int)<s.size:=om;have sc:0<=scale/\scale<9223372036854775808:=by rw[Bool.and_eq_true,decide_eq_true_eq,decide_eq_true_eq]at i3;omega
 have HR:Hid (∀w,CT 58 #[J 1,J 4,Y mu,.bool Z] w fun e w'=>∃fl:Int,e=.returned (aK (o.jc mu) fl)/\Gb w w'):=H.jc.out mu hm;have HA:KB 59 #[Y mu,Y (o.jc mu)] (Y (o.above mu)):=H.minus.out _ _ hm (HI.jc hm);have PE:KB 42 #[Y inv,Y inv] (Y (o.mul inv inv)):=H.times.out _ _ hi hi;have PD:KB 42 #[Y (o.mul inv inv),Y qR] (Y (o.narrow inv)):=H.times.out _ _ (HI.mul hi hi) (Wo.c _);have HH:=H.half;have hr:=HI.sub hm (HI.jc hm);have hh:=HI.mul (HI.mul hi hi) (Wo.c qR);have HT:Hid (∀w,CT 63 #[J 1,J 0,J 1,Y (o.jc mu)] w fun e w'=>∃fl:Int,e=.returned (aK (o.whole (o.jc mu)) fl)/\Gb w w'):=H.whole.out _ (HI.jc hm);have HX:Hid (∀k,17*k+17<=s.size->∀w,QB 62 #[J (PI (iU (num s (17*k) 8)) (kS s (17*k+8))),J (iU (num s (17*k) 8):Nat),Y (o.above mu),Y (o.narrow inv),Y scale,Y (num s (17*k+9) 8)] w (.bool (o.oZ mu inv scale s k))):=fun k hk w=>by
  have n:=Aq (num s (17*k) 8);have zz:=PS _ (kS s (17*k+8)) n;exact Xn H HI _ _ n zz.1 zz.2 hr hh sc.1 sc.2 (Ii s _) w
 have HZ:Hid (∀k,o.PK mu s k=wrap64 (PI (iU (num s (17*k) 8)) (kS s (17*k+8))+wrap64 (o.whole (o.jc mu)))):=fun k=>rfl;generalize o.whole (o.jc mu)=T at*
 generalize o.oZ mu inv scale s=acc at*
 generalize o.PK mu s=zz at*
 generalize o.narrow inv=h at*
 generalize o.above mu=r at*
 generalize o.mul inv inv=ii at*
 generalize o.jc mu=rm at*
 clear H HI hn i1 i2 i3 u1 u2 u3 U1 U2 e1 e2 e3 hm hi hs sc hr hh;go_enter func21,ntmps21;go_upto_region 4 with(first
   |(go_at_call 56;first|(with_reducible refine ku (B1.out _) fun w1 ak=>?_)|(with_reducible refine ku (B2.out _) fun w2 aA=>?_)|(with_reducible refine ku (B3.out _) fun w3 aC=>?_))
   |(go_at_call 57;refine ku (U3 _) fun w4 aH=>?_))
 have G4:Hid (Gb (w.alloc (.cells #[J 0,J 0,J 0,J 0] 35)) w4):=(show Gb _ w4 from kg);clear ak aA aC aH;go_upto_region 5 with(go_at_call 58;refine(HR _).mono ?_;rintro e w5 ⟨f5,rfl,aO⟩);go_upto_region 6 with(go_at_call 59;refine ku (HA _) fun w6 bJ=>?_);go_upto_region 7 with(first
   |(go_at_call 42;first|(with_reducible refine ku (PE.out _) fun w7 dZ=>?_)|(with_reducible refine ku (PD.out _) fun w9 aU=>?_))
   |(go_at_call 44;refine ku (HH _) fun w8 kY=>?_))
 have G9:Hid (Gb (w.alloc (.cells #[J 0,J 0,J 0,J 0] 35)) w9):=(show Gb _ w9 from by have:=G4.out;exact kg);clear aO bJ dZ kY aU;go_wp2;clear HA PE PD HH HR B1 B2 B3 U3 hf3;obtain⟨hbg,hM0⟩:=aCv ((Y7 w).gb G9.out) 0;have XR:Hid _:=hM0;have G0:Hid (Gb w w9):=(show Gb w w9 from by have:=G9.out;exact kg);clear hM0 G4 G9;obtain⟨g,hg⟩:∃g,w9.heap.size=g:=⟨_,rfl⟩;rw[hg]at hbg XR⊢
 have hgb:g≠w.heap.size:=om;obtain⟨b,hwb⟩:∃b,w.heap.size=b:=⟨_,rfl⟩;rw[hwb]at hbg XR hgb⊢
 go_loopw [14] (fun _ wr=>∃k:Nat,17*k<=s.size/\(∀j,j<k->acc j=Z)/\Mid wr b g (17*(k:Int)) k/\Gb w9 wr) (fun _ wr=>s.size+17-lZ wr g)
 case atStart=>exact⟨0,om,fun j hj=>absurd hj om,XR.out,kg⟩
 case round=>
  obtain⟨k,hk,ha,hM,hG⟩:=hrel
  rename_i wr
  have HA:Hid (∀j,j<k->acc j=Z):=ha;have HG:Hid (Gb w9 wr):=hG;obtain⟨u,hu⟩:∃u:Int,17*(k:Int)=u:=⟨_,rfl⟩;rw[hu]at hM;have HM:Hid (Mid wr b g u k):=hM;have p2:=hM.c2;have HU:Hid (lZ wr g=u.toNat):=by show _=_;simp only[lZ,p2]
  clear ha hG XR;by_cases hle:u+17<=(s.size:Int)
  ·have hn:=Aq (num s (17*k) 8);have hnum:=Ii s (17*k);have D1:KW 61 #[.string s,J u] (Y (num s (17*k) 8)):=fun w=>by rw[<-hu];exact aAJ s (17*k) om om w
   have D2:KW 61 #[.string s,J (u+9)] (Y (num s (17*k+9) 8)):=fun w=>by rw[<-hu];exact aAJ s (17*k+9) om om w
   have HB:KR 60 #[Y (num s (17*k) 8)] (J (iU (num s (17*k) 8):Nat)):=aGG _ hnum.1 hnum.2;have q:∀w,(Instr.index 9 (.string s) (J (u+8))).run Tryz.prog w=.ok (.int .u8 (kS s (17*k+8))) w:=fun w=>by rw[<-hu];exact DZ s (17*k+8) om w
   have hby:=yX s (17*k+8);have HXk:=HX k om;have HZk:=HZ k;have hzd:PI (iU (num s (17*k) 8)) (kS s (17*k+8))=if kS s (17*k+8)%2=1 then((iU (num s (17*k) 8):Nat):Int)+1 else-((iU (num s (17*k) 8):Nat):Int):=rfl
   generalize iU (num s (17*k) 8)=n at*
   generalize num s (17*k) 8=uu at*
   generalize num s (17*k+9) 8=vv at*
   generalize kS s (17*k+8)=cc at*
   obtain⟨zv,hzv⟩:∃zv,PI n cc=zv:=⟨_,rfl⟩;rw[hzv]at hzd HXk HZk;have HXX:Hid _:=HXk;have HZZ:Hid _:=HZk;have HN:Hid (17*(k+1)<=s.size):=(show _<=_ by omega);clear HXk HZk HX HZ hzv hnum;rcases(show(cc%2=1/\zv=(n:Int)+1)\/(cc%2=0/\zv=-(n:Int)) by
    by_cases h:cc%2=1
    ·exact .inl ⟨h,by rw[hzd,if_pos h]⟩
    ·exact .inr ⟨om,by rw[hzd,if_neg h]⟩)with⟨hc2,rfl⟩|⟨hc2,rfl⟩
   all_goals
    clear hzd hM;go_upto_region 10 with(first
     |(go_at_call 61;refine(D1 _).mono ?_;rintro e w' ⟨rfl,hw⟩;subst hw)
     |(go_at_call 60;refine ku (HB _) fun wa yA=>?_))
    have Xr:Hid (Mid wa b g u k):=HM.out.gb yA.gb;have HGa:Hid (Gb w9 wa):=HG.out.trans yA.gb;have pa2:=Xr.out.c2;have pa3:=Xr.out.c3;have za2:=Xr.out.z2;have za3:=Xr.out.z3;clear p2 HM HG yA;go_upto_region 14 with(go_at_call 61;refine(D2 _).mono ?_;rintro e w' ⟨rfl,hw⟩;subst hw);cases hacc:acc k
    ·rw[hacc]at HXX;go_wp2_with (go_at_call 62;refine ku (HXX _) fun wb lG=>?_);have hMb:=(Xr.out.next hgb (u+17) ((k:Int)+1)).gb lG;go_roundw
     case rel=>
      refine⟨k+1,HN.out,fun j hj=>?_,by rw[show 17*((k+1:Nat):Int)=u+17 by omega];exact hMb,by have:=HGa.out;exact kg⟩;rcases Nat.lt_or_ge j k with h|h
      ·exact HA j h
      ·obtain rfl:j=k:=om;exact hacc
     case measure=>
      have h1:=HU.out;have p2:=hMb.c2;have h2:lZ wb g=(u+17).toNat :=by simp only[lZ,p2]
      show s.size+17-lZ wb g<s.size+17-lZ wr g;omega
    ·rw[hacc]at HXX;go_upto_region 17 with(go_at_call 62;refine ku (HXX _) fun wb lG=>?_);have Xq:Hid (Mid wb b g (u+17) ((k:Int)+1)):=(Xr.out.next hgb (u+17) ((k:Int)+1)).gb lG;have HGb:Hid (Gb w9 wb):=(show Gb w9 wb from by have:=HGa.out;exact kg);clear Xr HGa pa2 pa3 za2 za3 lG;go_upto_region 18 with(go_at_call 63;refine(HT _).mono ?_;rintro e wc ⟨f6,rfl,aAq⟩;have HMc:Hid (Mid wc b g (u+17) ((k:Int)+1)):=Xq.out.gb aAq;obtain⟨p0,p1,p2,p3,pz0,pz1,pz2,pz3,r0,r1,r2,r3,rz0,rz1,rz2,rz3⟩:=HMc.out);clear Xq HT HU HXX HB D1 D2 q;go_wp2;have hw:zz k=wrap64 (_+wrap64 T):=HZZ.out;rw[<-hw];obtain⟨e0,e1,e2,e3⟩:=aCT (HMc.out.rs hgb 1 (J (zz k))) (J 0) (J (zz k)) (J (u+17)) (J ((k:Int)+1));refine bodyPost_ret (v:=pJ ⟨0,zz k,u+17,(k:Int)+1⟩) (by simp[results,Tryz.results21,go_sem,e0,e1,e2,e3]) rfl ⟨_,.inl ⟨k,by have:=HN.out;omega,hacc,HA.out,by rw[<-hu]⟩,rfl,?_⟩;exact aAy (G0.out.trans (HGb.out.trans aAq)) om om _ _ _ _ _ _
  ·have HN:Hid (s.size<17*k+17):=(show _<_ by omega);clear HX HZ HT;obtain⟨p0,p1,p2,p3,pz0,pz1,pz2,pz3,r0,r1,r2,r3,rz0,rz1,rz2,rz3⟩:=hM;go_wp2;obtain⟨e0,e1,e2,e3⟩:=aCT (HM.out.rs hgb 0 (J 2)) (J 2) (J 0) (J u) (J k);refine bodyPost_ret (v:=pJ ⟨2,0,u,(k:Int)⟩) (by simp[results,Tryz.results21,go_sem,e0,e1,e2,e3]) rfl ⟨_,.inr ⟨k,HN.out,hk,HA.out,by rw[<-hu]⟩,rfl,?_⟩;exact aAy (G0.out.trans HG.out) om om _ _ _ _ _ _
