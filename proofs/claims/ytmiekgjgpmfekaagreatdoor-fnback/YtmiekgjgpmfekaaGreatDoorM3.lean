import Derived.Test.YtmiekgjgpmfekaaGreatDoorG9
import Derived.Test.YtmiekgjgpmfekaaGreatDoorM6
set_option linter.all false
set_option maxRecDepth 1000000
set_option maxHeartbeats 40000000
open Go.Proofs.YtmiekgjgpmfekaaGreatDoor renaming vI → J
open Go.Proofs.Tryz
namespace Go.Proofs.YtmiekgjgpmfekaaGreatDoor
open Go.RowKit
variable{K N b k c L N':Nat}{w:World}{v v':Value}{f p mx one inf sg nan:Int}
theorem aC9{P:Prop}(h:P:=by
 refine bodyPost_ret (v:=.agg #[J 1,aB b2 k2 cc2,J z,.bool false]) (by simp[results,Tryz.results165,go_sem,jk];rfl) rfl ⟨b2,k2,cc2,?_,rfl,?_⟩
 ·exact hbig2.Uw jk.1 jk.2.2.1 jk.2.2.2.2.1 jk.2.2.2.2.2.2.1
 ·exact Gb.g):P:=h
theorem aDa{P:Prop}(h:P:=by
 refine bodyPost_ret (v:=.agg #[J 0,aB b2 k2 cc2,J z,.bool false]) (by simp[results,Tryz.results165,go_sem,jk];rfl) rfl ⟨b2,k2,cc2,?_,rfl,?_⟩
 ·exact hbig2.Uw jk.1 jk.2.2.1 jk.2.2.2.2.1 jk.2.2.2.2.2.2.1
 ·exact Gb.g):P:=h
attribute [local go_sem] aj
theorem xG(c s x c' s' x':Int)(G G':Nat)(hG:G<18446744073709551616)(hG':G'<18446744073709551616)(hs:s=0\/s=1)(hs':s'=0\/s'=1)(x0:-50000<=x)(x1:x<=50000)(y0:-50000<=x')(y1:x'<=50000)(w:World):
  CT 165 #[eH c s x ((G:Nat)),eH (c') (s') (x') ((G':Nat))] w fun e w'=>∃b k cc,aC 4 w' (aB b k cc) (G*G')/\e=.returned (.agg #[J (mulS s s'),aB b k cc,J (x+x'),.bool false])/\Gb w w':=by
 have HB:Hid (∀(H:Nat) w,H<18446744073709551616->CT 100 #[.int .u64 (H:Nat)] w (qh 2 H w)):=fun H w hH=>dV (fC H hH w);have HM:Hid (∀v v' (N N':Nat) w,aC 2 w v N->aC 2 w v' N'->CT 103 #[v,v'] w (qh 4 (N*N') w)):=fun v v' N N' w ⟨n,a1,a2⟩ ⟨n',b1,b2⟩=>dV ((wz a2 om b2 om).mono (fun e w' ⟨v,k,c1,c2,c3,c4⟩=>⟨v,k,c1,c2,om,c4⟩));have u1:IntKind.i64.wrap (x+x')=x+x':=wi;obtain⟨z,hz⟩:∃z,x+x'=z:=⟨_,rfl⟩;rw[hz]at u1⊢
 have u2:IntKind.i64.wrap (x+x')=z:=by rw[hz];exact u1
 clear u1 hz;rcases hs with rfl|rfl<;>rcases hs' with rfl|rfl
 ·go_enter func165,ntmps165;go_wp2;go_region_held3 (fun w'=>aj w' w.heap.size 1 (J 0)/\aj w' w.heap.size 2 (J x)/\aj w' w.heap.size 3 (.int .u64 (G:Nat))/\aj w' (w.heap.size+1) 1 (J 0)/\aj w' (w.heap.size+1) 2 (J x')/\aj w' (w.heap.size+1) 3 (.int .u64 (G':Nat)))
   (exact kZ)
   (first
    |(go_at_call 100;refine(HB _ _ (by assumption)).mono ?_;rintro e w1 ⟨b,k,cc,hbig,rfl,ak⟩;have:=ak.uj w)
    |(go_at_call 103;refine(HM _ _ _ _ _ (aC.gb (by assumption) Gb.g) (aC.gb (by assumption) Gb.g)).mono ?_;rintro e w2 ⟨b2,k2,cc2,hbig2,rfl,aA⟩;have jk:=aA.uj w))
  all_goals go_wp2
  all_goals
   exact aDa
 ·go_enter func165,ntmps165;go_wp2;go_region_held3 (fun w'=>aj w' w.heap.size 1 (J 0)/\aj w' w.heap.size 2 (J x)/\aj w' w.heap.size 3 (.int .u64 (G:Nat))/\aj w' (w.heap.size+1) 1 (J 1)/\aj w' (w.heap.size+1) 2 (J x')/\aj w' (w.heap.size+1) 3 (.int .u64 (G':Nat)))
   (exact kZ)
   (first
    |(go_at_call 100;refine(HB _ _ (by assumption)).mono ?_;rintro e w1 ⟨b,k,cc,hbig,rfl,ak⟩;have:=ak.uj w)
    |(go_at_call 103;refine(HM _ _ _ _ _ (aC.gb (by assumption) Gb.g) (aC.gb (by assumption) Gb.g)).mono ?_;rintro e w2 ⟨b2,k2,cc2,hbig2,rfl,aA⟩;have jk:=aA.uj w))
  all_goals go_wp2
  all_goals
   exact aC9
 ·go_enter func165,ntmps165;go_wp2;go_region_held3 (fun w'=>aj w' w.heap.size 1 (J 1)/\aj w' w.heap.size 2 (J x)/\aj w' w.heap.size 3 (.int .u64 (G:Nat))/\aj w' (w.heap.size+1) 1 (J 0)/\aj w' (w.heap.size+1) 2 (J x')/\aj w' (w.heap.size+1) 3 (.int .u64 (G':Nat)))
   (exact kZ)
   (first
    |(go_at_call 100;refine(HB _ _ (by assumption)).mono ?_;rintro e w1 ⟨b,k,cc,hbig,rfl,ak⟩;have:=ak.uj w)
    |(go_at_call 103;refine(HM _ _ _ _ _ (aC.gb (by assumption) Gb.g) (aC.gb (by assumption) Gb.g)).mono ?_;rintro e w2 ⟨b2,k2,cc2,hbig2,rfl,aA⟩;have jk:=aA.uj w))
  all_goals go_wp2
  all_goals
   exact aC9
 ·go_enter func165,ntmps165;go_wp2;go_region_held3 (fun w'=>aj w' w.heap.size 1 (J 1)/\aj w' w.heap.size 2 (J x)/\aj w' w.heap.size 3 (.int .u64 (G:Nat))/\aj w' (w.heap.size+1) 1 (J 1)/\aj w' (w.heap.size+1) 2 (J x')/\aj w' (w.heap.size+1) 3 (.int .u64 (G':Nat)))
   (exact kZ)
   (first
    |(go_at_call 100;refine(HB _ _ (by assumption)).mono ?_;rintro e w1 ⟨b,k,cc,hbig,rfl,ak⟩;have:=ak.uj w)
    |(go_at_call 103;refine(HM _ _ _ _ _ (aC.gb (by assumption) Gb.g) (aC.gb (by assumption) Gb.g)).mono ?_;rintro e w2 ⟨b2,k2,cc2,hbig2,rfl,aA⟩;have jk:=aA.uj w))
  all_goals go_wp2
  all_goals
   exact aDa
theorem aAk(h:aC K w (aB b k c) N)(h0:N=0):k=0:=by
 obtain⟨n,hn,hnm,hr⟩:=h;have e:n=k:=by obtain⟨_,b',c',hv,_⟩:=hr;cases hv;rfl
 rw[<-e];exact(hnm.iff).2 h0
theorem aAj(h:aC K w (aB b k c) N)(h0:N≠0):0<k:=by
 obtain⟨n,hn,hnm,hr⟩:=h;have e:n=k:=by obtain⟨_,b',c',hv,_⟩:=hr;cases hv;rfl
 rw[<-e];rcases Nat.eq_zero_or_pos n with c|c
 ·exact absurd ((hnm.iff).1 c) h0
 ·exact c
theorem Rq(hK:K<=1000)(hL:L<=1000)(h:aC K w v N)(h':aC L w v' N')(h0:0<N'):
  CT 167 #[v,v'] w fun e w'=>∃b k c b' k' c',aC K w' (aB b k c) (N/N')/\aC (L+1) w' (aB b' k' c') (N%N')/\e=.returned (.tuple #[aB b k c,aB b' k' c'])/\Gb w w':=by
 obtain⟨n,hn,hb⟩:=h;obtain⟨n',hn',hb'⟩:=h';refine(VX hb om hb' om h0).mono ?_;rintro e w' ⟨q,r,k,k',rfl,hq,hr,hk,hk',hg⟩;obtain⟨b,c,rfl,_⟩:=Big.shape hq;obtain⟨b',c',rfl,_⟩:=Big.shape hr;exact⟨b,k,c,b',k',c',⟨k,om,hq⟩,⟨k',om,hr⟩,rfl,hg⟩
theorem oz(h:aP f p mx one inf sg nan)(c s x c' s' x':Int)(A B:Nat)(hA:A<18446744073709551616)(hB:B<18446744073709551616)(hB0:0<B)(a0:0<=s)(a1:s<=1)(b0:0<=s')(b1:s'<=1)(sp:Int)(hm1:(s+s').tmod 2=sp)(hm2:(s+s')%2=sp)(x0:-50000<=x)(x1:x<=50000)(y0:-50000<=x')(y1:x'<=50000)(P:Nat)(hP:(P:Int)=p+4)(w:World):
  CT 108 #[J f,eH c s x ((A:Nat)),eH (c') (s') (x') ((B:Nat))] w fun e w'=>∃b k cc,aC 8 w' (aB b k cc) (A*2^P/B)/\e=.returned (.agg #[J sp,aB b k cc,J (x-x'-P),.bool (decide (A*2^P%B≠0))])/\Gb w w':=by
 have hpb:p<=53/\24<=p:=by rcases h with h|h<;>omega
 have aKF:P<=57:=om;have HB:Hid (∀(H:Nat) w,H<18446744073709551616->CT 100 #[.int .u64 (H:Nat)] w (qh 2 H w)):=fun H w hH=>dV (fC H hH w);have HS:Hid (∀v w,aC 2 w v A->CT 99 #[v,J (P:Int)] w (qh 8 (A*2^P) w)):=fun v w ⟨n,a1,a2⟩=>dV ((fV a2 om P om).mono (fun e w' ⟨v,k,c1,c2,c3,c4⟩=>⟨v,k,c1,c2,om,c4⟩));have HD:Hid (∀v v' w,aC 8 w v (A*2^P)->aC 2 w v' B->CT 167 #[v,v'] w fun e w'=>∃b k c b' k' c',aC 8 w' (aB b k c) (A*2^P/B)/\aC 3 w' (aB b' k' c') (A*2^P%B)/\e=.returned (.tuple #[aB b k c,aB b' k' c'])/\Gb w w'):=fun v v' w h1 h2=>Rq om om h1 h2 hB0;have HP:KW 98 #[J f] (J p):=fun w=>jL h w;have g1:p+4=(P:Int):=hP.symm;obtain⟨z,hz⟩:∃z,x-x'-(P:Int)=z:=⟨_,rfl⟩;rw[hz];clear hP h;by_cases hr:A*2^P%B=0
 ·rw[show decide (A*2^P%B≠0)=false by simp[hr]];have HR:Hid _:=hr;clear hr;generalize A*2^P%B=R at*
  generalize A*2^P/B=Qn at*
  generalize A*2^P=X at*
  go_enter func108,ntmps108;go_wp2_with (go_at_call 98;refine kw (HP _) ?_);go_region_held3 (fun w'=>aj w' w.heap.size 1 (J s)/\aj w' w.heap.size 2 (J x)/\aj w' w.heap.size 3 (.int .u64 (A:Nat))/\aj w' (w.heap.size+1) 1 (J s')/\aj w' (w.heap.size+1) 2 (J x')/\aj w' (w.heap.size+1) 3 (.int .u64 (B:Nat)))
   (exact kZ)
   (first
    |(go_at_call 100;refine(HB _ _ (by assumption)).mono ?_;rintro e w1 ⟨b,k,cc,hbig,rfl,ak⟩;have:=ak.uj w)
    |(go_at_call 99;refine(HS _ _ (aC.gb (by assumption) Gb.g)).mono ?_;rintro e w2 ⟨b2,k2,cc2,hbig2,rfl,aA⟩;have:=aA.uj w)
    |(go_at_call 167;refine(HD _ _ _ (aC.gb (by assumption) Gb.g) (aC.gb (by assumption) Gb.g)).mono ?_;rintro e w3 ⟨b3,k3,cc3,b4,k4,cc4,ZE,ZC,rfl,aF⟩;have rQ:=aF.uj w;have:=aF.e2 w.heap.size 1 2 _ _;have:=aF.e2 (w.heap.size+1) 1 2 _ _;obtain rfl:k4=0:=(aAk ZC HR.out)))
  all_goals go_wp2
  all_goals
   refine bodyPost_ret (v:=.agg #[J sp,aB b3 k3 cc3,J z,.bool false]) (by simp[results,Tryz.results108,go_sem,rQ]) rfl ⟨b3,k3,cc3,?_,rfl,?_⟩
   ·exact ZE.Uw rQ.1 rQ.2.2.1 rQ.2.2.2.2.1 rQ.2.2.2.2.2.2.1
   ·exact Gb.g
 ·rw[show decide (A*2^P%B≠0)=true by simp[hr]];have HR:Hid (A*2^P%B≠0):=hr;clear hr;generalize A*2^P%B=R at*
  generalize A*2^P/B=Qn at*
  generalize A*2^P=X at*
  go_enter func108,ntmps108;go_wp2_with (go_at_call 98;refine kw (HP _) ?_);go_region_held3 (fun w'=>aj w' w.heap.size 1 (J s)/\aj w' w.heap.size 2 (J x)/\aj w' w.heap.size 3 (.int .u64 (A:Nat))/\aj w' (w.heap.size+1) 1 (J s')/\aj w' (w.heap.size+1) 2 (J x')/\aj w' (w.heap.size+1) 3 (.int .u64 (B:Nat)))
   (exact kZ)
   (first
    |(go_at_call 100;refine(HB _ _ (by assumption)).mono ?_;rintro e w1 ⟨b,k,cc,hbig,rfl,ak⟩;have:=ak.uj w)
    |(go_at_call 99;refine(HS _ _ (aC.gb (by assumption) Gb.g)).mono ?_;rintro e w2 ⟨b2,k2,cc2,hbig2,rfl,aA⟩;have:=aA.uj w)
    |(go_at_call 167;refine(HD _ _ _ (aC.gb (by assumption) Gb.g) (aC.gb (by assumption) Gb.g)).mono ?_;rintro e w3 ⟨b3,k3,cc3,b4,k4,cc4,ZE,ZC,rfl,aF⟩;have rQ:=aF.uj w;have:=aF.e2 w.heap.size 1 2 _ _;have:=aF.e2 (w.heap.size+1) 1 2 _ _;have hkn:0<k4:=aAj ZC HR.out;have hkp:(0:Int)<(k4:Int):=om))
  all_goals go_wp2
  all_goals
   refine bodyPost_ret (v:=.agg #[J sp,aB b3 k3 cc3,J z,.bool true]) (by simp[results,Tryz.results108,go_sem,rQ,hkn]) rfl ⟨b3,k3,cc3,?_,rfl,?_⟩
   ·exact ZE.Uw rQ.1 rQ.2.2.1 rQ.2.2.2.2.1 rQ.2.2.2.2.2.2.1
   ·exact Gb.g
theorem aDb{P:Prop}(h:P:=by
 go_enter func41,ntmps41;go_wp2_with (first
  |(go_at_call 94;refine kw (HF _) ?_)
  |(go_at_call 57;first|(with_reducible refine ku (gJ.out _) fun w1 ak=>?_;have gY:=ak.aZ w;have hz0:=au gY.1))
  |(go_at_call 95;first|(with_reducible refine ku (kY.out _) fun va aS=>?_;have:=aS.aZ w;have:=aS.dX w1))
  |(go_at_call 96;refine ku (HL _) fun w9 aV=>?_;have iw:=aV.aZ w))
 exact dA (by simp[results,Tryz.results41,go_sem,iw])):P:=h
theorem aDc{P:Prop}(h:P:=by
 go_enter func41,ntmps41;go_wp2_with (first
  |(go_at_call 94;refine kw (HF _) ?_)
  |(go_at_call 57;first|(with_reducible refine ku (gJ.out _) fun w1 ak=>?_;have gY:=ak.aZ w;have hz0:=au gY.1))
  |(go_at_call 95;first|(with_reducible refine ku (kY.out _) fun va aS=>?_;have:=aS.aZ w;have:=aS.dX w1))
  |(go_at_call 98;refine kw (HP _) ?_)
  |(go_at_call 100;refine(HB _).mono ?_;rintro e n1 ⟨b1,k1,q1,hb1,rfl,mV⟩;have:=mV.aZ w;have:=mV.dX w1)
  |(go_at_call 99;refine(HS _ _ hb1).mono ?_;rintro e n2 ⟨b2,k2,q2,hb2,rfl,EY⟩;have:=EY.aZ w;have:=EY.dX w1)
  |(go_at_call 101;refine(HRt _ _ hb2).mono ?_;rintro e n3 ⟨b3,k3,q3,hb3,rfl,zA⟩;have:=zA.aZ w;have:=zA.dX w1)
  |(go_at_call 103;refine(HM _ _ hb3).mono ?_;rintro e n4 ⟨b4,k4,q4,hb4,rfl,uX⟩;have:=uX.aZ w;have:=uX.dX w1)
  |(go_at_call 102;refine ku (HCm _ _ _ hb4 (aC.gb (aC.gb hb2 zA) uX)) fun n5 Hw=>?_;have:=Hw.aZ w;have:=Hw.dX w1)
  |(go_at_call 85;with_reducible refine(HR.out _ _ (aC.gb (aC.gb hb3 uX) Hw)).mono ?_;rintro e w9 ⟨z,fl,hq',rfl,aV⟩;have iw:=aV.aZ w))
 refine bodyPost_ret (v:=aK z fl) (by simp[results,Tryz.results41,go_sem,iw]) rfl ⟨z,fl,hq',rfl,?_⟩;exact Gb.g):P:=h
theorem Ad(f mode a:Int)(HF:kW f mode a false)(z fl:Int)(HL:nH f z fl)(w:World):
  QB 41 #[J f,J mode,.int .u64 a] w (aK z fl):=by
 go_enter func41,ntmps41;go_wp2_with (first
  |(go_at_call 94;refine kw (HF _) ?_)
  |(go_at_call 83;refine ku (HL _) fun w9 aV=>?_;have iw:=aV.aZ w))
 exact dA (by simp[results,Tryz.results41,go_sem,iw])
theorem UH(f mode a ca sa xa ga:Int)(HF:kW f mode a true)(gJ:bC f a ca sa xa ga)(kY:bF ca sa xa ga true)(t:Bool)(e5:(ca==4)=t)(z fl:Int)(HL:oI f t z fl)(w:World):
  QB 41 #[J f,J mode,.int .u64 a] w (aK z fl):=by
 cases t
 ·exact aDb
 ·exact aDb
theorem Pm(f mode a ca sa xa ga:Int)(HF:kW f mode a true)(gJ:bC f a ca sa xa ga)(kY:bF ca sa xa ga false)(e1:ca=0)(z fl:Int)(HL:m_ f sa z fl)(w:World):
  QB 41 #[J f,J mode,.int .u64 a] w (aK z fl):=by
 subst e1;go_enter func41,ntmps41;go_wp2_with (first
  |(go_at_call 94;refine kw (HF _) ?_)
  |(go_at_call 57;first|(with_reducible refine ku (gJ.out _) fun w1 ak=>?_;have gY:=ak.aZ w;have hz0:=au gY.1))
  |(go_at_call 95;first|(with_reducible refine ku (kY.out _) fun va aS=>?_;have:=aS.aZ w;have:=aS.dX w1))
  |(go_at_call 84;refine ku (HL _) fun w9 aV=>?_;have iw:=aV.aZ w))
 exact dA (by simp[results,Tryz.results41,go_sem,iw])
theorem UG(f mode a ca sa xa ga:Int)(HF:kW f mode a true)(gJ:bC f a ca sa xa ga)(kY:bF ca sa xa ga false)(e1:(ca==0)=false)(e2:sa=1)(z fl:Int)(HL:nH f z fl)(w:World):
  QB 41 #[J f,J mode,.int .u64 a] w (aK z fl):=by
 subst e2;go_enter func41,ntmps41;go_wp2_with (first
  |(go_at_call 94;refine kw (HF _) ?_)
  |(go_at_call 57;first|(with_reducible refine ku (gJ.out _) fun w1 ak=>?_;have gY:=ak.aZ w;have hz0:=au gY.1))
  |(go_at_call 95;first|(with_reducible refine ku (kY.out _) fun va aS=>?_;have:=aS.aZ w;have:=aS.dX w1))
  |(go_at_call 83;refine ku (HL _) fun w9 aV=>?_;have iw:=aV.aZ w))
 exact dA (by simp[results,Tryz.results41,go_sem,iw])
theorem UJ(f mode a ca sa xa ga:Int)(HF:kW f mode a true)(gJ:bC f a ca sa xa ga)(kY:bF ca sa xa ga false)(e1:ca=2)(e2:sa=0)(z fl:Int)(HL:Ci f 0 z fl)(w:World):
  QB 41 #[J f,J mode,.int .u64 a] w (aK z fl):=by
 subst e1 e2;go_enter func41,ntmps41;go_wp2_with (first
  |(go_at_call 94;refine kw (HF _) ?_)
  |(go_at_call 57;first|(with_reducible refine ku (gJ.out _) fun w1 ak=>?_;have gY:=ak.aZ w;have hz0:=au gY.1))
  |(go_at_call 95;first|(with_reducible refine ku (kY.out _) fun va aS=>?_;have:=aS.aZ w;have:=aS.dX w1))
  |(go_at_call 97;refine ku (HL _) fun w9 aV=>?_;have iw:=aV.aZ w))
 exact dA (by simp[results,Tryz.results41,go_sem,iw])
theorem UF(f mode a ca sa xa ga:Int)(HF:kW f mode a true)(gJ:bC f a ca sa xa ga)(kY:bF ca sa xa ga false)(e1:ca=1)(e2:sa=0)(A:Nat)(e3:ga=(A:Int))(hA:A<18446744073709551616)(x0:-50000<=xa)(x1:xa<=50000)(p:Int)(p0:0<=p)(p1:p<=60)(HP:KW 98 #[J f] (J p))(P:Nat)(P0 d0 d q r0:Int)(hP0:p+8=P0)(hd0:xa-P0=d0)(hr1:d0.tmod 2=r0)(hr2:(r0 != 0)=true)(hP:P0+1=(P:Int))(hPb:P<=70)(hd:xa-(P:Int)=d)(hq:d.tdiv 2=q)(hqw:wrap64 q=q)(rest:Bool)(z0:Int)(hz:(z0 != 0)=rest)(Rt:Nat)(HRt:Hid (∀v w,aC 8 w v (A*2^P)->CT 101 #[v] w (qh 8 Rt w)))(HCm:Hid (∀v v' w,aC 16 w v (Rt*Rt)->aC 8 w v' (A*2^P)->QB 102 #[v,v'] w (J z0)))(Q:Int->Int->Prop)(HR:Hid (∀v w,aC 8 w v Rt->CT 85 #[J f,J mode,.agg #[J 0,v,J q,.bool rest]] w (Ey Q w)))(w:World):
  CT 41 #[J f,J mode,.int .u64 a] w (Ey Q w):=by
 subst e1 e2 e3;have HB:Hid (∀w,CT 100 #[.int .u64 (A:Int)] w (qh 2 A w)):=fun w=>dV (fC A hA w);have HS:Hid (∀v w,aC 2 w v A->CT 99 #[v,J (P:Int)] w (qh 8 (A*2^P) w)):=fun v w ⟨n,a1,a2⟩=>dV ((fV a2 om P om).mono (fun e w' ⟨v,k,c1,c2,c3,c4⟩=>⟨v,k,c1,c2,om,c4⟩));have HM:Hid (∀v w,aC 8 w v Rt->CT 103 #[v,v] w (qh 16 (Rt*Rt) w)):=fun v w ⟨n,a1,a2⟩=>dV ((wz a2 om a2 om).mono (fun e w' ⟨v,k,c1,c2,c3,c4⟩=>⟨v,k,c1,c2,om,c4⟩));generalize A*2^P=X at*
 generalize Rt*Rt=XX at*
 have aJb:(P:Int)<=70:=om;have hpn:-100<=P0:=om;have hpm:P0<=100:=om;exact aDc
theorem Po(f mode a ca sa xa ga:Int)(HF:kW f mode a true)(gJ:bC f a ca sa xa ga)(kY:bF ca sa xa ga false)(e1:ca=1)(e2:sa=0)(A:Nat)(e3:ga=(A:Int))(hA:A<18446744073709551616)(x0:-50000<=xa)(x1:xa<=50000)(p:Int)(p0:0<=p)(p1:p<=60)(HP:KW 98 #[J f] (J p))(P:Nat)(d q r0:Int)(hP0:p+8=(P:Int))(hPb:P<=70)(hd:xa-(P:Int)=d)(hr1:d.tmod 2=r0)(hr2:(r0 != 0)=false)(hq:d.tdiv 2=q)(hqw:wrap64 q=q)(rest:Bool)(z0:Int)(hz:(z0 != 0)=rest)(Rt:Nat)(HRt:Hid (∀v w,aC 8 w v (A*2^P)->CT 101 #[v] w (qh 8 Rt w)))(HCm:Hid (∀v v' w,aC 16 w v (Rt*Rt)->aC 8 w v' (A*2^P)->QB 102 #[v,v'] w (J z0)))(Q:Int->Int->Prop)(HR:Hid (∀v w,aC 8 w v Rt->CT 85 #[J f,J mode,.agg #[J 0,v,J q,.bool rest]] w (Ey Q w)))(w:World):
  CT 41 #[J f,J mode,.int .u64 a] w (Ey Q w):=by
 subst e1 e2 e3;have HB:Hid (∀w,CT 100 #[.int .u64 (A:Int)] w (qh 2 A w)):=fun w=>dV (fC A hA w);have HS:Hid (∀v w,aC 2 w v A->CT 99 #[v,J (P:Int)] w (qh 8 (A*2^P) w)):=fun v w ⟨n,a1,a2⟩=>dV ((fV a2 om P om).mono (fun e w' ⟨v,k,c1,c2,c3,c4⟩=>⟨v,k,c1,c2,om,c4⟩));have HM:Hid (∀v w,aC 8 w v Rt->CT 103 #[v,v] w (qh 16 (Rt*Rt) w)):=fun v w ⟨n,a1,a2⟩=>dV ((wz a2 om a2 om).mono (fun e w' ⟨v,k,c1,c2,c3,c4⟩=>⟨v,k,c1,c2,om,c4⟩));generalize A*2^P=X at*
 generalize Rt*Rt=XX at*
 have aJb:(P:Int)<=70:=om;exact aDc
