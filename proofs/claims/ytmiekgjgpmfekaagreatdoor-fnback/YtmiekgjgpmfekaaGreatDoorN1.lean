import Derived.Test.YtmiekgjgpmfekaaGreatDoorN0
set_option linter.all false
set_option maxRecDepth 1000000
set_option maxHeartbeats 40000000
open Go.Proofs.YtmiekgjgpmfekaaGreatDoor renaming vU → J
open Go.Value renaming int → Y
open Go.IntKind renaming i64 → Z, u64 → O
open Go.Ending renaming returned → X
open Go.Proofs.Tryz
namespace Go.Proofs.YtmiekgjgpmfekaaGreatDoor
open Go.RowKit
variable{o:Ops}{w:World}{v cv:Value}{n:Nat}
theorem aCU{P:Prop}(h:P:=by
 by_cases e2:q<j
 ·rw[if_neg e1,if_pos e2,if_pos (by omega)]
 ·rw[if_neg e1,if_neg e2,if_neg (by omega)]):P:=h
theorem aCX{P:Prop}(h:P:=by
 rw[show k+1-1=k by omega,<-hm]at e2;obtain⟨b,cap,rfl,c1,c2,_,_,c3⟩:=e2.at hm1;exact⟨b,cap,e1,c2,fun j hj=>(c3 j hj).1,e3⟩):P:=h
theorem aCY{P:Prop}(h:P:=by
 go_region;all_goals (go_wp2;go_meet)
 ·exact⟨_,_,rfl,rfl,om,Ow.drew (Ow.alloc (OB w) _),Ow.drew (OC w _),kg⟩
 ·exact⟨_,_,rfl,rfl,om,Ow.drew (OC w _),Ow.drew (Ow.alloc (OB w) _),kg⟩):P:=h
attribute [local go_sem] aj bK
def Oi(o:Ops)(k:Nat):Prop:=∀(K:Int) (w:World) (v cv:Value) (n:Nat) (cs:Nat->Int),K=(k:Int)->Fm w->Rd w O v (2^k) (2^k) cs->(∀j,Wd (cs j))->CR o w cv n->k<n->n<=7->
 CT 112 #[Y Z K,v,.func (.func 113) #[] #[],.func (.func 114) #[] #[],.func (.func 115) #[cv] #[]] w fun e w'=>∃v',e=X v'/\Ow w' w.heap.size 59 2 O v' (2^(k-1)) (flat (o.tr k cs))/\Gb w w'
theorem Ul(o:Ops):Oi o 1:=by
 intro K w v cv n cs hK hw hr hcs hc hk hn;have HV:Hid (CT 114 #[v] w fun e w'=>∃v',e=X v'/\Ow w' w.heap.size 59 2 O v' 1 (flat (o.tr 1 cs))/\Gb w w'):=Un hr;obtain rfl:K=1:=hK;clear hw hr hcs hc hk hn;go_enter func112,ntmps112;go_wp2_with (go_at_call 114;refine HV.out.mono ?_;rintro e w1 ⟨v',rfl,ho1,ak⟩);go_returns;exact⟨_,rfl,ho1,ak⟩
theorem OU(H:o.I)(HI:o.In)(k:Nat)(IH:Oi o (k+1)):Oi o (k+2):=by
 intro K w v cv n cs hK hw hr hcs hc hk hn;unfold Oi at IH;obtain⟨K1,hK1⟩:∃K1:Int,K1=((k+1:Nat):Int):=⟨_,rfl⟩;have uK:IntKind.i64.wrap (K-1)=K1:=wi;obtain⟨h,hh⟩:∃h,h=2^(k+1):=⟨_,rfl⟩;obtain⟨L,hL⟩:∃L,L=2^(k+2):=⟨_,rfl⟩;have h2:L=h+h:=by rw[hL,hh,Nat.pow_succ];omega
 have hmax:h<=64:=by
  rw[hh];have:=Nat.pow_le_pow_right (show 0<2 by decide) (show k+1<=6 by omega);omega
 have hpos:0<h:=by rw[hh];exact Nat.pow_pos de
 rw[<-hL]at hr;obtain⟨bx,cx,rfl,hx1,hx2,hxc⟩:=hr.at om;have HX:Hid _:=hxc;have HC:Hid _:=hc;have HF:Hid _:=hw;have HH:Hid _:=hh;have hmk:∀w,(Instr.makeSlice 27 (Y Z (h:Int)) (Y Z (h:Int))).run Tryz.prog w=.ok (aB w.heap.size h h) (w.alloc (.cells (madeCells #[J 0] (h*1)) 33)):=fun w=>mO 27 33 (J 0) 1 8 Tryz.underlying27 TD de h om w;have ZA:(L:Int)/2=(h:Int):=om;have OB:Hid (∀w:World,Ow (w.alloc (.cells (madeCells #[J 0] h) 33)) w.heap.size 33 1 O (aB w.heap.size h h) h (fun _=>0)):=fun w=>by have:=Ow.made w 33 1 #[J 0] O (Go.Proofs.YtmiekgjgpmfekaaGreatDoor.z1 _) h (by omega);rw[Nat.mul_one]at this;exact this
 have OC:Hid (∀(w:World) (ob:Obj),Ow ((w.alloc ob).alloc (.cells (madeCells #[J 0] h) 33)) w.heap.size 33 1 O (aB (w.heap.size+1) h h) h (fun _=>0)):=fun w ob=>by have:=OB (w.alloc ob);rw[World.size_alloc]at this;exact this.mono om
 have k3:(K==1)=false:=by simp;omega
 have HK1:Hid _:=hK1;have HK:Hid _:=hK;clear hK1 hK;have HL2:Hid _:=h2;have aG3:L<=128:=om;clear hr hxc hc hw hh hL h2;go_enter func112,ntmps112;go_wp2;go_cut [11,12] (fun f s wx=>∃b1 b2:Nat,f=aB b1 h h/\s=aB b2 h h/\b1≠b2/\Ow wx w.heap.size 33 1 O (aB b1 h h) h (fun _=>0)/\Ow wx w.heap.size 33 1 O (aB b2 h h) h (fun _=>0)/\Gb w wx)
 case first=>
  exact aCY
 case rest=>
  obtain⟨b1,b2,rfl,rfl,hne,ho1,ho2,hgc⟩:=hcut;have HO1:Hid _:=ho1;have HO2:Hid _:=ho2;clear ho1 ho2;go_wp2;go_loopw [33] (fun i wr=>∃j:Nat,j<=h/\i=Y Z j/\Ow wr w.heap.size 33 1 O (aB b1 h h) h (fun q=>if q<j then cs (2*q)else 0)/\Ow wr w.heap.size 33 1 O (aB b2 h h) h (fun q=>if q<j then cs (2*q+1)else 0)/\Gb w wr) (fun i _=>h-(intOf i).toNat)
  case atStart=>exact⟨0,Nat.zero_le _,rfl,Ow.congr HO1.out (fun q hq=>by rw[if_neg (by omega)]),Ow.congr HO2.out (fun q hq=>by rw[if_neg (by omega)]),hgc⟩
  case round=>
   obtain⟨j,hj,rfl,ho1,ho2,hgb⟩:=hrel;have HP1:Hid _:=ho1;have HP2:Hid _:=ho2;by_cases hlt:j<h
   ·have hlt':(j:Int)<(h:Int):=om;obtain⟨b1',cap1,e1,hb1,_,_,_,hc1⟩:=ho1.at hpos;obtain⟨b2',cap2,e2,hb2,_,_,_,hc2⟩:=ho2.at hpos;simp only[Value.slice.injEq,Option.some.injEq,Addr.mk.injEq,and_true,true_and]at e1 e2;obtain⟨rfl,rfl⟩:=e1;obtain⟨rfl,rfl⟩:=e2;obtain⟨c1,z1⟩:=hc1 j om;obtain⟨c2,z2⟩:=hc2 j om;rw[if_neg (by omega)]at c1 c2;obtain⟨J0,hJ0⟩:∃J0:Nat,J0=2*j:=⟨_,rfl⟩;obtain⟨J1,hJ1⟩:∃J1:Nat,J1=2*j+1:=⟨_,rfl⟩;obtain⟨x,hx⟩:∃x,cs (2*j)=x:=⟨_,rfl⟩;obtain⟨y,hy⟩:∃y,cs (2*j+1)=y:=⟨_,rfl⟩;have x0:wr.cell? ⟨bx,J0,none⟩=some (J x):=by rw[hJ0,<-hx];exact hgb.old (HX _ (by have:=HL2.out;omega))
    have x1:wr.cell? ⟨bx,J1,none⟩=some (J y):=by rw[hJ1,<-hy];exact hgb.old (HX _ (by have:=HL2.out;omega))
    have hbx:=au (HX 0 (by have:=HL2.out;omega));have u0:IntKind.i64.wrap (2*(j:Int))=(J0:Int):=wi;have u1:IntKind.i64.wrap ((J0:Int)+1)=(J1:Int):=wi;have i0:(J0:Int)<(L:Int):=by have:=HL2.out;omega
    have i1:(J1:Int)<(L:Int):=by have:=HL2.out;omega
    have HJ0:Hid _:=hJ0;have HJ1:Hid _:=hJ1;have Hx:Hid _:=hx;have Hy:Hid _:=hy;clear hJ0 hJ1 hx hy;clear ho1 ho2 hc1 hc2;go_wp2;go_region_held3 (fun w'=>aj w' bx J0 (J x)/\aj w' bx J1 (J y))
     (exact kZ)
     (first
      |(go_at_call 113;refine kw (Zg _ _ _) ?_)
      |(go_at_call 171;refine kw (TB _ _ _) ?_))
    all_goals
     go_wp2;go_roundw
     case rel=>
      refine⟨j+1,om,by go_num,?_,?_,kg⟩
      ·refine Ow.drew (Ow.other (Ow.congr (Ow.store HP1.out j x) (fun q hq=>?_)) (fun e=>hne e.symm) _);by_cases e1:q=j
       ·rw[if_pos e1,if_pos om,e1,Hx.out]
       ·exact aCU
      ·refine Ow.drew (Ow.congr (Ow.store (Ow.other HP2.out (fun e=>hne e) _) j y) (fun q hq=>?_));by_cases e1:q=j
       ·rw[if_pos e1,if_pos om,e1,Hy.out]
       ·exact aCU
     case measure=>simp[intOf]<;>omega
   ·obtain rfl:j=h:=om;have uf:¬(j:Int)<(j:Int):=om
    rename World=>W
    have hS:∀w',Gb W w'->Fm w':=fun w' hg=>Fm.gb HF.out (hgb.trans hg);have r1:Rd W O (aB b1 j j) (2^(k+1)) (2^(k+1)) (fun m=>cs (2*m)):=by
     rw[<-HH.out];have:=Ow.rd HP1.out;rw[Nat.mul_one]at this;exact this.congr (fun q hq=>by rw[if_pos hq])
    have r2:Rd W O (aB b2 j j) (2^(k+1)) (2^(k+1)) (fun m=>cs (2*m+1)):=by
     rw[<-HH.out];have:=Ow.rd HP2.out;rw[Nat.mul_one]at this;exact this.congr (fun q hq=>by rw[if_pos hq])
    obtain⟨m,hm⟩:∃m,m=2^k:=⟨_,rfl⟩;have hm1:0<m:=by rw[hm];exact Nat.pow_pos de
    have hmj:j=2*m:=by rw[HH.out,hm,Nat.pow_succ];omega
    have HA:Hid (CT 112 #[Y Z K1,aB b1 j j,.func (.func 113) #[] #[],.func (.func 114) #[] #[],.func (.func 115) #[cv] #[]] W fun e w'=>∃b cap,e=X (aB b m cap)/\b<w'.heap.size/\(∀q,q<m*2->aj w' b q (J (flat (o.tr (k+1) (fun m=>cs (2*m))) q)))/\Gb W w'):=by
     show Calls _ _ _ _ _;refine(IH K1 W _ cv n _ HK1.out (hS _ (Gb.refl _)) r1 (fun _=>hcs _) (CR.gb HC.out hgb) om hn).mono fun e w'' ⟨v,e1,e2,e3⟩=>?_;exact aCX
    have HB:Hid (∀W2,Gb W W2->CT 112 #[Y Z K1,aB b2 j j,.func (.func 113) #[] #[],.func (.func 114) #[] #[],.func (.func 115) #[cv] #[]] W2 fun e w'=>∃b cap,e=X (aB b m cap)/\b<w'.heap.size/\(∀q,q<m*2->aj w' b q (J (flat (o.tr (k+1) (fun m=>cs (2*m+1))) q)))/\Gb W2 w'):=by
     intro W2 hg2;refine(IH K1 W2 _ cv n _ HK1.out (hS _ hg2) (r2.gb hg2) (fun _=>hcs _) ((CR.gb HC.out hgb).gb hg2) om hn).mono fun e w'' ⟨v,e1,e2,e3⟩=>?_;exact aCX
    obtain⟨M2,hM2⟩:∃M2:Nat,M2=2*m:=⟨_,rfl⟩;have u2:IntKind.i64.wrap (2*(m:Int))=(M2:Int):=wi;have aIR:∀w,(Instr.makeSlice 22 (Y Z (M2:Int)) (Y Z (M2:Int))).run Tryz.prog w=.ok (aB w.heap.size M2 M2) (w.alloc (.cells (madeCells #[J 0,J 0] (M2*2)) 59)):=fun w=>mO 22 59 (aG 0 0) 2 16 Tryz.underlying22 Zm de M2 om w;have HM3:Hid (∀w:World,Ow (w.alloc (.cells (madeCells #[J 0,J 0] (M2*2)) 59)) w.heap.size 59 2 O (aB w.heap.size M2 M2) M2 (fun _=>0)):=fun w=>Ow.made w 59 2 #[J 0,J 0] O (z2 _) M2 om;have HMj:Hid _:=hmj;have HM:Hid _:=hm;have J_:Hid _:=hM2;have HGB:Hid _:=hgb;have HCS:Hid _:=hcs;have HSS:Hid _:=hS;have aKw:m<=64:=om;have aG2:M2<=128:=om;clear hmj hm hM2 ho1 ho2 r1 r2 OC OB hmk ZA hgb IH hcs hS;go_wp2_with (first
     |(go_at_call 112;first|(with_reducible refine HA.out.mono ?_;rintro e w2 ⟨ba,ca,rfl,hba,hca,aA⟩)|(go_loud (with_reducible refine(HB.out _ aA).mono ?_);rintro e w3 ⟨bb,cb,rfl,hbb,hcb,aF⟩;have WM:Hid _:=hca;have WL:Hid _:=hcb;clear hca hcb)))
    have V7:Gb W w3:=aA.trans aF;have hsz3:=V7.size;have V5:=(HGB.out:Gb w W).size;have hAB:Gb w2 w3:=aF;go_loopw [82] (fun i wr=>∃j':Nat,j'<=m/\i=Y Z j'/\Ow wr w3.heap.size 59 2 O (aB w3.heap.size M2 M2) M2 (fun q=>if q<4*j' then flat (o.tr (k+2) cs) q else 0)/\Gb w3 wr) (fun i _=>m-(intOf i).toNat)
    case atStart=>exact⟨0,Nat.zero_le _,rfl,Ow.congr (HM3 w3) (fun q hq=>by rw[if_neg (by omega)]),kg⟩
    case round=>
     obtain⟨i,hi,rfl,hof,hg3⟩:=hrel;have HFo:Hid _:=hof;by_cases hlt:i<m
     ·have hlt':(i:Int)<(m:Int):=om;obtain⟨b',cap',e,_,_,_,_,hcz⟩:=hof.at (by have:=J_.out;omega);simp only[Value.slice.injEq,Option.some.injEq,Addr.mk.injEq,and_true,true_and]at e;obtain⟨rfl,rfl⟩:=e;obtain⟨J0,hJ0⟩:∃J0:Nat,J0=2*i:=⟨_,rfl⟩;obtain⟨J1,hJ1⟩:∃J1:Nat,J1=2*i+1:=⟨_,rfl⟩;have aFj:=J_.out;obtain⟨c0,z0⟩:=hcz (J0*2) om;obtain⟨c1,z1⟩:=hcz (J0*2+1) om;obtain⟨c2,z2⟩:=hcz (J1*2) om;obtain⟨c3,z3⟩:=hcz (J1*2+1) om;rw[if_neg (by omega)]at c0 c1 c2 c3;obtain⟨a1,ha1⟩:∃a1,(o.tr (k+1) (fun m=>cs (2*m)) i).1 =a1:=⟨_,rfl⟩;obtain⟨a2,ha2⟩:∃a2,(o.tr (k+1) (fun m=>cs (2*m)) i).2 =a2:=⟨_,rfl⟩;obtain⟨d1,hd1⟩:∃d1,(o.tr (k+1) (fun m=>cs (2*m+1)) i).1 =d1:=⟨_,rfl⟩;obtain⟨d2,hd2⟩:∃d2,(o.tr (k+1) (fun m=>cs (2*m+1)) i).2 =d2:=⟨_,rfl⟩;have p0:wr.cell? ⟨ba,i*2,none⟩=some (J a1):=by rw[<-ha1,<-dh,Nat.mul_comm];exact hg3.old (hAB.old (WM (2*i) om))
      have p1:wr.cell? ⟨ba,i*2+1,none⟩=some (J a2):=by rw[<-ha2,<-dn,Nat.mul_comm];exact hg3.old (hAB.old (WM (2*i+1) om))
      have p2:wr.cell? ⟨bb,i*2,none⟩=some (J d1):=by rw[<-hd1,<-dh,Nat.mul_comm];exact hg3.old (WL (2*i) om)
      have p3:wr.cell? ⟨bb,i*2+1,none⟩=some (J d2):=by rw[<-hd2,<-dn,Nat.mul_comm];exact hg3.old (WL (2*i+1) om)
      have wE:=HI.tr (k+1) (fun m=>cs (2*m)) i (fun _=>HCS _);have wO:=HI.tr (k+1) (fun m=>cs (2*m+1)) i (fun _=>HCS _);unfold mY at wE wO;rw[ha1,ha2]at wE;rw[hd1,hd2]at wO;obtain⟨x,y,hxy⟩:∃x y,o.rt (k+2) (2*i)=(x,y):=⟨_,_,rfl⟩;have wX:=HI.rt (k+2) (2*i);rw[hxy]at wX;have aBT:Gb w wr:=Gb.trans (Gb.trans HGB.out V7) hg3;have HSp:Hid (∀w',Gb w w'->QW 115 #[cv,Y Z K,Y Z i] w' (.func (.func 172) #[aG x y] #[])):=fun w' hg=>by
       rw[show K=((k+2:Nat):Int) from HK.out];exact O5 (CR.gb HC.out hg) (k+2) i om hk hn (by rw[show k+2-1=k+1 by omega,Nat.pow_succ,<-HM.out];omega) x y hxy
      obtain⟨t,ht⟩:∃t,o.cMul (x,y) (d1,d2)=t:=⟨_,rfl⟩;have HSq:Hid (∀w',Gb w w'->QR 172 #[aG x y,aG a1 a2,aG d1 d2] w' (.tuple #[aG (o.add a1 t.1) (o.add a2 t.2),aG (o.sub a1 t.1) (o.sub a2 t.2)])):=fun w' hg=>Wj H HI wX.1 wX.2 wE.1 wE.2 wO.1 wO.2 (Fm.gb HF.out hg) t ht;have s0:o.tr (k+2) cs (2*i)=(o.add a1 t.1,o.add a2 t.2):=by
       simp only[Ops.tr];rw[if_pos om,show 2*i/2=i by omega,hxy,show o.tr (k+1) (fun m=>cs (2*m+1)) i=(d1,d2) by rw[<-hd1,<-hd2],ht];unfold Ops.cAdd;rw[ha1,ha2]
      have s1:o.tr (k+2) cs (2*i+1)=(o.sub a1 t.1,o.sub a2 t.2):=by
       simp only[Ops.tr];rw[if_neg om,show(2*i+1)/2=i by omega,hxy,show o.tr (k+1) (fun m=>cs (2*m+1)) i=(d1,d2) by rw[<-hd1,<-hd2],ht];unfold Ops.cSub;rw[ha1,ha2]
      obtain⟨v0,hv0⟩:∃v0,o.add a1 t.1=v0:=⟨_,rfl⟩;obtain⟨v1,hv1⟩:∃v1,o.add a2 t.2=v1:=⟨_,rfl⟩;obtain⟨v2,hv2⟩:∃v2,o.sub a1 t.1=v2:=⟨_,rfl⟩;obtain⟨v3,hv3⟩:∃v3,o.sub a2 t.2=v3:=⟨_,rfl⟩;rw[hv0,hv1]at s0;rw[hv2,hv3]at s1;rw[hv0,hv1,hv2,hv3]at HSq;have f0:Hid (flat (o.tr (k+2) cs) (J0*2)=v0):=by show _=_;rw[Nat.mul_comm,dh,hJ0,s0]
      have f1:Hid (flat (o.tr (k+2) cs) (J0*2+1)=v1):=by show _=_;rw[Nat.mul_comm,dn,hJ0,s0]
      have f2:Hid (flat (o.tr (k+2) cs) (J1*2)=v2):=by show _=_;rw[Nat.mul_comm,dh,hJ1,s1]
      have f3:Hid (flat (o.tr (k+2) cs) (J1*2+1)=v3):=by show _=_;rw[Nat.mul_comm,dn,hJ1,s1]
      have u0:IntKind.i64.wrap (2*(i:Int))=(J0:Int):=wi;have u1:IntKind.i64.wrap ((J0:Int)+1)=(J1:Int):=wi;have i0:(J0:Int)<(M2:Int):=om;have i1:(J1:Int)<(M2:Int):=om;have HJ0:Hid _:=hJ0;have HJ1:Hid _:=hJ1;have n0:¬J0=J1:=om;have n1:¬J0*2=J1*2:=om;have n2:¬J0*2+1=J1*2:=om;have n3:¬J0*2=J1*2+1:=om;have n4:¬J0*2+1=J1*2+1:=om;have hsb:ba<w3.heap.size:=by have:=hAB.size;omega
      have aGB:=hg3.size;clear hof hcz hJ0 hJ1 aFj ha1 ha2 hd1 hd2 wE wO hxy wX ht s0 s1 hv0 hv1 hv2 hv3;go_wp2;go_region_held3 (fun w'=>aj w' ba (i*2) (J a1)/\aj w' ba (i*2+1) (J a2)/\aj w' bb (i*2) (J d1)/\aj w' bb (i*2+1) (J d2))
       (exact kZ)
       (first
        |(go_at_call 115;refine kw (HSp _ kg) ?_)
        |(go_at_call 172;refine ku (HSq _ kg) fun w5 aT=>?_;have cc0:aj w5 w3.heap.size (J0*2) (J 0):=aT.c;have Z_:bK w5 w3.heap.size (J0*2):=aT.z;have cc1:aj w5 w3.heap.size (J0*2+1) (J 0):=aT.c;have Z9:bK w5 w3.heap.size (J0*2+1):=aT.z;have cc2:aj w5 w3.heap.size (J1*2) (J 0):=aT.c;have cz2:bK w5 w3.heap.size (J1*2):=aT.z;have cc3:aj w5 w3.heap.size (J1*2+1) (J 0):=aT.c;have cz3:bK w5 w3.heap.size (J1*2+1):=aT.z))
      all_goals
       go_wp2;go_roundw
       case rel=>
        refine⟨i+1,om,by go_num,?_,kg⟩;refine Ow.congr (Ow.store (Ow.store (Ow.store (Ow.store (Ow.gb (Ow.drew HFo.out) aT.gb) (J0*2) v0) (J0*2+1) v1) (J1*2) v2) (J1*2+1) v3) (fun q hq=>?_);have j0:=HJ0.out;have j1:=HJ1.out;by_cases e3:q=J1*2+1
        ·rw[if_pos e3,if_pos om,e3];exact f3.out.symm
        ·by_cases e2:q=J1*2
         ·rw[if_neg e3,if_pos e2,if_pos om,e2];exact f2.out.symm
         ·by_cases e1:q=J0*2+1
          ·rw[if_neg e3,if_neg e2,if_pos e1,if_pos om,e1];exact f1.out.symm
          ·by_cases e0:q=J0*2
           ·rw[if_neg e3,if_neg e2,if_neg e1,if_pos e0,if_pos om,e0];exact f0.out.symm
           ·by_cases e4:q<4*i
            ·rw[if_neg e3,if_neg e2,if_neg e1,if_neg e0,if_pos e4,if_pos (by omega)]
            ·rw[if_neg e3,if_neg e2,if_neg e1,if_neg e0,if_neg e4,if_neg (by omega)]
       case measure=>simp[intOf]<;>omega
     ·obtain rfl:i=m:=om;have aIS:¬(i:Int)<(i:Int):=om;have eM:2^(k+1)=M2:=by rw[Nat.pow_succ,<-HM.out,J_.out];omega
      have aBT:Gb w wr:=Gb.trans (Gb.trans HGB.out V7) hg3;clear hof;go_wp2;go_returns;refine⟨_,rfl,?_,aBT⟩;exact Ow.mono (Ow.congr HFo.out (fun q hq=>by rw[if_pos (by have:=J_.out;omega)])) om
theorem RX(H:o.I)(HI:o.In):∀k:Nat,1<=k->Oi o k
 |0,h=>absurd h om
 |1,_=>Ul o
 |k+2,_=>OU H HI k (RX H HI (k+1) om)
theorem aCV{P:Prop}(h:P:=by
 by_cases e2:q<2*j
 ·rw[if_neg e1,if_neg e0,if_pos e2,if_pos (by omega)]
 ·rw[if_neg e1,if_neg e0,if_neg e2,if_neg (by omega)]):P:=h
theorem aCW{P:Prop}(h:P:=by
 rw[<-HLe.out]at e2;obtain⟨b,cap,rfl,c1,c2,_,_,c3⟩:=e2.at hL1;exact⟨b,cap,e1,c2,fun j hj=>(c3 j om).1,e3⟩):P:=h
theorem Vq{zs:Nat->Int × Int}(hr:Rd w O v 1 2 (flat zs)):
  CT 144 #[v] w fun e w'=>∃v',e=X v'/\Ow w' w.heap.size 33 1 O v' 2 (o.bk 1 zs)/\Gb w w':=by
 obtain⟨b,cap,rfl,h1,h2,hc⟩:=hr.at om;have c0:aj w b 0 (J (zs 0).1):=hc 0 om;have c1:aj w b 1 (J (zs 0).2):=hc 1 om;have e0:o.bk 1 zs 0=(zs 0).1 :=rfl;have e1:o.bk 1 zs 1=(zs 0).2 :=rfl;generalize o.bk 1 zs=f at*
 generalize(zs 0).1 =x at*
 generalize(zs 0).2 =y at*
 clear hr hc;go_enter func144,ntmps144;go_wp2;go_region;all_goals go_wp2
 all_goals go_returns
 all_goals
  refine⟨_,rfl,?_,kg⟩;have:=World.ownsRow_lit (base:=w.heap.size) (e:=33) (size:=1) w.drew #[J x,J y] 2 (Nat.le_refl _) de rfl;refine Ow.congr (g:=fun j=>if j=0 then x else y) this (fun j hj=>?_)
  match j,hj with
  |0,_=>exact e0.symm
  |1,_=>exact e1.symm
theorem Ri(hc:CR o w cv n)(k j:Nat)(hk1:1<=k)(hk:k<n)(hn:n<=7)(hj:2*j<2^(k-1))(x y:Int)(hx:o.rt k (2*j)=(x,y)):
  QW 143 #[cv,Y Z k,Y Z j] w (.func (.func 184) #[aG x y] #[]):=by
 obtain⟨g,cap,rfl,h2⟩:=hc;obtain⟨b,cp,h3,h4⟩:=h2 k hk1 hk;obtain⟨m,hm⟩:∃m,2^(k-1)=m:=⟨_,rfl⟩;rw[hm]at h3 h4 hj;have hmm:m<=64:=by
  rw[<-hm];have:=Nat.pow_le_pow_right (show 0<2 by decide) (show k-1<=6 by omega);omega
 have c0:w.cell? ⟨b,2*j*2,none⟩=some (J x):=by rw[h4 _ om,Nat.mul_comm,dh,hx]
 have c1:w.cell? ⟨b,2*j*2+1,none⟩=some (J y):=by rw[h4 _ om,show 2*j*2+1=2*(2*j)+1 by omega,dn,hx]
 have hk':(k:Int)<(n:Int):=om;have hj':2*(j:Int)<(m:Int):=om;clear h2 h4 hm hx;go_enter func143,ntmps143;go_wp2;go_returns;exact⟨rfl,rfl⟩
def Oj(o:Ops)(k:Nat):Prop:=∀(K:Int) (w:World) (v cv:Value) (n:Nat) (zs:Nat->Int × Int),K=(k:Int)->Fm w->Rd w O v (2^(k-1)) (2^(k-1)*2) (flat zs)->(∀j,mY (zs j))->CR o w cv n->k<n->n<=7->
 CT 142 #[Y Z K,v,.func (.func 143) #[cv] #[],.func (.func 144) #[] #[],.func (.func 113) #[] #[]] w fun e w'=>∃v',e=X v'/\Ow w' w.heap.size 33 1 O v' (2^k) (o.bk k zs)/\Gb w w'
theorem Um(o:Ops):Oj o 1:=by
 intro K w v cv n zs hK hw hr hcs hc hk hn;have HV:Hid (CT 144 #[v] w fun e w'=>∃v',e=X v'/\Ow w' w.heap.size 33 1 O v' 2 (o.bk 1 zs)/\Gb w w'):=Vq hr;obtain rfl:K=1:=hK;clear hw hr hcs hc hk hn;go_enter func142,ntmps142;go_wp2_with (go_at_call 144;refine HV.out.mono ?_;rintro e w1 ⟨v',rfl,ho1,ak⟩);go_returns;exact⟨_,rfl,ho1,ak⟩
theorem OV(H:o.I)(HI:o.In)(k:Nat)(IH:Oj o (k+1)):Oj o (k+2):=by
 intro K w v cv n zs hK hw hr hcs hc hk hn;unfold Oj at IH;obtain⟨K1,hK1⟩:∃K1:Int,K1=((k+1:Nat):Int):=⟨_,rfl⟩;have uK:IntKind.i64.wrap (K-1)=K1:=wi;obtain⟨h,hh⟩:∃h,h=2^k:=⟨_,rfl⟩;obtain⟨L,hL⟩:∃L,L=2^(k+1):=⟨_,rfl⟩;have h2:L=h+h:=by rw[hL,hh,Nat.pow_succ];omega
 have hmax:h<=32:=by
  rw[hh];have:=Nat.pow_le_pow_right (show 0<2 by decide) (show k<=5 by omega);omega
 have hpos:0<h:=by rw[hh];exact Nat.pow_pos de
 rw[show k+2-1=k+1 by omega,<-hL]at hr;obtain⟨bx,cx,rfl,hx1,hx2,hxc⟩:=hr.at om;have HX:Hid _:=hxc;have HC:Hid _:=hc;have HF:Hid _:=hw;have HH:Hid _:=hh;have HLe:Hid _:=hL;have hmk:∀w,(Instr.makeSlice 22 (Y Z (h:Int)) (Y Z (h:Int))).run Tryz.prog w=.ok (aB w.heap.size h h) (w.alloc (.cells (madeCells #[J 0,J 0] (h*2)) 59)):=fun w=>mO 22 59 (aG 0 0) 2 16 Tryz.underlying22 Zm de h om w;have ZA:(L:Int)/2=(h:Int):=om;have OB:Hid (∀w:World,Ow (w.alloc (.cells (madeCells #[J 0,J 0] (h*2)) 59)) w.heap.size 59 2 O (aB w.heap.size h h) h (fun _=>0)):=fun w=>Ow.made w 59 2 #[J 0,J 0] O (Go.Proofs.YtmiekgjgpmfekaaGreatDoor.z2 _) h om;have OC:Hid (∀(w:World) (ob:Obj),Ow ((w.alloc ob).alloc (.cells (madeCells #[J 0,J 0] (h*2)) 59)) w.heap.size 59 2 O (aB (w.heap.size+1) h h) h (fun _=>0)):=fun w ob=>by have:=OB (w.alloc ob);rw[World.size_alloc]at this;exact this.mono om
 have k3:(K==1)=false:=by simp;omega
 have HK1:Hid _:=hK1;have HK:Hid _:=hK;have HL2:Hid _:=h2;have aG3:L<=64:=om;have HCS:Hid _:=hcs;clear hK1 hK hr hxc hc hw hh hL h2;go_enter func142,ntmps142;go_wp2;go_cut [11,12] (fun f s wx=>∃b1 b2:Nat,f=aB b1 h h/\s=aB b2 h h/\b1≠b2/\Ow wx w.heap.size 59 2 O (aB b1 h h) h (fun _=>0)/\Ow wx w.heap.size 59 2 O (aB b2 h h) h (fun _=>0)/\Gb w wx)
 case first=>
  exact aCY
 case rest=>
  obtain⟨b1,b2,rfl,rfl,hne,ho1,ho2,hgc⟩:=hcut;have HO1:Hid _:=ho1;have HO2:Hid _:=ho2;clear ho1 ho2;go_wp2;go_loopw [33] (fun i wr=>∃j:Nat,j<=h/\i=Y Z j/\Ow wr w.heap.size 59 2 O (aB b1 h h) h (fun q=>if q<2*j then flat (o.yx zs) q else 0)/\Ow wr w.heap.size 59 2 O (aB b2 h h) h (fun q=>if q<2*j then flat (o.zK (k+2) zs) q else 0)/\Gb w wr) (fun i _=>h-(intOf i).toNat)
  case atStart=>exact⟨0,Nat.zero_le _,rfl,Ow.congr HO1.out (fun q hq=>by rw[if_neg (by omega)]),Ow.congr HO2.out (fun q hq=>by rw[if_neg (by omega)]),hgc⟩
  case round=>
   obtain⟨j,hj,rfl,ho1,ho2,hgb⟩:=hrel;have HP1:Hid _:=ho1;have HP2:Hid _:=ho2;by_cases hlt:j<h
   ·have hlt':(j:Int)<(h:Int):=om;obtain⟨b1',cap1,e1,hb1,hB1,_,_,hc1⟩:=ho1.at hpos;obtain⟨b2',cap2,e2,hb2,hB2,_,_,hc2⟩:=ho2.at hpos;simp only[Value.slice.injEq,Option.some.injEq,Addr.mk.injEq,and_true,true_and]at e1 e2;obtain⟨rfl,rfl⟩:=e1;obtain⟨rfl,rfl⟩:=e2;obtain⟨c1,z1⟩:=hc1 (j*2) om;obtain⟨c1',z1'⟩:=hc1 (j*2+1) om;obtain⟨c2,z2⟩:=hc2 (j*2) om;obtain⟨c2',z2'⟩:=hc2 (j*2+1) om;rw[if_neg (by omega)]at c1 c2 c1' c2';obtain⟨J0,hJ0⟩:∃J0:Nat,J0=2*j:=⟨_,rfl⟩;obtain⟨J1,hJ1⟩:∃J1:Nat,J1=2*j+1:=⟨_,rfl⟩;obtain⟨x1,x2,hx⟩:∃x1 x2,zs (2*j)=(x1,x2):=⟨_,_,rfl⟩;obtain⟨y1,y2,hy⟩:∃y1 y2,zs (2*j+1)=(y1,y2):=⟨_,_,rfl⟩;have hLL:=HL2.out;have p0:aj wr bx (J0*2) (J x1):=by have:=hgb.old (HX (2*(2*j)) om);rw[dh,hx]at this;rw[hJ0,Nat.mul_comm];exact this
    have p1:aj wr bx (J0*2+1) (J x2):=by have:=hgb.old (HX (2*(2*j)+1) om);rw[dn,hx]at this;rw[hJ0,Nat.mul_comm];exact this
    have p2:aj wr bx (J1*2) (J y1):=by have:=hgb.old (HX (2*(2*j+1)) om);rw[dh,hy]at this;rw[hJ1,Nat.mul_comm];exact this
    have p3:aj wr bx (J1*2+1) (J y2):=by have:=hgb.old (HX (2*(2*j+1)+1) om);rw[dn,hy]at this;rw[hJ1,Nat.mul_comm];exact this
    have hbx:=au (HX 0 om);have wZ:=HCS (2*j);have wY:=HCS (2*j+1);rw[hx]at wZ;rw[hy]at wY;obtain⟨r,s,hrs⟩:∃r s,o.rt (k+2) (2*j)=(r,s):=⟨_,_,rfl⟩;have wR:=HI.rt (k+2) (2*j);rw[hrs]at wR;have HSp:Hid (∀w',Gb w w'->QW 143 #[cv,Y Z K,Y Z j] w' (.func (.func 184) #[aG r s] #[])):=fun w' hg=>by
     rw[show K=((k+2:Nat):Int) from HK.out];exact Ri (CR.gb HC.out hg) (k+2) j om hk hn (by rw[show k+2-1=k+1 by omega,<-HLe.out];omega) r s hrs
    obtain⟨t,ht⟩:∃t,o.yx zs j=t:=⟨_,rfl⟩;obtain⟨u,hu⟩:∃u,o.zK (k+2) zs j=u:=⟨_,rfl⟩;have HSq:Hid (∀w',Gb w w'->QR 184 #[aG r s,aG x1 x2,aG y1 y2] w' (.tuple #[aG t.1 t.2,aG u.1 u.2])):=fun w' hg=>Wn H HI wR.1 wR.2 wZ.1 wZ.2 wY.1 wY.2 (Fm.gb HF.out hg) t u (by rw[<-ht,<-hx,<-hy];rfl) (by rw[<-hu,<-hx,<-hy,<-hrs];rfl);obtain⟨t1,t2⟩:=t;obtain⟨u1,u2⟩:=u;dsimp only at HSq;have f0:Hid (flat (o.yx zs) (j*2)=t1):=by show _=_;rw[Nat.mul_comm,dh,ht]
    have f1:Hid (flat (o.yx zs) (j*2+1)=t2):=by show _=_;rw[Nat.mul_comm,dn,ht]
    have f2:Hid (flat (o.zK (k+2) zs) (j*2)=u1):=by show _=_;rw[Nat.mul_comm,dh,hu]
    have f3:Hid (flat (o.zK (k+2) zs) (j*2+1)=u2):=by show _=_;rw[Nat.mul_comm,dn,hu]
    have v0:IntKind.i64.wrap (2*(j:Int))=(J0:Int):=wi;have v1:IntKind.i64.wrap ((J0:Int)+1)=(J1:Int):=wi;have i0:(J0:Int)<(L:Int):=om;have i1:(J1:Int)<(L:Int):=om;clear ho1 ho2 hc1 hc2 hJ0 hJ1 hx hy hLL wZ wY wR hrs ht hu;go_wp2;go_region_held3 (fun w'=>aj w' bx (J0*2) (J x1)/\aj w' bx (J0*2+1) (J x2)/\aj w' bx (J1*2) (J y1)/\aj w' bx (J1*2+1) (J y2))
     (exact kZ)
     (first
      |(go_at_call 143;refine kw (HSp _ kg) ?_)
      |(go_at_call 184;refine ku (HSq _ kg) fun w5 aT=>?_;have Q_:=aT.size;(try simp only[World.size_drew]at Q_);have cc0:aj w5 b1 (j*2) (J 0):=aT.c;have Z_:bK w5 b1 (j*2):=aT.z;have cc1:aj w5 b1 (j*2+1) (J 0):=aT.c;have Z9:bK w5 b1 (j*2+1):=aT.z;have cc2:aj w5 b2 (j*2) (J 0):=aT.c;have cz2:bK w5 b2 (j*2):=aT.z;have cc3:aj w5 b2 (j*2+1) (J 0):=aT.c;have cz3:bK w5 b2 (j*2+1):=aT.z))
    all_goals
     go_wp2;go_roundw
     case rel=>
      refine⟨j+1,om,by go_num,?_,?_,kg⟩
      ·refine Ow.other (Ow.other (Ow.congr (Ow.store (Ow.store (Ow.gb (Ow.drew HP1.out) aT.gb) (j*2) t1) (j*2+1) t2) (fun q hq=>?_)) (fun e=>hne e.symm) _) (fun e=>hne e.symm) _;by_cases e1:q=j*2+1
       ·rw[if_pos e1,if_pos om,e1];exact f1.out.symm
       ·by_cases e0:q=j*2
        ·rw[if_neg e1,if_pos e0,if_pos om,e0];exact f0.out.symm
        ·exact aCV
      ·refine Ow.congr (Ow.store (Ow.store (Ow.other (Ow.other (Ow.gb (Ow.drew HP2.out) aT.gb) (fun e=>hne e) _) (fun e=>hne e) _) (j*2) u1) (j*2+1) u2) (fun q hq=>?_);by_cases e1:q=j*2+1
       ·rw[if_pos e1,if_pos om,e1];exact f3.out.symm
       ·by_cases e0:q=j*2
        ·rw[if_neg e1,if_pos e0,if_pos om,e0];exact f2.out.symm
        ·exact aCV
     case measure=>simp[intOf]<;>omega
   ·obtain rfl:j=h:=om;have uf:¬(j:Int)<(j:Int):=om
    rename World=>W
    have hS:∀w',Gb W w'->Fm w':=fun w' hg=>Fm.gb HF.out (hgb.trans hg);have r1:Rd W O (aB b1 j j) (2^(k+1-1)) (2^(k+1-1)*2) (flat (o.yx zs)):=by
     rw[show k+1-1=k by omega,<-HH.out];exact(Ow.rd HP1.out).congr (fun q hq=>by rw[if_pos (by omega)])
    have r2:Rd W O (aB b2 j j) (2^(k+1-1)) (2^(k+1-1)*2) (flat (o.zK (k+2) zs)):=by
     rw[show k+1-1=k by omega,<-HH.out];exact(Ow.rd HP2.out).congr (fun q hq=>by rw[if_pos (by omega)])
    have hL1:0<L:=by have:=HL2.out;omega
    have HA:Hid (CT 142 #[Y Z K1,aB b1 j j,.func (.func 143) #[cv] #[],.func (.func 144) #[] #[],.func (.func 113) #[] #[]] W fun e w'=>∃b cap,e=X (aB b L cap)/\b<w'.heap.size/\(∀q,q<L->aj w' b q (J (o.bk (k+1) (o.yx zs) q)))/\Gb W w'):=by
     show Calls _ _ _ _ _;refine(IH K1 W _ cv n _ HK1.out (hS _ (Gb.refl _)) r1 (HI.yx hcs) (CR.gb HC.out hgb) om hn).mono fun e w'' ⟨v,e1,e2,e3⟩=>?_;exact aCW
    have HB:Hid (∀W2,Gb W W2->CT 142 #[Y Z K1,aB b2 j j,.func (.func 143) #[cv] #[],.func (.func 144) #[] #[],.func (.func 113) #[] #[]] W2 fun e w'=>∃b cap,e=X (aB b L cap)/\b<w'.heap.size/\(∀q,q<L->aj w' b q (J (o.bk (k+1) (o.zK (k+2) zs) q)))/\Gb W2 w'):=by
     intro W2 hg2;refine(IH K1 W2 _ cv n _ HK1.out (hS _ hg2) (r2.gb hg2) (HI.zK _ hcs) ((CR.gb HC.out hgb).gb hg2) om hn).mono fun e w'' ⟨v,e1,e2,e3⟩=>?_;exact aCW
    obtain⟨M2,hM2⟩:∃M2:Nat,M2=2*L:=⟨_,rfl⟩;have u2:IntKind.i64.wrap (2*(L:Int))=(M2:Int):=wi;have aIR:∀w,(Instr.makeSlice 27 (Y Z (M2:Int)) (Y Z (M2:Int))).run Tryz.prog w=.ok (aB w.heap.size M2 M2) (w.alloc (.cells (madeCells #[J 0] (M2*1)) 33)):=fun w=>mO 27 33 (J 0) 1 8 Tryz.underlying27 TD de M2 om w;have HM3:Hid (∀w:World,Ow (w.alloc (.cells (madeCells #[J 0] M2) 33)) w.heap.size 33 1 O (aB w.heap.size M2 M2) M2 (fun _=>0)):=fun w=>by have:=Ow.made w 33 1 #[J 0] O (Go.Proofs.YtmiekgjgpmfekaaGreatDoor.z1 _) M2 (by omega);rw[Nat.mul_one]at this;exact this
    have J_:Hid _:=hM2;have HGB:Hid _:=hgb;have aG2:M2<=128:=om;clear hM2 ho1 ho2 r1 r2 OC OB hmk ZA hgb IH hcs hS;go_wp2_with (first
     |(go_at_call 142;first|(with_reducible refine HA.out.mono ?_;rintro e w2 ⟨ba,ca,rfl,hba,hca,aA⟩)|(go_loud (with_reducible refine(HB.out _ aA).mono ?_);rintro e w3 ⟨bb,cb,rfl,hbb,hcb,aF⟩;have WM:Hid _:=hca;have WL:Hid _:=hcb;clear hca hcb)))
    have V7:Gb W w3:=aA.trans aF;have hsz3:=V7.size;have V5:=(HGB.out:Gb w W).size;have hAB:Gb w2 w3:=aF;go_loopw [82] (fun i wr=>∃j':Nat,j'<=L/\i=Y Z j'/\Ow wr w3.heap.size 33 1 O (aB w3.heap.size M2 M2) M2 (fun q=>if q<2*j' then o.bk (k+2) zs q else 0)/\Gb w3 wr) (fun i _=>L-(intOf i).toNat)
    case atStart=>exact⟨0,Nat.zero_le _,rfl,Ow.congr (HM3 w3) (fun q hq=>by rw[if_neg (by omega)]),kg⟩
    case round=>
     obtain⟨i,hi,rfl,hof,hg3⟩:=hrel;have HFo:Hid _:=hof;by_cases hlt:i<L
     ·have hlt':(i:Int)<(L:Int):=om;obtain⟨b',cap',e,_,_,_,_,hcz⟩:=hof.at (by have:=J_.out;omega);simp only[Value.slice.injEq,Option.some.injEq,Addr.mk.injEq,and_true,true_and]at e;obtain⟨rfl,rfl⟩:=e;obtain⟨J0,hJ0⟩:∃J0:Nat,J0=2*i:=⟨_,rfl⟩;obtain⟨J1,hJ1⟩:∃J1:Nat,J1=2*i+1:=⟨_,rfl⟩;have aFj:=J_.out;obtain⟨c0,z0⟩:=hcz J0 om;obtain⟨c1,z1⟩:=hcz J1 om;rw[if_neg (by omega)]at c0 c1;obtain⟨x,hx⟩:∃x,o.bk (k+1) (o.yx zs) i=x:=⟨_,rfl⟩;obtain⟨y,hy⟩:∃y,o.bk (k+1) (o.zK (k+2) zs) i=y:=⟨_,rfl⟩;have p0:wr.cell? ⟨ba,i,none⟩=some (J x):=by rw[<-hx];exact hg3.old (hAB.old (WM i om))
      have p1:wr.cell? ⟨bb,i,none⟩=some (J y):=by rw[<-hy];exact hg3.old (WL i om)
      have f0:Hid (o.bk (k+2) zs J0=x):=by show _=_;simp only[Ops.bk];rw[if_pos om,show J0/2=i by omega,hx]
      have f1:Hid (o.bk (k+2) zs J1=y):=by show _=_;simp only[Ops.bk];rw[if_neg om,show J1/2=i by omega,hy]
      have u0:IntKind.i64.wrap (2*(i:Int))=(J0:Int):=wi;have u1:IntKind.i64.wrap ((J0:Int)+1)=(J1:Int):=wi;have i0:(J0:Int)<(M2:Int):=om;have i1:(J1:Int)<(M2:Int):=om;have n0:¬J0=J1:=om;have HJ0:Hid _:=hJ0;have HJ1:Hid _:=hJ1;have hsb:ba<w3.heap.size:=by have:=hAB.size;omega
      have aGB:=hg3.size;clear hof hcz hJ0 hJ1 aFj hx hy;go_wp2;go_region_held3 (fun w'=>aj w' ba i (J x)/\aj w' bb i (J y))
       (exact kZ)
       (first
        |(go_at_call 113;refine kw (Zg _ _ _) ?_)
        |(go_at_call 171;refine kw (TB _ _ _) ?_))
      all_goals
       go_wp2;go_roundw
       case rel=>
        refine⟨i+1,om,by go_num,?_,kg⟩;refine Ow.drew (Ow.congr (Ow.store (Ow.store HFo.out J0 x) J1 y) (fun q hq=>?_));have j0:=HJ0.out;have j1:=HJ1.out;by_cases e1:q=J1
        ·rw[if_pos e1,if_pos om,e1];exact f1.out.symm
        ·by_cases e0:q=J0
         ·rw[if_neg e1,if_pos e0,if_pos om,e0];exact f0.out.symm
         ·by_cases e4:q<2*i
          ·rw[if_neg e1,if_neg e0,if_pos e4,if_pos (by omega)]
          ·rw[if_neg e1,if_neg e0,if_neg e4,if_neg (by omega)]
       case measure=>simp[intOf]<;>omega
     ·obtain rfl:i=L:=om;have aIS:¬(i:Int)<(i:Int):=om;have aBT:Gb w wr:=Gb.trans (Gb.trans HGB.out V7) hg3;have eM:2^(k+2)=M2:=by rw[Nat.pow_succ,<-HLe.out,J_.out];omega
      have hfin:=Ow.mono (Ow.congr hof (g':=o.bk (k+2) zs) (fun q hq=>by rw[if_pos (by have:=J_.out;omega)])) (show w.heap.size<=w3.heap.size by omega);have HFin:Hid _:=hfin;clear hof hfin;go_wp2;go_returns;exact⟨_,rfl,HFin.out,aBT⟩
theorem RY(H:o.I)(HI:o.In):∀k:Nat,1<=k->Oj o k
 |0,h=>absurd h om
 |1,_=>Um o
 |k+2,_=>OV H HI k (RY H HI (k+1) om)
