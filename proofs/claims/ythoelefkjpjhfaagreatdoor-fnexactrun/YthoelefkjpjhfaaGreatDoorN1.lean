import Derived.Test.YthoelefkjpjhfaaGreatDoorN0
set_option linter.all false
set_option maxRecDepth 1000000
set_option maxHeartbeats 40000000
open Go.Proofs.YthoelefkjpjhfaaGreatDoor renaming vU → J
open Go.Value renaming int → Y
open Go.IntKind renaming i64 → Z, u64 → O
open Go.Ending renaming returned → X
open Go.Proofs.Tryz
namespace Go.Proofs.YthoelefkjpjhfaaGreatDoor
open Go.RowKit
variable{o:Ops}{w:World}{v cv:Value}{n:Nat}
def aKu{P:Prop}(h:P:=by
 by_cases e2:q<j
 .rw[if_neg e1,if_pos e2,if_pos (by omega)]
 .rw[if_neg e1,if_neg e2,if_neg (by omega)]):P:=h
def aKx{P:Prop}(h:P:=by
 rw[(om:k+1-1=k),<-hm]at e2;obtain⟨b,cap,rfl,c1,c2,_,_,c3⟩:=e2.at AU;exact⟨b,cap,e1,c2,λj hj=>(c3 j hj).1,e3⟩):P:=h
def aKy{P:Prop}(h:P:=by
 go_region;all_goals (go_wp2;go_meet)
 .exact⟨_,_,rfl,rfl,om,Ow.drew (Ow.alloc (HMd w) _),Ow.drew (Gf w _),kg⟩
 .exact⟨_,_,rfl,rfl,om,Ow.drew (Gf w _),Ow.drew (Ow.alloc (HMd w) _),kg⟩):P:=h
attribute [local go_sem] aA dB
def XM(o:Ops)(k:Nat):Prop:=∀(K:Int) (w:World) (v cv:Value) (n:Nat) (cs:Nat->Int),K=(k:Int)->Fm w->Rd w O v (2^k) (2^k) cs->(∀j,Wd (cs j))->CR o w cv n->k<n->n<=7->
 CT 264 #[Y Z K,v,.func (.func 265) #[] #[],.func (.func 266) #[] #[],.func (.func 267) #[cv] #[]] w λe w'=>∃v',e=X v'/\Ow w' w.heap.size 123 2 O v' (2^(k-1)) (flat (o.tr k cs))/\Gb w w'
def aBM(o:Ops):XM o 1:=by
 intro K w v cv n cs hK hw hr wW hc hk hn;have HV:Hid (CT 266 #[v] w λe w'=>∃v',e=X v'/\Ow w' w.heap.size 123 2 O v' 1 (flat (o.tr 1 cs))/\Gb w w'):=aBP hr;obtain rfl:K=1:=hK;clear hw hr wW hc hk hn;go_enter func264,ntmps264;go_wp2_with (go_at_call 266;refine HV.out.mono ?_;rintro e w1 ⟨v',rfl,EO,ak⟩);go_returns;exact⟨_,rfl,EO,ak⟩
def Yi(H:o.I)(HI:o.In)(k:Nat)(IH:XM o (k+1)):XM o (k+2):=by
 intro K w v cv n cs hK hw hr wW hc hk hn;unfold XM at IH;obtain⟨K1,hK1⟩:=x_n ((k+1:Nat):Int);have uK:IntKind.i64.wrap (K-1)=K1:=wi;obtain⟨h,hh⟩:=x_n (2^(k+1));obtain⟨L,hL⟩:=x_n (2^(k+2));have h2:L=h+h:=by rw[hL,hh,Nat.pow_succ];omega
 have aNk:h<=64:=by
  rw[hh];have:=Nat.pow_le_pow_right (show 0<2 by decide) (om:k+1<=6);omega
 have jm:0<h:=by rw[hh];exact Nat.pow_pos de
 rw[<-hL]at hr;obtain⟨bx,cx,rfl,hx1,ZW,Ud⟩:=hr.at om;have HX:Hid _:=Ud;have HC:Hid _:=hc;have HF:Hid _:=hw;have HH:Hid _:=hh;have hmk:∀w,(Instr.makeSlice 47 (Y Z (h:Int)) (Y Z (h:Int))).run Tryz.prog w=.ok (aC w.heap.size h h) (w.alloc (.cells (madeCells #[J 0] (h*1)) 71)):=λw=>qR 47 71 (J 0) 1 8 Tryz.underlying47 aBj de h om w;have aGO:(L:Int)/2=(h:Int):=om;have HMd:Hid (∀w:World,Ow (w.alloc (.cells (madeCells #[J 0] h) 71)) w.heap.size 71 1 O (aC w.heap.size h h) h (λ_=>0)):=λw=>by have:=Ow.made w 71 1 #[J 0] O (Go.Proofs.YthoelefkjpjhfaaGreatDoor.z1 _) h (by omega);rw[Nat.mul_one]at this;exact this
 have Gf:Hid (∀(w:World) (ob:Obj),Ow ((w.alloc ob).alloc (.cells (madeCells #[J 0] h) 71)) w.heap.size 71 1 O (aC (w.heap.size+1) h h) h (λ_=>0)):=λw ob=>by have:=HMd (w.alloc ob);rw[World.size_alloc]at this;exact this.mono om
 have k3:(K==1)=false:=jl;have HK1:Hid _:=hK1;have HK:Hid _:=hK;clear hK1 hK;have HL2:Hid _:=h2;have aP7:L<=128:=om;clear hr Ud hc hw hh hL h2;go_enter func264,ntmps264;go_wp2;go_cut [11,12] (λf s wx=>∃b1 b2:Nat,f=aC b1 h h/\s=aC b2 h h/\b1≠b2/\Ow wx w.heap.size 71 1 O (aC b1 h h) h (λ_=>0)/\Ow wx w.heap.size 71 1 O (aC b2 h h) h (λ_=>0)/\Gb w wx)
 case first=>
  exact aKy
 case rest=>
  obtain⟨b1,b2,rfl,rfl,jV,EO,Oy,Nw⟩:=hcut;have HO1:Hid _:=EO;have HO2:Hid _:=Oy;clear EO Oy;go_wp2;go_loopw [33] (λi wr=>∃j:Nat,j<=h/\i=Y Z j/\Ow wr w.heap.size 71 1 O (aC b1 h h) h (λq=>if q<j then cs (2*q)else 0)/\Ow wr w.heap.size 71 1 O (aC b2 h h) h (λq=>if q<j then cs (2*q+1)else 0)/\Gb w wr) (λi _=>h-(intOf i).toNat)
  case atStart=>exact⟨0,Nat.zero_le _,rfl,Ow.congr HO1.out (λq hq=>by rw[if_neg (by omega)]),Ow.congr HO2.out (λq hq=>by rw[if_neg (by omega)]),Nw⟩
  case round=>
   obtain⟨j,hj,rfl,EO,Oy,dH⟩:=hrel;have HP1:Hid _:=EO;have HP2:Hid _:=Oy;by_cases fF:j<h
   .have jc:(j:Int)<(h:Int):=om;obtain⟨b1',cap1,e1,gU,_,_,_,yI⟩:=EO.at jm;obtain⟨b2',cap2,e2,lC,_,_,_,w_⟩:=Oy.at jm;simp only[Value.slice.injEq,Option.some.injEq,Addr.mk.injEq,and_true,true_and]at e1 e2;obtain⟨rfl,rfl⟩:=e1;obtain⟨rfl,rfl⟩:=e2;obtain⟨c1,z1⟩:=yI j om;obtain⟨c2,z2⟩:=w_ j om;rw[if_neg (by omega)]at c1 c2;obtain⟨J0,D8⟩:=x_n (2*j);obtain⟨J1,TA⟩:=x_n (2*j+1);obtain⟨x,hx⟩:=dK (cs (2*j));obtain⟨y,hy⟩:=dK (cs (2*j+1));have x0:wr.cell? ⟨bx,J0,none⟩=some (J x):=by rw[D8,<-hx];exact dH.old (HX _ (by have:=HL2.out;omega))
    have x1:wr.cell? ⟨bx,J1,none⟩=some (J y):=by rw[TA,<-hy];exact dH.old (HX _ (by have:=HL2.out;omega))
    have Qx:=au (HX 0 (by have:=HL2.out;omega));have u0:IntKind.i64.wrap (2*(j:Int))=(J0:Int):=wi;have u1:IntKind.i64.wrap ((J0:Int)+1)=(J1:Int):=wi;have i0:(J0:Int)<(L:Int):=by have:=HL2.out;omega
    have i1:(J1:Int)<(L:Int):=by have:=HL2.out;omega
    have HJ0:Hid _:=D8;have HJ1:Hid _:=TA;have Hx:Hid _:=hx;have Hy:Hid _:=hy;clear D8 TA hx hy;clear EO Oy yI w_;go_wp2;go_region_held3 (λw'=>aA w' bx J0 (J x)/\aA w' bx J1 (J y))(exact nX)(first|(go_at_call 265;refine kw (aGr _ _ _) ?_)|(go_at_call 315;refine kw (aBi _ _ _) ?_))
    all_goals
     go_wp2;go_roundw
     case rel=>
      refine⟨j+1,om,by go_num,?_,?_,kg⟩
      .refine Ow.drew (Ow.other (Ow.congr (Ow.store HP1.out j x) (λq hq=>?_)) (λe=>jV e.symm) _);by_cases e1:q=j
       .rw[if_pos e1,if_pos om,e1,Hx.out]
       .exact aKu
      .refine Ow.drew (Ow.congr (Ow.store (Ow.other HP2.out (λe=>jV e) _) j y) (λq hq=>?_));by_cases e1:q=j
       .rw[if_pos e1,if_pos om,e1,Hy.out]
       .exact aKu
     case measure=>exact uz
   .obtain rfl:j=h:=om;have D6:¬(j:Int)<(j:Int):=om
    rename World=>W
    have hS:∀w',Gb W w'->Fm w':=λw' hg=>Fm.gb HF.out (dH.trans hg);have r1:Rd W O (aC b1 j j) (2^(k+1)) (2^(k+1)) (λm=>cs (2*m)):=by
     rw[<-HH.out];have:=Ow.rd HP1.out;rw[Nat.mul_one]at this;exact this.congr (λq hq=>by rw[if_pos hq])
    have r2:Rd W O (aC b2 j j) (2^(k+1)) (2^(k+1)) (λm=>cs (2*m+1)):=by
     rw[<-HH.out];have:=Ow.rd HP2.out;rw[Nat.mul_one]at this;exact this.congr (λq hq=>by rw[if_pos hq])
    obtain⟨m,hm⟩:=x_n (2^k);have AU:0<m:=by rw[hm];exact Nat.pow_pos de
    have hmj:j=2*m:=by rw[HH.out,hm,Nat.pow_succ];omega
    have HA:Hid (CT 264 #[Y Z K1,aC b1 j j,.func (.func 265) #[] #[],.func (.func 266) #[] #[],.func (.func 267) #[cv] #[]] W λe w'=>∃b cap,e=X (aC b m cap)/\b<w'.heap.size/\(∀q,q<m*2->aA w' b q (J (flat (o.tr (k+1) (λm=>cs (2*m))) q)))/\Gb W w'):=by
     show Calls _ _ _ _ _;refine(IH K1 W _ cv n _ HK1.out (hS _ (Gb.refl _)) r1 (λ_=>wW _) (CR.gb HC.out dH) om hn).mono λe aT ⟨v,e1,e2,e3⟩=>?_;exact aKx
    have HB:Hid (∀W2,Gb W W2->CT 264 #[Y Z K1,aC b2 j j,.func (.func 265) #[] #[],.func (.func 266) #[] #[],.func (.func 267) #[cv] #[]] W2 λe w'=>∃b cap,e=X (aC b m cap)/\b<w'.heap.size/\(∀q,q<m*2->aA w' b q (J (flat (o.tr (k+1) (λm=>cs (2*m+1))) q)))/\Gb W2 w'):=by
     intro W2 zk;refine(IH K1 W2 _ cv n _ HK1.out (hS _ zk) (r2.gb zk) (λ_=>wW _) ((CR.gb HC.out dH).gb zk) om hn).mono λe aT ⟨v,e1,e2,e3⟩=>?_;exact aKx
    obtain⟨M2,hM2⟩:=x_n (2*m);have u2:IntKind.i64.wrap (2*(m:Int))=(M2:Int):=wi;have aSc:∀w,(Instr.makeSlice 119 (Y Z (M2:Int)) (Y Z (M2:Int))).run Tryz.prog w=.ok (aC w.heap.size M2 M2) (w.alloc (.cells (madeCells #[J 0,J 0] (M2*2)) 123)):=λw=>qR 119 123 (aN 0 0) 2 16 Tryz.underlying119 aGB de M2 om w;have HM3:Hid (∀w:World,Ow (w.alloc (.cells (madeCells #[J 0,J 0] (M2*2)) 123)) w.heap.size 123 2 O (aC w.heap.size M2 M2) M2 (λ_=>0)):=λw=>Ow.made w 123 2 #[J 0,J 0] O (z2 _) M2 om;have HMj:Hid _:=hmj;have HM:Hid _:=hm;have Ua:Hid _:=hM2;have HGB:Hid _:=dH;have HCS:Hid _:=wW;have HSS:Hid _:=hS;have aUv:m<=64:=om;have aP6:M2<=128:=om;clear hmj hm hM2 EO Oy r1 r2 Gf HMd hmk aGO dH IH wW hS;go_wp2_with (first|(go_at_call 264;first|(with_reducible refine HA.out.mono ?_;rintro e w2 ⟨ba,ca,rfl,hba,Z_,aB⟩)|(go_loud (with_reducible refine(HB.out _ aB).mono ?_);rintro e w3 ⟨bb,cb,rfl,Tn,zW,aK⟩;have HCA:Hid _:=Z_;have HCB:Hid _:=zW;clear Z_ zW)))
    have aDB:Gb W w3:=aB.trans aK;have aRP:=aDB.size;have aDv:=(HGB.out:Gb w W).size;have hAB:Gb w2 w3:=aK;go_loopw [82] (λi wr=>∃j':Nat,j'<=m/\i=Y Z j'/\Ow wr w3.heap.size 123 2 O (aC w3.heap.size M2 M2) M2 (λq=>if q<4*j' then flat (o.tr (k+2) cs) q else 0)/\Gb w3 wr) (λi _=>m-(intOf i).toNat)
    case atStart=>exact⟨0,Nat.zero_le _,rfl,Ow.congr (HM3 w3) (λq hq=>by rw[if_neg (by omega)]),kg⟩
    case round=>
     obtain⟨i,hi,rfl,iU,wV⟩:=hrel;have HFo:Hid _:=iU;by_cases fF:i<m
     .have jc:(i:Int)<(m:Int):=om;obtain⟨b',cap',e,_,_,_,_,ND⟩:=iU.at (by have:=Ua.out;omega);simp only[Value.slice.injEq,Option.some.injEq,Addr.mk.injEq,and_true,true_and]at e;obtain⟨rfl,rfl⟩:=e;obtain⟨J0,D8⟩:=x_n (2*i);obtain⟨J1,TA⟩:=x_n (2*i+1);have aNw:=Ua.out;obtain⟨c0,z0⟩:=ND (J0*2) om;obtain⟨c1,z1⟩:=ND (J0*2+1) om;obtain⟨c2,z2⟩:=ND (J1*2) om;obtain⟨c3,z3⟩:=ND (J1*2+1) om;rw[if_neg (by omega)]at c0 c1 c2 c3;obtain⟨a1,jo⟩:=dK ((o.tr (k+1) (λm=>cs (2*m)) i).1);obtain⟨a2,qo⟩:=dK ((o.tr (k+1) (λm=>cs (2*m)) i).2);obtain⟨d1,rY⟩:=dK ((o.tr (k+1) (λm=>cs (2*m+1)) i).1);obtain⟨d2,Bj⟩:=dK ((o.tr (k+1) (λm=>cs (2*m+1)) i).2);have p0:wr.cell? ⟨ba,i*2,none⟩=some (J a1):=by rw[<-jo,<-eP,Nat.mul_comm];exact wV.old (hAB.old (HCA (2*i) om))
      have p1:wr.cell? ⟨ba,i*2+1,none⟩=some (J a2):=by rw[<-qo,<-eU,Nat.mul_comm];exact wV.old (hAB.old (HCA (2*i+1) om))
      have p2:wr.cell? ⟨bb,i*2,none⟩=some (J d1):=by rw[<-rY,<-eP,Nat.mul_comm];exact wV.old (HCB (2*i) om)
      have p3:wr.cell? ⟨bb,i*2+1,none⟩=some (J d2):=by rw[<-Bj,<-eU,Nat.mul_comm];exact wV.old (HCB (2*i+1) om)
      have wE:=HI.tr (k+1) (λm=>cs (2*m)) i (λ_=>HCS _);have wO:=HI.tr (k+1) (λm=>cs (2*m+1)) i (λ_=>HCS _);unfold rU at wE wO;rw[jo,qo]at wE;rw[rY,Bj]at wO;obtain⟨x,y,hxy⟩:∃x y,o.rt (k+2) (2*i)=(x,y):=⟨_,_,rfl⟩;have wX:=HI.rt (k+2) (2*i);rw[hxy]at wX;have aJq:Gb w wr:=Gb.trans (Gb.trans HGB.out aDB) wV;have HSp:Hid (∀w',Gb w w'->QW 267 #[cv,Y Z K,Y Z i] w' (.func (.func 316) #[aN x y] #[])):=λw' hg=>by
       rw[show K=((k+2:Nat):Int) from HK.out];exact YB (CR.gb HC.out hg) (k+2) i om hk hn (by rw[(om:k+2-1=k+1),Nat.pow_succ,<-HM.out];omega) x y hxy
      obtain⟨t,ht⟩:=dK (o.cMul (x,y) (d1,d2));have HSq:Hid (∀w',Gb w w'->QR 316 #[aN x y,aN a1 a2,aN d1 d2] w' (.tuple #[aN (o.add a1 t.1) (o.add a2 t.2),aN (o.sub a1 t.1) (o.sub a2 t.2)])):=λw' hg=>aDM H HI wX.1 wX.2 wE.1 wE.2 wO.1 wO.2 (Fm.gb HF.out hg) t ht;have s0:o.tr (k+2) cs (2*i)=(o.add a1 t.1,o.add a2 t.2):=by
       simp only[Ops.tr];rw[if_pos om,(om:2*i/2=i),hxy,show o.tr (k+1) (λm=>cs (2*m+1)) i=(d1,d2) by rw[<-rY,<-Bj],ht];unfold Ops.cAdd;rw[jo,qo]
      have s1:o.tr (k+2) cs (2*i+1)=(o.sub a1 t.1,o.sub a2 t.2):=by
       simp only[Ops.tr];rw[if_neg om,(om:(2*i+1)/2=i),hxy,show o.tr (k+1) (λm=>cs (2*m+1)) i=(d1,d2) by rw[<-rY,<-Bj],ht];unfold Ops.cSub;rw[jo,qo]
      obtain⟨v0,hv0⟩:=dK (o.add a1 t.1);obtain⟨v1,hv1⟩:=dK (o.add a2 t.2);obtain⟨v2,hv2⟩:=dK (o.sub a1 t.1);obtain⟨v3,hv3⟩:=dK (o.sub a2 t.2);rw[hv0,hv1]at s0;rw[hv2,hv3]at s1;rw[hv0,hv1,hv2,hv3]at HSq;have f0:Hid (flat (o.tr (k+2) cs) (J0*2)=v0):=by show _=_;rw[Nat.mul_comm,eP,D8,s0]
      have f1:Hid (flat (o.tr (k+2) cs) (J0*2+1)=v1):=by show _=_;rw[Nat.mul_comm,eU,D8,s0]
      have f2:Hid (flat (o.tr (k+2) cs) (J1*2)=v2):=by show _=_;rw[Nat.mul_comm,eP,TA,s1]
      have f3:Hid (flat (o.tr (k+2) cs) (J1*2+1)=v3):=by show _=_;rw[Nat.mul_comm,eU,TA,s1]
      have u0:IntKind.i64.wrap (2*(i:Int))=(J0:Int):=wi;have u1:IntKind.i64.wrap ((J0:Int)+1)=(J1:Int):=wi;have i0:(J0:Int)<(M2:Int):=om;have i1:(J1:Int)<(M2:Int):=om;have HJ0:Hid _:=D8;have HJ1:Hid _:=TA;have n0:¬J0=J1:=om;have n1:¬J0*2=J1*2:=om;have n2:¬J0*2+1=J1*2:=om;have n3:¬J0*2=J1*2+1:=om;have n4:¬J0*2+1=J1*2+1:=om;have hsb:ba<w3.heap.size:=by have:=hAB.size;omega
      have aPs:=wV.size;clear iU ND D8 TA aNw jo qo rY Bj wE wO hxy wX ht s0 s1 hv0 hv1 hv2 hv3;go_wp2;go_region_held3 (λw'=>aA w' ba (i*2) (J a1)/\aA w' ba (i*2+1) (J a2)/\aA w' bb (i*2) (J d1)/\aA w' bb (i*2+1) (J d2))(exact nX)(first|(go_at_call 267;refine kw (HSp _ kg) ?_)|(go_at_call 316;refine ku (HSq _ kg) λw5 bJ=>?_;have cc0:aA w5 w3.heap.size (J0*2) (J 0):=bJ.c;have cz0:dB w5 w3.heap.size (J0*2):=bJ.z;have cc1:aA w5 w3.heap.size (J0*2+1) (J 0):=bJ.c;have cz1:dB w5 w3.heap.size (J0*2+1):=bJ.z;have cc2:aA w5 w3.heap.size (J1*2) (J 0):=bJ.c;have cz2:dB w5 w3.heap.size (J1*2):=bJ.z;have cc3:aA w5 w3.heap.size (J1*2+1) (J 0):=bJ.c;have cz3:dB w5 w3.heap.size (J1*2+1):=bJ.z))
      all_goals
       go_wp2;go_roundw
       case rel=>
        refine⟨i+1,om,by go_num,?_,kg⟩;refine Ow.congr (Ow.store (Ow.store (Ow.store (Ow.store (Ow.gb (Ow.drew HFo.out) bJ.gb) (J0*2) v0) (J0*2+1) v1) (J1*2) v2) (J1*2+1) v3) (λq hq=>?_);have j0:=HJ0.out;have j1:=HJ1.out;by_cases e3:q=J1*2+1
        .rw[if_pos e3,if_pos om,e3];exact f3.out.symm
        .by_cases e2:q=J1*2
         .rw[if_neg e3,if_pos e2,if_pos om,e2];exact f2.out.symm
         .by_cases e1:q=J0*2+1
          .rw[if_neg e3,if_neg e2,if_pos e1,if_pos om,e1];exact f1.out.symm
          .by_cases e0:q=J0*2
           .rw[if_neg e3,if_neg e2,if_neg e1,if_pos e0,if_pos om,e0];exact f0.out.symm
           .by_cases e4:q<4*i
            .rw[if_neg e3,if_neg e2,if_neg e1,if_neg e0,if_pos e4,if_pos (by omega)]
            .rw[if_neg e3,if_neg e2,if_neg e1,if_neg e0,if_neg e4,if_neg (by omega)]
       case measure=>exact uz
     .obtain rfl:i=m:=om;have aSe:¬(i:Int)<(i:Int):=om;have eM:2^(k+1)=M2:=by rw[Nat.pow_succ,<-HM.out,Ua.out];omega
      have aJq:Gb w wr:=Gb.trans (Gb.trans HGB.out aDB) wV;clear iU;go_wp2;go_returns;refine⟨_,rfl,?_,aJq⟩;exact Ow.mono (Ow.congr HFo.out (λq hq=>by rw[if_pos (by have:=Ua.out;omega)])) om
def aAE(H:o.I)(HI:o.In):∀k:Nat,1<=k->XM o k
 |0,h=>absurd h om
 |1,_=>aBM o
 |k+2,_=>Yi H HI k (aAE H HI (k+1) om)
def aKv{P:Prop}(h:P:=by
 by_cases e2:q<2*j
 .rw[if_neg e1,if_neg e0,if_pos e2,if_pos (by omega)]
 .rw[if_neg e1,if_neg e0,if_neg e2,if_neg (by omega)]):P:=h
def aKw{P:Prop}(h:P:=by
 rw[<-HLe.out]at e2;obtain⟨b,cap,rfl,c1,c2,_,_,c3⟩:=e2.at hL1;exact⟨b,cap,e1,c2,λj hj=>(c3 j om).1,e3⟩):P:=h
def aCU{zs:Nat->Int × Int}(hr:Rd w O v 1 2 (flat zs)):
  CT 271 #[v] w λe w'=>∃v',e=X v'/\Ow w' w.heap.size 71 1 O v' 2 (o.bk 1 zs)/\Gb w w':=by
 obtain⟨b,cap,rfl,h1,h2,hc⟩:=hr.at om;have c0:aA w b 0 (J (zs 0).1):=hc 0 om;have c1:aA w b 1 (J (zs 0).2):=hc 1 om;have e0:o.bk 1 zs 0=(zs 0).1 :=rfl;have e1:o.bk 1 zs 1=(zs 0).2 :=rfl;generalize o.bk 1 zs=f at*
 generalize(zs 0).1 =x at*
 generalize(zs 0).2 =y at*
 clear hr hc;go_enter func271,ntmps271;go_wp2;go_region;all_goals go_wp2<;>go_returns
 all_goals
  refine⟨_,rfl,?_,kg⟩;have:=World.ownsRow_lit (base:=w.heap.size) (e:=71) (size:=1) w.drew #[J x,J y] 2 (Nat.le_refl _) de rfl;refine Ow.congr (g:=λj=>if j=0 then x else y) this (λj hj=>?_)
  match j,hj with
  |0,_=>exact e0.symm
  |1,_=>exact e1.symm
def aAd(hc:CR o w cv n)(k j:Nat)(jB:1<=k)(hk:k<n)(hn:n<=7)(hj:2*j<2^(k-1))(x y:Int)(hx:o.rt k (2*j)=(x,y)):
  QW 270 #[cv,Y Z k,Y Z j] w (.func (.func 317) #[aN x y] #[]):=by
 obtain⟨g,cap,rfl,h2⟩:=hc;obtain⟨b,cp,h3,h4⟩:=h2 k jB hk;obtain⟨m,hm⟩:=dK (2^(k-1));rw[hm]at h3 h4 hj;have hmm:m<=64:=by
  rw[<-hm];have:=Nat.pow_le_pow_right (show 0<2 by decide) (om:k-1<=6);omega
 have c0:w.cell? ⟨b,2*j*2,none⟩=some (J x):=by rw[h4 _ om,Nat.mul_comm,eP,hx]
 have c1:w.cell? ⟨b,2*j*2+1,none⟩=some (J y):=by rw[h4 _ om,(om:2*j*2+1=2*(2*j)+1),eU,hx]
 have C_:(k:Int)<(n:Int):=om;have hj':2*(j:Int)<(m:Int):=om;clear h2 h4 hm hx;go_enter func270,ntmps270;go_wp2;go_returns;exact⟨rfl,rfl⟩
def XO(o:Ops)(k:Nat):Prop:=∀(K:Int) (w:World) (v cv:Value) (n:Nat) (zs:Nat->Int × Int),K=(k:Int)->Fm w->Rd w O v (2^(k-1)) (2^(k-1)*2) (flat zs)->(∀j,rU (zs j))->CR o w cv n->k<n->n<=7->
 CT 269 #[Y Z K,v,.func (.func 270) #[cv] #[],.func (.func 271) #[] #[],.func (.func 265) #[] #[]] w λe w'=>∃v',e=X v'/\Ow w' w.heap.size 71 1 O v' (2^k) (o.bk k zs)/\Gb w w'
def aBN(o:Ops):XO o 1:=by
 intro K w v cv n zs hK hw hr wW hc hk hn;have HV:Hid (CT 271 #[v] w λe w'=>∃v',e=X v'/\Ow w' w.heap.size 71 1 O v' 2 (o.bk 1 zs)/\Gb w w'):=aCU hr;obtain rfl:K=1:=hK;clear hw hr wW hc hk hn;go_enter func269,ntmps269;go_wp2_with (go_at_call 271;refine HV.out.mono ?_;rintro e w1 ⟨v',rfl,EO,ak⟩);go_returns;exact⟨_,rfl,EO,ak⟩
def Yj(H:o.I)(HI:o.In)(k:Nat)(IH:XO o (k+1)):XO o (k+2):=by
 intro K w v cv n zs hK hw hr wW hc hk hn;unfold XO at IH;obtain⟨K1,hK1⟩:=x_n ((k+1:Nat):Int);have uK:IntKind.i64.wrap (K-1)=K1:=wi;obtain⟨h,hh⟩:=x_n (2^k);obtain⟨L,hL⟩:=x_n (2^(k+1));have h2:L=h+h:=by rw[hL,hh,Nat.pow_succ];omega
 have aNk:h<=32:=by
  rw[hh];have:=Nat.pow_le_pow_right (show 0<2 by decide) (om:k<=5);omega
 have jm:0<h:=by rw[hh];exact Nat.pow_pos de
 rw[(om:k+2-1=k+1),<-hL]at hr;obtain⟨bx,cx,rfl,hx1,ZW,Ud⟩:=hr.at om;have HX:Hid _:=Ud;have HC:Hid _:=hc;have HF:Hid _:=hw;have HH:Hid _:=hh;have HLe:Hid _:=hL;have hmk:∀w,(Instr.makeSlice 119 (Y Z (h:Int)) (Y Z (h:Int))).run Tryz.prog w=.ok (aC w.heap.size h h) (w.alloc (.cells (madeCells #[J 0,J 0] (h*2)) 123)):=λw=>qR 119 123 (aN 0 0) 2 16 Tryz.underlying119 aGB de h om w;have aGO:(L:Int)/2=(h:Int):=om;have HMd:Hid (∀w:World,Ow (w.alloc (.cells (madeCells #[J 0,J 0] (h*2)) 123)) w.heap.size 123 2 O (aC w.heap.size h h) h (λ_=>0)):=λw=>Ow.made w 123 2 #[J 0,J 0] O (Go.Proofs.YthoelefkjpjhfaaGreatDoor.z2 _) h om;have Gf:Hid (∀(w:World) (ob:Obj),Ow ((w.alloc ob).alloc (.cells (madeCells #[J 0,J 0] (h*2)) 123)) w.heap.size 123 2 O (aC (w.heap.size+1) h h) h (λ_=>0)):=λw ob=>by have:=HMd (w.alloc ob);rw[World.size_alloc]at this;exact this.mono om
 have k3:(K==1)=false:=jl;have HK1:Hid _:=hK1;have HK:Hid _:=hK;have HL2:Hid _:=h2;have aP7:L<=64:=om;have HCS:Hid _:=wW;clear hK1 hK hr Ud hc hw hh hL h2;go_enter func269,ntmps269;go_wp2;go_cut [11,12] (λf s wx=>∃b1 b2:Nat,f=aC b1 h h/\s=aC b2 h h/\b1≠b2/\Ow wx w.heap.size 123 2 O (aC b1 h h) h (λ_=>0)/\Ow wx w.heap.size 123 2 O (aC b2 h h) h (λ_=>0)/\Gb w wx)
 case first=>
  exact aKy
 case rest=>
  obtain⟨b1,b2,rfl,rfl,jV,EO,Oy,Nw⟩:=hcut;have HO1:Hid _:=EO;have HO2:Hid _:=Oy;clear EO Oy;go_wp2;go_loopw [33] (λi wr=>∃j:Nat,j<=h/\i=Y Z j/\Ow wr w.heap.size 123 2 O (aC b1 h h) h (λq=>if q<2*j then flat (o.J_ zs) q else 0)/\Ow wr w.heap.size 123 2 O (aC b2 h h) h (λq=>if q<2*j then flat (o.OA (k+2) zs) q else 0)/\Gb w wr) (λi _=>h-(intOf i).toNat)
  case atStart=>exact⟨0,Nat.zero_le _,rfl,Ow.congr HO1.out (λq hq=>by rw[if_neg (by omega)]),Ow.congr HO2.out (λq hq=>by rw[if_neg (by omega)]),Nw⟩
  case round=>
   obtain⟨j,hj,rfl,EO,Oy,dH⟩:=hrel;have HP1:Hid _:=EO;have HP2:Hid _:=Oy;by_cases fF:j<h
   .have jc:(j:Int)<(h:Int):=om;obtain⟨b1',cap1,e1,gU,hB1,_,_,yI⟩:=EO.at jm;obtain⟨b2',cap2,e2,lC,hB2,_,_,w_⟩:=Oy.at jm;simp only[Value.slice.injEq,Option.some.injEq,Addr.mk.injEq,and_true,true_and]at e1 e2;obtain⟨rfl,rfl⟩:=e1;obtain⟨rfl,rfl⟩:=e2;obtain⟨c1,z1⟩:=yI (j*2) om;obtain⟨c1',z1'⟩:=yI (j*2+1) om;obtain⟨c2,z2⟩:=w_ (j*2) om;obtain⟨c2',z2'⟩:=w_ (j*2+1) om;rw[if_neg (by omega)]at c1 c2 c1' c2';obtain⟨J0,D8⟩:=x_n (2*j);obtain⟨J1,TA⟩:=x_n (2*j+1);obtain⟨x1,x2,hx⟩:∃x1 x2,zs (2*j)=(x1,x2):=⟨_,_,rfl⟩;obtain⟨y1,y2,hy⟩:∃y1 y2,zs (2*j+1)=(y1,y2):=⟨_,_,rfl⟩;have hLL:=HL2.out;have p0:aA wr bx (J0*2) (J x1):=by have:=dH.old (HX (2*(2*j)) om);rw[eP,hx]at this;rw[D8,Nat.mul_comm];exact this
    have p1:aA wr bx (J0*2+1) (J x2):=by have:=dH.old (HX (2*(2*j)+1) om);rw[eU,hx]at this;rw[D8,Nat.mul_comm];exact this
    have p2:aA wr bx (J1*2) (J y1):=by have:=dH.old (HX (2*(2*j+1)) om);rw[eP,hy]at this;rw[TA,Nat.mul_comm];exact this
    have p3:aA wr bx (J1*2+1) (J y2):=by have:=dH.old (HX (2*(2*j+1)+1) om);rw[eU,hy]at this;rw[TA,Nat.mul_comm];exact this
    have Qx:=au (HX 0 om);have wZ:=HCS (2*j);have wY:=HCS (2*j+1);rw[hx]at wZ;rw[hy]at wY;obtain⟨r,s,FK⟩:∃r s,o.rt (k+2) (2*j)=(r,s):=⟨_,_,rfl⟩;have wR:=HI.rt (k+2) (2*j);rw[FK]at wR;have HSp:Hid (∀w',Gb w w'->QW 270 #[cv,Y Z K,Y Z j] w' (.func (.func 317) #[aN r s] #[])):=λw' hg=>by
     rw[show K=((k+2:Nat):Int) from HK.out];exact aAd (CR.gb HC.out hg) (k+2) j om hk hn (by rw[(om:k+2-1=k+1),<-HLe.out];omega) r s FK
    obtain⟨t,ht⟩:=dK (o.J_ zs j);obtain⟨u,hu⟩:=dK (o.OA (k+2) zs j);have HSq:Hid (∀w',Gb w w'->QR 317 #[aN r s,aN x1 x2,aN y1 y2] w' (.tuple #[aN t.1 t.2,aN u.1 u.2])):=λw' hg=>aDQ H HI wR.1 wR.2 wZ.1 wZ.2 wY.1 wY.2 (Fm.gb HF.out hg) t u (by rw[<-ht,<-hx,<-hy];rfl) (by rw[<-hu,<-hx,<-hy,<-FK];rfl);obtain⟨t1,t2⟩:=t;obtain⟨u1,u2⟩:=u;dsimp only at HSq;have f0:Hid (flat (o.J_ zs) (j*2)=t1):=by show _=_;rw[Nat.mul_comm,eP,ht]
    have f1:Hid (flat (o.J_ zs) (j*2+1)=t2):=by show _=_;rw[Nat.mul_comm,eU,ht]
    have f2:Hid (flat (o.OA (k+2) zs) (j*2)=u1):=by show _=_;rw[Nat.mul_comm,eP,hu]
    have f3:Hid (flat (o.OA (k+2) zs) (j*2+1)=u2):=by show _=_;rw[Nat.mul_comm,eU,hu]
    have v0:IntKind.i64.wrap (2*(j:Int))=(J0:Int):=wi;have v1:IntKind.i64.wrap ((J0:Int)+1)=(J1:Int):=wi;have i0:(J0:Int)<(L:Int):=om;have i1:(J1:Int)<(L:Int):=om;clear EO Oy yI w_ D8 TA hx hy hLL wZ wY wR FK ht hu;go_wp2;go_region_held3 (λw'=>aA w' bx (J0*2) (J x1)/\aA w' bx (J0*2+1) (J x2)/\aA w' bx (J1*2) (J y1)/\aA w' bx (J1*2+1) (J y2))(exact nX)(first|(go_at_call 270;refine kw (HSp _ kg) ?_)|(go_at_call 317;refine ku (HSq _ kg) λw5 bJ=>?_;have hz5:=bJ.size;(try simp only[World.size_drew]at hz5);have cc0:aA w5 b1 (j*2) (J 0):=bJ.c;have cz0:dB w5 b1 (j*2):=bJ.z;have cc1:aA w5 b1 (j*2+1) (J 0):=bJ.c;have cz1:dB w5 b1 (j*2+1):=bJ.z;have cc2:aA w5 b2 (j*2) (J 0):=bJ.c;have cz2:dB w5 b2 (j*2):=bJ.z;have cc3:aA w5 b2 (j*2+1) (J 0):=bJ.c;have cz3:dB w5 b2 (j*2+1):=bJ.z))
    all_goals
     go_wp2;go_roundw
     case rel=>
      refine⟨j+1,om,by go_num,?_,?_,kg⟩
      .refine Ow.other (Ow.other (Ow.congr (Ow.store (Ow.store (Ow.gb (Ow.drew HP1.out) bJ.gb) (j*2) t1) (j*2+1) t2) (λq hq=>?_)) (λe=>jV e.symm) _) (λe=>jV e.symm) _;by_cases e1:q=j*2+1
       .rw[if_pos e1,if_pos om,e1];exact f1.out.symm
       .by_cases e0:q=j*2
        .rw[if_neg e1,if_pos e0,if_pos om,e0];exact f0.out.symm
        .exact aKv
      .refine Ow.congr (Ow.store (Ow.store (Ow.other (Ow.other (Ow.gb (Ow.drew HP2.out) bJ.gb) (λe=>jV e) _) (λe=>jV e) _) (j*2) u1) (j*2+1) u2) (λq hq=>?_);by_cases e1:q=j*2+1
       .rw[if_pos e1,if_pos om,e1];exact f3.out.symm
       .by_cases e0:q=j*2
        .rw[if_neg e1,if_pos e0,if_pos om,e0];exact f2.out.symm
        .exact aKv
     case measure=>exact uz
   .obtain rfl:j=h:=om;have D6:¬(j:Int)<(j:Int):=om
    rename World=>W
    have hS:∀w',Gb W w'->Fm w':=λw' hg=>Fm.gb HF.out (dH.trans hg);have r1:Rd W O (aC b1 j j) (2^(k+1-1)) (2^(k+1-1)*2) (flat (o.J_ zs)):=by
     rw[(om:k+1-1=k),<-HH.out];exact(Ow.rd HP1.out).congr (λq hq=>by rw[if_pos (by omega)])
    have r2:Rd W O (aC b2 j j) (2^(k+1-1)) (2^(k+1-1)*2) (flat (o.OA (k+2) zs)):=by
     rw[(om:k+1-1=k),<-HH.out];exact(Ow.rd HP2.out).congr (λq hq=>by rw[if_pos (by omega)])
    have hL1:0<L:=by have:=HL2.out;omega
    have HA:Hid (CT 269 #[Y Z K1,aC b1 j j,.func (.func 270) #[cv] #[],.func (.func 271) #[] #[],.func (.func 265) #[] #[]] W λe w'=>∃b cap,e=X (aC b L cap)/\b<w'.heap.size/\(∀q,q<L->aA w' b q (J (o.bk (k+1) (o.J_ zs) q)))/\Gb W w'):=by
     show Calls _ _ _ _ _;refine(IH K1 W _ cv n _ HK1.out (hS _ (Gb.refl _)) r1 (HI.J_ wW) (CR.gb HC.out dH) om hn).mono λe aT ⟨v,e1,e2,e3⟩=>?_;exact aKw
    have HB:Hid (∀W2,Gb W W2->CT 269 #[Y Z K1,aC b2 j j,.func (.func 270) #[cv] #[],.func (.func 271) #[] #[],.func (.func 265) #[] #[]] W2 λe w'=>∃b cap,e=X (aC b L cap)/\b<w'.heap.size/\(∀q,q<L->aA w' b q (J (o.bk (k+1) (o.OA (k+2) zs) q)))/\Gb W2 w'):=by
     intro W2 zk;refine(IH K1 W2 _ cv n _ HK1.out (hS _ zk) (r2.gb zk) (HI.OA _ wW) ((CR.gb HC.out dH).gb zk) om hn).mono λe aT ⟨v,e1,e2,e3⟩=>?_;exact aKw
    obtain⟨M2,hM2⟩:=x_n (2*L);have u2:IntKind.i64.wrap (2*(L:Int))=(M2:Int):=wi;have aSc:∀w,(Instr.makeSlice 47 (Y Z (M2:Int)) (Y Z (M2:Int))).run Tryz.prog w=.ok (aC w.heap.size M2 M2) (w.alloc (.cells (madeCells #[J 0] (M2*1)) 71)):=λw=>qR 47 71 (J 0) 1 8 Tryz.underlying47 aBj de M2 om w;have HM3:Hid (∀w:World,Ow (w.alloc (.cells (madeCells #[J 0] M2) 71)) w.heap.size 71 1 O (aC w.heap.size M2 M2) M2 (λ_=>0)):=λw=>by have:=Ow.made w 71 1 #[J 0] O (Go.Proofs.YthoelefkjpjhfaaGreatDoor.z1 _) M2 (by omega);rw[Nat.mul_one]at this;exact this
    have Ua:Hid _:=hM2;have HGB:Hid _:=dH;have aP6:M2<=128:=om;clear hM2 EO Oy r1 r2 Gf HMd hmk aGO dH IH wW hS;go_wp2_with (first|(go_at_call 269;first|(with_reducible refine HA.out.mono ?_;rintro e w2 ⟨ba,ca,rfl,hba,Z_,aB⟩)|(go_loud (with_reducible refine(HB.out _ aB).mono ?_);rintro e w3 ⟨bb,cb,rfl,Tn,zW,aK⟩;have HCA:Hid _:=Z_;have HCB:Hid _:=zW;clear Z_ zW)))
    have aDB:Gb W w3:=aB.trans aK;have aRP:=aDB.size;have aDv:=(HGB.out:Gb w W).size;have hAB:Gb w2 w3:=aK;go_loopw [82] (λi wr=>∃j':Nat,j'<=L/\i=Y Z j'/\Ow wr w3.heap.size 71 1 O (aC w3.heap.size M2 M2) M2 (λq=>if q<2*j' then o.bk (k+2) zs q else 0)/\Gb w3 wr) (λi _=>L-(intOf i).toNat)
    case atStart=>exact⟨0,Nat.zero_le _,rfl,Ow.congr (HM3 w3) (λq hq=>by rw[if_neg (by omega)]),kg⟩
    case round=>
     obtain⟨i,hi,rfl,iU,wV⟩:=hrel;have HFo:Hid _:=iU;by_cases fF:i<L
     .have jc:(i:Int)<(L:Int):=om;obtain⟨b',cap',e,_,_,_,_,ND⟩:=iU.at (by have:=Ua.out;omega);simp only[Value.slice.injEq,Option.some.injEq,Addr.mk.injEq,and_true,true_and]at e;obtain⟨rfl,rfl⟩:=e;obtain⟨J0,D8⟩:=x_n (2*i);obtain⟨J1,TA⟩:=x_n (2*i+1);have aNw:=Ua.out;obtain⟨c0,z0⟩:=ND J0 om;obtain⟨c1,z1⟩:=ND J1 om;rw[if_neg (by omega)]at c0 c1;obtain⟨x,hx⟩:=dK (o.bk (k+1) (o.J_ zs) i);obtain⟨y,hy⟩:=dK (o.bk (k+1) (o.OA (k+2) zs) i);have p0:wr.cell? ⟨ba,i,none⟩=some (J x):=by rw[<-hx];exact wV.old (hAB.old (HCA i om))
      have p1:wr.cell? ⟨bb,i,none⟩=some (J y):=by rw[<-hy];exact wV.old (HCB i om)
      have f0:Hid (o.bk (k+2) zs J0=x):=by show _=_;simp only[Ops.bk];rw[if_pos om,(om:J0/2=i),hx]
      have f1:Hid (o.bk (k+2) zs J1=y):=by show _=_;simp only[Ops.bk];rw[if_neg om,(om:J1/2=i),hy]
      have u0:IntKind.i64.wrap (2*(i:Int))=(J0:Int):=wi;have u1:IntKind.i64.wrap ((J0:Int)+1)=(J1:Int):=wi;have i0:(J0:Int)<(M2:Int):=om;have i1:(J1:Int)<(M2:Int):=om;have n0:¬J0=J1:=om;have HJ0:Hid _:=D8;have HJ1:Hid _:=TA;have hsb:ba<w3.heap.size:=by have:=hAB.size;omega
      have aPs:=wV.size;clear iU ND D8 TA aNw hx hy;go_wp2;go_region_held3 (λw'=>aA w' ba i (J x)/\aA w' bb i (J y))(exact nX)(first|(go_at_call 265;refine kw (aGr _ _ _) ?_)|(go_at_call 315;refine kw (aBi _ _ _) ?_))
      all_goals
       go_wp2;go_roundw
       case rel=>
        refine⟨i+1,om,by go_num,?_,kg⟩;refine Ow.drew (Ow.congr (Ow.store (Ow.store HFo.out J0 x) J1 y) (λq hq=>?_));have j0:=HJ0.out;have j1:=HJ1.out;by_cases e1:q=J1
        .rw[if_pos e1,if_pos om,e1];exact f1.out.symm
        .by_cases e0:q=J0
         .rw[if_neg e1,if_pos e0,if_pos om,e0];exact f0.out.symm
         .by_cases e4:q<2*i
          .rw[if_neg e1,if_neg e0,if_pos e4,if_pos (by omega)]
          .rw[if_neg e1,if_neg e0,if_neg e4,if_neg (by omega)]
       case measure=>exact uz
     .obtain rfl:i=L:=om;have aSe:¬(i:Int)<(i:Int):=om;have aJq:Gb w wr:=Gb.trans (Gb.trans HGB.out aDB) wV;have eM:2^(k+2)=M2:=by rw[Nat.pow_succ,<-HLe.out,Ua.out];omega
      have Pz:=Ow.mono (Ow.congr iU (g':=o.bk (k+2) zs) (λq hq=>by rw[if_pos (by have:=Ua.out;omega)])) (om:w.heap.size<=w3.heap.size);have HFin:Hid _:=Pz;clear iU Pz;go_wp2;go_returns;exact⟨_,rfl,HFin.out,aJq⟩
def aAF(H:o.I)(HI:o.In):∀k:Nat,1<=k->XO o k
 |0,h=>absurd h om
 |1,_=>aBN o
 |k+2,_=>Yj H HI k (aAF H HI (k+1) om)
