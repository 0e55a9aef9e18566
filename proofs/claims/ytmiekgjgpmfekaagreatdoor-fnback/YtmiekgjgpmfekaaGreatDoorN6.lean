import Derived.Test.YtmiekgjgpmfekaaGreatDoorN1
set_option linter.all false
set_option maxRecDepth 1000000
set_option maxHeartbeats 40000000
open Go.Proofs.YtmiekgjgpmfekaaGreatDoor renaming vI → J
open Go.IntKind renaming u64 → Y
open Go.Ending renaming returned → Z
open Go.Proofs.Tryz
namespace Go.Proofs.YtmiekgjgpmfekaaGreatDoor
open Go.RowKit
variable{o:Ops}{w:World}{v cv:Value}{cs:Nat->Int}{n:Nat}
theorem aKH{P:Prop}(h:P:=by
 rcases(show(k<1\/1<=k/\6<k\/1<=k/\k<=6) by omega)with c|⟨c,c'⟩|⟨c,c'⟩
 ·obtain rfl:b=false:=by rw[hb];simp;omega
  have c1:¬1<=k:=om;clear hb;go_enter func47,ntmps47;go_wp2;go_returns;exact⟨rfl,rfl⟩
 ·obtain rfl:b=false:=by rw[hb];simp;omega
  have c1:¬k<=6:=om;clear hb;go_enter func47,ntmps47;go_wp2;go_returns;exact⟨rfl,rfl⟩
 ·obtain rfl:b=true:=by rw[hb];simp;omega
  clear hb;go_enter func47,ntmps47;go_wp2;go_returns;exact⟨rfl,rfl⟩):P:=h
attribute [local go_sem] aj bK
def tN(k:Int)(n:Nat):Nat:=if 1<=k/\k<=6/\n=2^k.toNat then 2^(k.toNat-1)else 0
theorem aJC(k:Int)(n:Nat):tN k n<=64:=by
 unfold tN;split
 ·have:=Nat.pow_le_pow_right (show 0<2 by decide) (show k.toNat-1<=6 by omega);omega
 ·omega
abbrev J7(F:Nat)(args:Array Value)(w:World)(n:Nat)(f:Nat->Int × Int):Prop:=Calls Tryz.prog F args w fun e w'=>∃v,e=Z v/\Ow w' w.heap.size 59 2 Y v n (flat f)/\Gb w w'
theorem log_any(k:Int)(b:Bool)(hb:b=decide (1<=k/\k<=6))(w:World):
  QW 47 #[J k] w (.bool b):=by
 exact aKH
theorem BA(H:o.I)(HI:o.In)(k:Nat)(hk1:1<=k)(hk6:k<=6)(hw:Fm w)(hr:Rd w Y v (2^k) (2^k) cs)(hcs:∀j,Wd (cs j))(hc:CR o w cv (k+1)):
  J7 55 #[cv,v] w (2^(k-1)) (o.tr k cs):=by
 have HW:Hid (CT 112 #[J (k:Int),v,.func (.func 113) #[] #[],.func (.func 114) #[] #[],.func (.func 115) #[cv] #[]] w fun e w'=>∃v',e=Z v'/\Ow w' w.heap.size 59 2 Y v' (2^(k-1)) (flat (o.tr k cs))/\Gb w w'):=RX H HI k hk1 k w v cv (k+1) cs rfl hw hr hcs hc om om;obtain⟨g,cap,rfl,_⟩:=hc;obtain⟨n,hn⟩:∃n,n=k+1:=⟨_,rfl⟩;rw[<-hn]at HW⊢
 have u:IntKind.i64.wrap ((n:Int)-1)=(k:Int):=wi;clear hw hr hcs H HI hn;go_enter func55,ntmps55;go_wp2_with (go_at_call 112;refine HW.out.mono ?_;rintro e w1 ⟨v',rfl,ho1,ak⟩);go_returns;exact⟨_,rfl,ho1,ak⟩
theorem vJ(H:o.S)(HI:o.In)(k:Int)(hn:n<=2000000)(hr:Rd w Y v n n cs)(hcs:∀j,Wd (cs j)):
  J7 16 #[J k,v] w (tN k n) (o.tr k.toNat cs):=by
 by_cases h:1<=k/\k<=6
 ·by_cases hk:n=2^k.toNat
  ·have ht:tN k n=2^(k.toNat-1):=by unfold tN;rw[if_pos ⟨h.1,h.2,hk⟩]
   rw[ht];rw[hk]at hr;exact Ld H HI k.toNat om om k w v cs om hr hcs
  ·have ht:tN k n=0:=by unfold tN;rw[if_neg (fun h'=>hk h'.2.2)]
   rw[ht];obtain⟨a,cap,rfl,_⟩:=hr;obtain⟨L,hL⟩:∃L,L=2^k.toNat:=⟨_,rfl⟩;have HS:KW 50 #[J k] (J (L:Int)):=fun w=>qc k k.toNat om om L (by rw[hL]) w;have hq:((n:Int)==(L:Int))=false:=by simp;omega
   have k1:¬k<1:=om;have k2:¬(6:Int)<k:=om;clear hk ht H HI hcs h hL;go_enter func16,ntmps16;go_wp2_with (go_at_call 50;refine kw (HS _) ?_);go_returns;exact⟨_,rfl,Ow.lit _ _ _ _ _,kg⟩
 ·have ht:tN k n=0:=by unfold tN;rw[if_neg (fun h'=>h ⟨h'.1,h'.2.1⟩)]
  rw[ht];obtain⟨a,cap,rfl,_⟩:=hr;clear ht H HI hcs;rcases(show k<1\/1<=k/\6<k by omega)with c|⟨c,c'⟩
  ·clear h;go_enter func16,ntmps16;go_wp2;go_returns;exact⟨_,rfl,Ow.lit _ _ _ _ _,kg⟩
  ·have c1:¬k<1:=om;clear h;go_enter func16,ntmps16;go_wp2;go_returns;exact⟨_,rfl,Ow.lit _ _ _ _ _,kg⟩
def bN(k:Int)(n:Nat):Nat:=if 1<=k/\k<=6/\n=2^(k.toNat-1)then 2^k.toNat else 0
theorem aJK(k:Int)(n:Nat):bN k n<=64:=by
 unfold bN;split
 ·have:=Nat.pow_le_pow_right (show 0<2 by decide) (show k.toNat<=6 by omega);omega
 ·omega
abbrev J6(F:Nat)(args:Array Value)(w:World)(n:Nat)(f:Nat->Int):Prop:=Calls Tryz.prog F args w fun e w'=>∃v,e=Z v/\Ow w' w.heap.size 33 1 Y v n f/\Gb w w'
theorem aGv(k:Int)(b:Bool)(hb:b=decide (1<=k/\k<=6))(w:World):
  QW 47 #[J k] w (.bool b):=by
 exact aKH
theorem aAl(H:o.I)(HI:o.In)(k:Nat)(hk1:1<=k)(hk6:k<=6){zs:Nat->Int × Int}(hw:Fm w)(hr:Rd w Y v (2^(k-1)) (2^(k-1)*2) (flat zs))(hcs:∀j,mY (zs j))(hc:CR o w cv (k+1)):
  J6 73 #[cv,v] w (2^k) (o.bk k zs):=by
 have HW:Hid (CT 142 #[J (k:Int),v,.func (.func 143) #[cv] #[],.func (.func 144) #[] #[],.func (.func 113) #[] #[]] w fun e w'=>∃v',e=Z v'/\Ow w' w.heap.size 33 1 Y v' (2^k) (o.bk k zs)/\Gb w w'):=RY H HI k hk1 k w v cv (k+1) zs rfl hw hr hcs hc om om;obtain⟨g,cap,rfl,_⟩:=hc;obtain⟨n,hn⟩:∃n,n=k+1:=⟨_,rfl⟩;rw[<-hn]at HW⊢
 have u:IntKind.i64.wrap ((n:Int)-1)=(k:Int):=wi;clear hw hr hcs H HI hn;go_enter func73,ntmps73;go_wp2_with (go_at_call 142;refine HW.out.mono ?_;rintro e w1 ⟨v',rfl,ho1,ak⟩);go_returns;exact⟨_,rfl,ho1,ak⟩
theorem aAE(H:o.S)(HI:o.In)(k:Int){zs:Nat->Int × Int}(hn:n<=2000000)(hr:Rd w Y v n (n*2) (flat zs))(hcs:∀j,mY (zs j)):
  J6 25 #[J k,v] w (bN k n) (o.bk k.toNat zs):=by
 by_cases h:1<=k/\k<=6
 ·by_cases hk:n=2^(k.toNat-1)
  ·have ht:bN k n=2^k.toNat:=by unfold bN;rw[if_pos ⟨h.1,h.2,hk⟩]
   rw[ht];rw[hk]at hr;exact T_ H HI k.toNat om om k w v zs om hr hcs
  ·have ht:bN k n=0:=by unfold bN;rw[if_neg (fun h'=>hk h'.2.2)]
   rw[ht];obtain⟨a,cap,rfl,_⟩:=hr;obtain⟨L,hL⟩:∃L,L=2^k.toNat:=⟨_,rfl⟩;have hL2:L=2*2^(k.toNat-1):=by rw[hL,Nat.mul_comm,<-Nat.pow_succ];congr 1;omega
   have HS:KW 50 #[J k] (J (L:Int)):=fun w=>qc k k.toNat om om L (by rw[hL]) w;obtain⟨M,hM⟩:∃M:Nat,M=n*2:=⟨_,rfl⟩;have u:IntKind.i64.wrap ((n:Int)*2)=(M:Int):=wi;have hq:((M:Int)==(L:Int))=false:=by simp;omega
   have k1:¬k<1:=om;have k2:¬(6:Int)<k:=om;clear hk ht H HI hcs h hL hL2 hM;go_enter func25,ntmps25;go_wp2_with (go_at_call 50;refine kw (HS _) ?_);go_returns;exact⟨_,rfl,Ow.lit _ _ _ _ _,kg⟩
 ·have ht:bN k n=0:=by unfold bN;rw[if_neg (fun h'=>h ⟨h'.1,h'.2.1⟩)]
  rw[ht];obtain⟨a,cap,rfl,_⟩:=hr;clear ht H HI hcs;rcases(show k<1\/1<=k/\6<k by omega)with c|⟨c,c'⟩
  ·clear h;go_enter func25,ntmps25;go_wp2;go_returns;exact⟨_,rfl,Ow.lit _ _ _ _ _,kg⟩
  ·have c1:¬k<1:=om;clear h;go_enter func25,ntmps25;go_wp2;go_returns;exact⟨_,rfl,Ow.lit _ _ _ _ _,kg⟩
theorem Vu(ty t:TypeId)(z:Value)(size bytes:Nat)(hty:Tryz.prog.underlying ty=some (.slice t))(oP:(Tryz.prog.info? t).map (fun i=>(i.zero,i.size,i.bytes))=some (some z,size,bytes))(hby:bytes<=1000)(n:Nat)(hn:n<=10000000)(w:World):
  (Instr.makeSlice ty (J 0) (J (n:Int))).run Tryz.prog w=.ok (aB w.heap.size 0 n) (w.alloc (.cells (madeCells z.cells (n*size)) t)):=by
 obtain⟨i,hi,hz,hs,hb⟩:=info_parts oP;have hb':(i.bytes:Int)*(n:Int)<=281474976710656:=by
  have h:i.bytes*n<=1000*10000000:=Nat.mul_le_mul om hn;have h':((i.bytes*n:Nat):Int)<=281474976710656:=om
  rwa [Int.natCast_mul]at h'
 have hr:=run_make (P:=Tryz.prog) w ty t i z hty hi hz .i64 .i64 0 n om om hb' om;simp only[Int.toNat_natCast,hs]at hr;exact hr
theorem Ow.aGs(w:World)(t:TypeId)(size:Nat)(z:Array Value)(k:IntKind)(g:Nat->Int)(n:Nat)(hn:n<=10000000):Ow (w.alloc (.cells (madeCells z (n*size)) t)) w.heap.size t size k (aB w.heap.size 0 n) 0 g:=by
 refine⟨by simp[uv],.inr ⟨w.heap.size,n,madeCells z (n*size),rfl,Nat.le_refl _,heap_alloc_new w _,Nat.zero_le _,by unfold maxLen;omega,size_madeCells _ _,by simp[uv]⟩⟩
theorem QY:(Tryz.prog.info? 3).map (fun i=>(i.zero,i.size,i.bytes))=some (some (J 0),1,8):=by kernel_rfl
theorem V4(kk:Nat)(K N:Int)(n h:Nat)(hK:K=(kk:Int))(hk1:1<=kk)(hk6:kk<=6)(hN2:(2:Int)^kk=N)(hN:N=(n:Int))(hn:n<=128)(hh:h<=128)(hn0:0<n)(hh0:0<h)(a0:Option Addr)(cap0:Nat)(vg:Value)(w:World)(cf cg cs tz:Nat->Int)(zf zg zp:Nat->Int × Int)(C:World->Value->Prop)(HCg:Hid (∀w w' v,C w v->Gb w w'->C w' v))
  (HL:KW 47 #[J K] (.bool true))
  (HF:Hid (∀w',Gb w w'->CT 78 #[J N,.slice a0 n cap0] w' fun e w''=>∃v,e=Z (.tuple #[v,.bool true])/\Rd w'' Y v n n cf/\Gb w' w''))
  (HG:Hid (∀w',Gb w w'->CT 78 #[J N,vg] w' fun e w''=>∃v,e=Z (.tuple #[v,.bool true])/\Rd w'' Y v n n cg/\Gb w' w''))
  (HC:Hid (∀w',Gb w w'->CT 48 #[J K] w' fun e w''=>∃v,e=Z v/\C w'' v/\Gb w' w''))
  (HTf:Hid (∀w' u cv,Gb w w'->C w' cv->Rd w' Y u n n cf->CT 55 #[cv,u] w' fun e w''=>∃v,e=Z v/\Ow w'' w'.heap.size 59 2 Y v h (flat zf)/\Gb w' w''))
  (HTg:Hid (∀w' u cv,Gb w w'->C w' cv->Rd w' Y u n n cg->CT 55 #[cv,u] w' fun e w''=>∃v,e=Z v/\Ow w'' w'.heap.size 59 2 Y v h (flat zg)/\Gb w' w''))
  (HP:Hid (∀j,j<h->∀w',Gb w w'->QR 79 #[aG ((zf j).1) ((zf j).2),aG ((zg j).1) ((zg j).2)] w' (aG ((zp j).1) ((zp j).2))))
  (HB:Hid (∀w' u cv,Gb w w'->C w' cv->Rd w' Y u h (h*2) (flat zp)->CT 73 #[cv,u] w' fun e w''=>∃b cap,e=Z (aB b n cap)/\w'.heap.size<=b/\b<w''.heap.size/\(∀q,q<n->aj w'' b q (.int Y (cs q)))/\Gb w' w''))
  (HI:Hid (∀j,j<n->∀w',Gb w w'->CT 37 #[J 1,J 0,J 1,.int Y (cs j)] w' fun e w''=>∃fl:Int,e=Z (aK (tz j) fl)/\Gr w' w'')):
  CT 31 #[J K,.slice a0 n cap0,vg] w fun e w'=>∃v,e=Z (.tuple #[v,.bool true])/\Ow w' w.heap.size 3 1 .i64 v n (fun j=>IntKind.i64.wrap (tz j))/\Gb w w':=by
 have hf:=GR;subst hK;have hw1:IntKind.i64.wrap N=N:=wi;have hw2:IntKind.i64.wrap ((2:Int)^kk)=N:=by rw[hN2];exact hw1
 have hw3:IntKind.i64.wrap (1*(2:Int)^kk)=N:=by rw[Int.one_mul];exact hw2
 have HNn:Hid (N=(n:Int)):=hN;clear hN hN2;go_enter func31,ntmps31;go_upto_region 4 with(first
  |(go_at_call 47;refine kw (HL _) ?_)
  |(go_at_call 78;refine(HF _ kg).mono ?_;rintro e w1 ⟨u1,rfl,hr1,ak⟩))
 go_upto_region 7 with(go_at_call 78;refine(HG _ kg).mono ?_;rintro e w2 ⟨u2,rfl,hr2,aA⟩);have hr1':=hr1.gb aA;go_upto_region 8 with(go_at_call 48;refine(HC _ kg).mono ?_;rintro e W ⟨cv,rfl,hcv,yj⟩);have HR1:Hid (Rd W Y u1 n n cf):=hr1'.gb yj;have HR2:Hid (Rd W Y u2 n n cg):=hr2.gb yj;have HCV:Hid _:=hcv;have GW:Hid (Gb w W):=(show Gb w W from kg);clear hr1 hr1' hr2 hcv ak aA yj HL HF HG HC;go_upto_region 9 with(go_at_call 55;first
  |(with_reducible refine(HTf.out _ _ _ GW.out HCV.out HR1.out).mono ?_;rintro e w3 ⟨va,rfl,hoa,aF⟩)
  |(with_reducible refine(HTg.out _ _ _ (GW.out.trans aF) (HCg.out _ _ _ HCV.out aF) (show Rd w3 Y u2 n n cg from HR2.out.gb aF)).mono ?_;rintro e w4 ⟨vb,rfl,hob,aI⟩))
 obtain⟨ba,ca,rfl,a1,a2,a3,a4,ac⟩:=hoa.at hh0;obtain⟨bb,cb,rfl,b1,b2,b3,b4,bc⟩:=hob.at hh0;have s3:=aF.size;have hne:ba≠bb:=om;have HOA:Hid (Ow w4 W.heap.size 59 2 Y (aB ba h ca) h (flat zf)):=hoa.gb aI;have HOB:Hid (Ow w4 W.heap.size 59 2 Y (aB bb h cb) h (flat zg)):=hob.mono s3;have GG:Hid (Gb W w4):=aF.trans aI;have HNE:Hid _:=hne;clear HTf HTg HR1 HR2 hoa hob aF aI ac bc a1 a2 b1 b2 s3 hne;go_wp2;go_loopw [53] (fun i wr=>∃j:Nat,j<=h/\i=J j/\Ow wr W.heap.size 59 2 Y (aB ba h ca) h (fun q=>if q<2*j then flat zp q else flat zf q)/\Ow wr W.heap.size 59 2 Y (aB bb h cb) h (flat zg)/\Gb W wr) (fun i _=>h-(intOf i).toNat)
 case atStart=>exact⟨0,Nat.zero_le _,rfl,Ow.congr HOA.out (fun q hq=>by rw[if_neg (by omega)]),HOB.out,GG.out⟩
 case round=>
  obtain⟨j,hj,rfl,ho1,ho2,hgb⟩:=hrel;have HP1:Hid _:=ho1;have HP2:Hid _:=ho2;by_cases hlt:j<h
  ·have hlt':(j:Int)<(h:Int):=om;obtain⟨b1',cap1,e1,hb1,hB1,_,_,hc1⟩:=ho1.at hh0;obtain⟨b2',cap2,e2,hb2,hB2,_,_,hc2⟩:=ho2.at hh0;simp only[Value.slice.injEq,Option.some.injEq,Addr.mk.injEq,and_true,true_and]at e1 e2;obtain⟨rfl,rfl⟩:=e1;obtain⟨rfl,rfl⟩:=e2;obtain⟨c1,z1⟩:=hc1 (j*2) om;obtain⟨c1',z1'⟩:=hc1 (j*2+1) om;obtain⟨c2,z2⟩:=hc2 (j*2) om;obtain⟨c2',z2'⟩:=hc2 (j*2+1) om;rw[if_neg (by omega)]at c1 c1';have HSq:Hid (∀w',Gb W w'->QR 79 #[aG ((zf j).1) ((zf j).2),aG ((zg j).1) ((zg j).2)] w' (aG ((zp j).1) ((zp j).2))):=fun w' hg=>HP j hlt w' (GW.out.trans hg);have f0:Hid (flat zp (j*2)=(zp j).1):=by show _=_;rw[Nat.mul_comm,dh]
   have f1:Hid (flat zp (j*2+1)=(zp j).2):=by show _=_;rw[Nat.mul_comm,dn]
   rw[show flat zf (j*2)=(zf j).1 by rw[Nat.mul_comm,dh]]at c1;rw[show flat zf (j*2+1)=(zf j).2 by rw[Nat.mul_comm,dn]]at c1';rw[show flat zg (j*2)=(zg j).1 by rw[Nat.mul_comm,dh]]at c2;rw[show flat zg (j*2+1)=(zg j).2 by rw[Nat.mul_comm,dn]]at c2';generalize(zf j).1 =x1 at*
   generalize(zf j).2 =x2 at*
   generalize(zg j).1 =y1 at*
   generalize(zg j).2 =y2 at*
   generalize(zp j).1 =t1 at*
   generalize(zp j).2 =t2 at*
   clear ho1 ho2 hc1 hc2;go_wp2;go_region_with
    (first|(go_at_call 79;refine ku (HSq _ kg) fun w5 aT=>?_;have Q_:=aT.size;(try simp only[World.size_drew,World.size_alloc]at Q_);have cc0:aj w5 ba (j*2) (.int Y x1):=aT.c;have Z_:bK w5 ba (j*2):=aT.z;have cc1:aj w5 ba (j*2+1) (.int Y x2):=aT.c;have Z9:bK w5 ba (j*2+1):=aT.z))
   all_goals
    go_wp2;go_roundw
    case rel=>
     refine⟨j+1,om,by go_num,?_,Ow.other (Ow.other (Ow.gb (Ow.drew (Ow.alloc HP2.out _)) aT.gb) HNE.out _) HNE.out _,kg⟩;refine Ow.congr (Ow.store (Ow.store (Ow.gb (Ow.drew (Ow.alloc HP1.out _)) aT.gb) (j*2) t1) (j*2+1) t2) (fun q hq=>?_);by_cases e1:q=j*2+1
     ·rw[if_pos e1,if_pos om,e1];exact f1.out.symm
     ·by_cases e0:q=j*2
      ·rw[if_neg e1,if_pos e0,if_pos om,e0];exact f0.out.symm
      ·by_cases e2:q<2*j
       ·rw[if_neg e1,if_neg e0,if_pos e2,if_pos (by omega)]
       ·rw[if_neg e1,if_neg e0,if_neg e2,if_neg (by omega)]
    case measure=>simp[intOf]<;>omega
  ·obtain rfl:j=h:=om;have uf:¬(j:Int)<(j:Int):=om
   rename World=>V
   have rb:Rd V Y (aB ba j ca) j (j*2) (flat zp):=(Ow.rd HP1.out).congr (fun q hq=>by rw[if_pos (by omega)]);have HBk:Hid (∀w',Gb V w'->CT 73 #[cv,aB ba j ca] w' fun e w''=>∃b cap,e=Z (aB b n cap)/\w'.heap.size<=b/\b<w''.heap.size/\(∀q,q<n->aj w'' b q (.int Y (cs q)))/\Gb w' w''):=fun w' hg=>HB w' _ _ (GW.out.trans (hgb.trans hg)) (HCg _ _ _ HCV.out (hgb.trans hg)) (rb.gb hg);have GV:Hid (Gb w V):=GW.out.trans hgb;have hmk:∀w,(Instr.makeSlice 45 (J 0) (J (n:Int))).run Tryz.prog w=.ok (aB w.heap.size 0 n) (w.alloc (.cells (madeCells #[J 0] (n*1)) 3)):=fun w=>Vu 45 3 (J 0) 1 8 Tryz.underlying45 QY de n om w;clear ho1 ho2 HP1 HP2 HOA HOB GG rb hgb HNE HP HB HCV HCg GW;have WZ:Hid (Ow (V.alloc (.cells (madeCells #[J 0] n) 3)) V.heap.size 3 1 .i64 (aB V.heap.size 0 n) 0 (fun j=>IntKind.i64.wrap (tz j))):=by
    have:=Ow.aGs V 3 1 #[J 0] .i64 (fun j=>IntKind.i64.wrap (tz j)) n om;rw[Nat.mul_one]at this;exact this
   go_wp2_with (go_at_call 73;refine(HBk _ kg).mono ?_;rintro e V2 ⟨bc,cc,rfl,aI5,hbc,hcc,aD2⟩);rw[World.size_alloc]at aI5;have HO0:Hid _:=Ow.gb WZ.out aD2;have HCC:Hid _:=hcc;have GV2:Hid (Gb V V2):=(show Gb V V2 from kg);clear hcc aD2 WZ HBk hmk;go_loopw [17,75] (fun f i wr=>∃j:Nat,j<=n/\i=J j/\Ow wr V.heap.size 3 1 .i64 f j (fun j=>IntKind.i64.wrap (tz j))/\f.ownBlock≠some bc/\(∀q,q<n->aj wr bc q (.int Y (cs q)))/\Gb V wr) (fun _ i _=>n-(intOf i).toNat)
   case atStart=>exact⟨0,Nat.zero_le _,rfl,HO0.out,by simp[Value.ownBlock];omega,HCC.out,GV2.out⟩
   case round=>
    obtain⟨i,hi,rfl,hof,hnb,hcl,EX⟩:=hrel;have hsz2:=EX.size;by_cases hlt:i<n
    ·have hlt':(i:Int)<(n:Int):=om;have HIj:Hid _:=HI i hlt;have x0:=hcl i hlt;have hbs:=au x0;have HCL:Hid _:=hcl;obtain⟨y,hy⟩:∃y,IntKind.i64.wrap (tz i)=y:=⟨_,rfl⟩;have e0:Hid ((fun j=>IntKind.i64.wrap (tz j)) (i*1+0)=y):=by show _=_;rw[Nat.mul_one,Nat.add_zero];exact hy
     have Kv:Hid (∀w2,Gb wr w2->Ow w2 V.heap.size 3 1 .i64 _ i (fun j=>IntKind.i64.wrap (tz j))):=fun w2 hg=>Ow.gb hof hg;have HGw:Hid (∀w2,Gb wr w2->Gb w w2):=fun w2 hg=>GV.out.trans (EX.trans hg);clear hof hcl;go_wp2_with (first
      |(go_at_call 37;refine(HIj _ (HGw _ kg)).mono ?_;rintro e w2 ⟨fl,rfl,aA⟩)
      |(at_builtin;refine h_ rfl _ _ 45 rfl 3 (J 0) 1 8 .i64 Tryz.underlying45 QY rfl de de V.heap.size i 1 (fun j=>IntKind.i64.wrap (tz j)) _ w2.heap.size rfl (Kv _ kg) rfl (nM (g:=fun j=>IntKind.i64.wrap (tz j)) (m:=i*1) (by simp[go_sem]) e0.out) om om (by have:=aA.size;rw[World.size_alloc];omega) ?_;intro v' w3 hown3 hb3 hk3 ho3))
     go_roundw
     case rel=>
      refine⟨i+1,om,by go_num,hown3,?_,fun q hq=>hk3 _ _ _ (by have:=aA.old (HCL q hq);exact kb) hnb,Gb.below kg hb3 (Nat.le_refl _)⟩;rcases ho3 with h3|h3
      ·rw[h3];exact hnb
      ·rw[h3,World.size_alloc];have:=aA.size;intro h;injection h;omega
     case measure=>simp[intOf]<;>omega
    ·obtain rfl:i=n:=om;have hlt':¬(i:Int)<(i:Int):=om;have OD:=Ow.mono hof GV.out.size;have hgE:Gb w wr:=GV.out.trans EX;clear hof;go_wp2;go_returns;exact⟨_,rfl,OD,hgE⟩
