import Derived.Test.YtmiekgjgpmfekaaGreatDoorK2
import Derived.Deep.Cut
set_option linter.all false
set_option maxRecDepth 1000000
set_option maxHeartbeats 40000000
open Go.Proofs.YtmiekgjgpmfekaaGreatDoor renaming vU → J
open Go.Value renaming int → Y
open Go.Proofs.Tryz
namespace Go.Proofs.YtmiekgjgpmfekaaGreatDoor
open Go.RowKit
attribute [local go_sem] aj
variable{o:Ops}{a a1 a2 b b1 b2 x0 x1 x2 x3:Int}{w:World}{m:Nat}{k:IntKind}{g:Nat->Int}
theorem sK:∀(z fl:Int) (w:World),(Instr.field 56 (aK z fl) 0).run Tryz.prog w=.ok (J z) w:=fun z fl w=>by kernel_rfl
theorem Qo(H:o.S)(ha:Wd a)(hb:Wd b)(w:World):
  QB 43 #[J a,J b] w (J (o.add a b)):=by
 have hf:=sK;have HA:=H.add ha hb;generalize o.add a b=z at*
 clear ha hb H;go_enter func43,ntmps43;go_wp2_with (go_at_call 105;refine(HA _).mono ?_;rintro e w1 ⟨fl,rfl,ak⟩);go_returns;exact⟨rfl,kg⟩
theorem Tv(H:o.S)(ha:Wd a)(hb:Wd b)(w:World):
  QB 59 #[J a,J b] w (J (o.sub a b)):=by
 have hf:=sK;have HA:=H.sub ha hb;generalize o.sub a b=z at*
 clear ha hb H;go_enter func59,ntmps59;go_wp2_with (go_at_call 124;refine(HA _).mono ?_;rintro e w1 ⟨fl,rfl,ak⟩);go_returns;exact⟨rfl,kg⟩
theorem IU(H:o.S)(ha:Wd a)(hb:Wd b)(w:World):
  QB 42 #[J a,J b] w (J (o.mul a b)):=by
 have hf:=sK;have HA:=H.mul ha hb;generalize o.mul a b=z at*
 clear ha hb H;go_enter func42,ntmps42;go_wp2_with (go_at_call 104;refine(HA _).mono ?_;rintro e w1 ⟨fl,rfl,ak⟩);go_returns;exact⟨rfl,kg⟩
theorem DF(H:o.S)(n:Int)(n0:-2047<=n)(n1:n<=2047)(w:World):
  QB 40 #[Y .i64 n] w (J (o.int n)):=by
 have hf:=sK;have hw:IntKind.u64.wrap n=n%18446744073709551616:=IntKind.wrap_u64 n;have HA:=H.int n (n%18446744073709551616) n0 n1 rfl;generalize o.int n=z at*
 generalize n%18446744073709551616=u at*
 clear H;go_enter func40,ntmps40;go_wp2_with (go_at_call 36;refine(HA _).mono ?_;rintro e w1 ⟨fl,rfl,ak⟩);go_returns;exact⟨rfl,kg⟩
theorem ZF(H:o.S)(HI:o.In)(w:World):
  QB 44 #[] w (J 4602678819172646912):=by
 have hf:=sK;have H1:KB 40 #[Y .i64 1] (J 4607182418800017408):=fun w=>by have:=DF H 1 om om w;rw[H.one]at this;exact this
 have H2:KB 40 #[Y .i64 2] (J (o.int 2)):=fun w=>DF H 2 om om w;have HA:=H.div xY (HI.int 2);rw[H.half]at HA;generalize o.int 2=t at*
 clear H HI;go_enter func44,ntmps44;go_wp2_with (first
  |(go_at_call 40;first|(with_reducible refine ku (H1.out _) fun w1 ak=>?_)|(with_reducible refine ku (H2.out _) fun w2 aA=>?_))
  |(go_at_call 45;refine(HA _).mono ?_;rintro e w3 ⟨fl,rfl,aF⟩))
 go_returns;exact⟨rfl,kg⟩
theorem Lc(ha:Wd a)(w:World):
  QB 46 #[J a] w (J (nO a)):=by
 obtain⟨p,mx,one,inf,sg,nan,hF⟩:∃p mx one inf sg nan,aP 1 p mx one inf sg nan:=⟨_,_,_,_,_,_,.inr ⟨rfl,rfl,rfl,rfl,rfl,rfl,rfl⟩⟩;have HT:KW 109 #[Y .i64 1,J a] (J (nO a)):=fun w=>by
  rcases hF with⟨h,_⟩|⟨_,rfl,rfl,rfl,rfl,rfl,rfl⟩
  ·omega
  ·exact zn (.inr ⟨rfl,rfl,rfl,rfl,rfl,rfl,rfl⟩) a (nO a) ha.1 (by have:=ha.2;omega) (by unfold nO;split<;>omega) w
 go_enter func46,ntmps46;go_wp2_with (go_at_call 109;refine kw (HT _) ?_);go_returns;exact⟨rfl,kg⟩
theorem aAb(H:o.S)(ha1:Wd a1)(ha2:Wd a2)(hb1:Wd b1)(hb2:Wd b2)(w:World):
  QB 53 #[aG a1 a2,aG b1 b2] w (aG (o.add a1 b1) (o.add a2 b2)):=by
 have HP:Hid (∀a b,Wd a->Wd b->∀w',QB 43 #[J a,J b] w' (J (o.add a b))):=fun a b ha hb w'=>Qo H ha hb w';clear H;go_enter func53,ntmps53;go_wp2;go_region_held3 (fun w'=>aj w' w.heap.size 0 (J a1)/\aj w' w.heap.size 1 (J a2)/\aj w' (w.heap.size+1) 0 (J b1)/\aj w' (w.heap.size+1) 1 (J b2))
  (exact kZ)
  (first
   |(go_at_call 43;with_reducible refine ku (HP.out _ _ (by assumption) (by assumption) _) fun w1 ak=>?_;have:=ak.yF w;have:=ak.Iu w;have kK:=ak.JV w))
 all_goals
  go_wp2;exact dA (by simp[results,Tryz.results53,go_sem,kK])
theorem TW(H:o.S)(ha1:Wd a1)(ha2:Wd a2)(hb1:Wd b1)(hb2:Wd b2)(w:World):
  QB 54 #[aG a1 a2,aG b1 b2] w (aG (o.sub a1 b1) (o.sub a2 b2)):=by
 have HP:Hid (∀a b,Wd a->Wd b->∀w',QB 59 #[J a,J b] w' (J (o.sub a b))):=fun a b ha hb w'=>Tv H ha hb w';clear H;go_enter func54,ntmps54;go_wp2;go_region_held3 (fun w'=>aj w' w.heap.size 0 (J a1)/\aj w' w.heap.size 1 (J a2)/\aj w' (w.heap.size+1) 0 (J b1)/\aj w' (w.heap.size+1) 1 (J b2))
  (exact kZ)
  (first
   |(go_at_call 59;with_reducible refine ku (HP.out _ _ (by assumption) (by assumption) _) fun w1 ak=>?_;have:=ak.yF w;have:=ak.Iu w;have kK:=ak.JV w))
 all_goals
  go_wp2;exact dA (by simp[results,Tryz.results54,go_sem,kK])
theorem aCf(H:o.S)(HI:o.In)(ha1:Wd a1)(ha2:Wd a2)(w:World):
  QB 71 #[aG a1 a2] w (aG (o.mul a1 4602678819172646912) (o.mul a2 4602678819172646912)):=by
 have hh:=pJ;have HP:Hid (∀a b,Wd a->Wd b->∀w',QB 42 #[J a,J b] w' (J (o.mul a b))):=fun a b ha hb w'=>IU H ha hb w';have HH:KB 44 #[] (J 4602678819172646912):=fun w'=>ZF H HI w';clear H HI;go_enter func71,ntmps71;go_wp2;go_region_held3 (fun w'=>aj w' w.heap.size 0 (J a1)/\aj w' w.heap.size 1 (J a2))
  (exact kZ)
  (first
   |(go_at_call 44;with_reducible refine ku (HH.out _) fun w1 ak=>?_;have:=ak.yF w;have kK:=ak.Wy w)
   |(go_at_call 42;with_reducible refine ku (HP.out _ _ (by assumption) (by assumption) _) fun w1 ak=>?_;have:=ak.yF w;have kK:=ak.Wy w))
 all_goals
  go_wp2;exact dA (by simp[results,Tryz.results71,go_sem,kK])
theorem Dv(H:o.S)(HI:o.In)(ha1:Wd a1)(ha2:Wd a2)(hb1:Wd b1)(hb2:Wd b2)(w:World):
  QB 52 #[aG a1 a2,aG b1 b2] w (aG (o.sub (o.mul a1 b1) (o.mul a2 b2)) (o.add (o.mul a1 b2) (o.mul a2 b1))):=by
 have h11:=HI.mul ha1 hb1;have h22:=HI.mul ha2 hb2;have h12:=HI.mul ha1 hb2;have h21:=HI.mul ha2 hb1;have HT:Hid (∀a b,Wd a->Wd b->∀w',QB 42 #[J a,J b] w' (J (o.mul a b))):=fun a b ha hb w'=>IU H ha hb w';have HM:KB 59 #[J (o.mul a1 b1),J (o.mul a2 b2)] (J (o.sub (o.mul a1 b1) (o.mul a2 b2))):=fun w'=>Tv H h11 h22 w';have HP:KB 43 #[J (o.mul a1 b2),J (o.mul a2 b1)] (J (o.add (o.mul a1 b2) (o.mul a2 b1))):=fun w'=>Qo H h12 h21 w';clear h11 h22 h12 h21 H HI;go_enter func52,ntmps52;go_wp2;go_region_held3 (fun w'=>aj w' w.heap.size 0 (J a1)/\aj w' w.heap.size 1 (J a2)/\aj w' (w.heap.size+1) 0 (J b1)/\aj w' (w.heap.size+1) 1 (J b2))
  (exact kZ)
  (first
   |(go_at_call 42;with_reducible refine ku (HT.out _ _ (by assumption) (by assumption) _) fun w1 ak=>?_;have:=ak.yF w;have:=ak.Iu w;have kK:=ak.JV w)
   |(go_at_call 59;with_reducible refine ku (HM.out _) fun w1 ak=>?_;have:=ak.yF w;have:=ak.Iu w;have kK:=ak.JV w)
   |(go_at_call 43;with_reducible refine ku (HP.out _) fun w1 ak=>?_;have:=ak.yF w;have:=ak.Iu w;have kK:=ak.JV w))
 all_goals
  go_wp2;exact dA (by simp[results,Tryz.results52,go_sem,kK])
theorem ES:(Tryz.prog.info? 59).map (fun i=>(i.zero,i.size,i.bytes))=some (some (aG 0 0),2,16):=by kernel_rfl
theorem TV{b:Nat}(h0:aj w b 0 (Y k x0))(h1:aj w b 1 (Y k x1))(h2:aj w b 2 (Y k x2))(h3:aj w b 3 (Y k x3))
  (e0:g (m+0)=x0) (e1:g (m+1)=x1) (e2:g (m+2)=x2) (e3:g (m+3)=x3):∀j,j<2*2->aj w b j (Y k (g (m+j))):=by
 intro j hj
 match j,hj with
 |0,_=>rw[e0];exact h0
 |1,_=>rw[e1];exact h1
 |2,_=>rw[e2];exact h2
 |3,_=>rw[e3];exact h3
def FQ(o:Ops)(k:Nat):Prop:=∀w,CT 11 #[Y .i64 k] w fun e w'=>∃v,e=.returned v/\Ow w' w.heap.size 59 2 .u64 v (2^(k-1)) (flat (o.rt k))/\Gb w w'
theorem Va(H:o.S):FQ o 1:=by
 intro w;have H1:KB 40 #[Y .i64 1] (J 4607182418800017408):=fun w=>by have:=DF H 1 om om w;rw[H.one]at this;exact this
 clear H;show CT 11 #[Y .i64 1] w _;go_enter func11,ntmps11;go_wp2_with (go_at_call 40;refine ku (H1 _) fun w1 ak=>?_);go_returns;refine⟨_,rfl,?_,kg⟩;have:=World.ownsRow_lit (base:=w.heap.size) (e:=59) (size:=2) w1 #[J 0,J 4607182418800017408] 1 ak.size de rfl;exact this
theorem PE(H:o.S)(HI:o.In)(k:Nat)(hk:k+2<=6)(IH:FQ o (k+1)):FQ o (k+2):=by
 intro w;have H1:KB 40 #[Y .i64 1] (J 4607182418800017408):=fun w=>by have:=DF H 1 om om w;rw[H.one]at this;exact this
 have HH:KB 44 #[] (J 4602678819172646912):=fun w'=>ZF H HI w';unfold FQ at IH;have hjj:((k+2:Nat):Int)-1=((k+1:Nat):Int):=om;obtain⟨m,hm⟩:∃m,m=2^k:=⟨_,rfl⟩;have hm1:0<m:=by rw[hm];exact Nat.pow_pos de
 have hm2:m<=64:=by
  rw[hm];have:=Nat.pow_le_pow_right (show 0<2 by decide) (show k<=6 by omega);omega
 have HM:Hid _:=hm;have hIH:Hid (∀w',CT 11 #[Y .i64 ((k:Int)+2-1)] w' fun e w''=>∃b cap,e=.returned (aB b m cap)/\w'.heap.size<=b/\b<w''.heap.size/\(∀j,j<m*2->aj w'' b j (J (flat (o.rt (k+1)) j)))/\Gb w' w''):=fun w'=>by
  rw[show(k:Int)+2-1=((k+1:Nat):Int) by omega];refine(IH w').mono fun e w'' ⟨v,e1,e2,e3⟩=>?_;rw[show k+1-1=k by omega,<-hm]at e2;obtain⟨b,cap,rfl,c1,c2,_,_,c3⟩:=e2.at hm1;exact⟨b,cap,e1,c1,c2,fun j hj=>(c3 j hj).1,e3⟩
 have HPl:Hid (∀a b,Wd a->Wd b->∀w',QB 43 #[J a,J b] w' (J (o.add a b))):=fun a b ha hb w'=>Qo H ha hb w';have HTi:Hid (∀a b,Wd a->Wd b->∀w',QB 42 #[J a,J b] w' (J (o.mul a b))):=fun a b ha hb w'=>IU H ha hb w';have HSq:Hid (∀a,Wd a->∀w',CT 41 #[Y .i64 1,Y .i64 0,J a] w' fun e w''=>∃fl:Int,e=.returned (aK (o.sqrt a) fl)/\Gb w' w''):=fun a ha w'=>(H.sqrt ha).out w';have HDv:Hid (∀a b,Wd a->Wd b->∀w',CT 45 #[Y .i64 1,Y .i64 0,J a,J b] w' fun e w''=>∃fl:Int,e=.returned (aK (o.div a b) fl)/\Gb w' w''):=fun a b ha hb w'=>(H.div ha hb).out w';have HTn:Hid (∀a,Wd a->∀w',QB 46 #[J a] w' (J (nO a))):=fun a ha w'=>Lc ha w';have hf:=sK;have HW:Hid _:=HI;clear hm IH H HI;have k1:¬(k:Int)+2<1:=om;have k2:¬(6:Int)<(k:Int)+2:=om;have k3:((k:Int)+2==1)=false:=by simp;omega
 go_enter func11,ntmps11;go_wp2_with (go_at_call 11;with_reducible refine(hIH.out _).mono ?_;rintro e w2 ⟨b,cap,rfl,hb0,hb1,hbc,aA⟩);have hsz:=aA.size;simp only[World.size_alloc]at hsz hb0;go_loopw [3,5] (fun f i wr=>∃j:Nat,j<=m/\i=Y .i64 j/\Ow wr w.heap.size 59 2 .u64 f (2*j) (flat (o.rt (k+2)))/\f.ownBlock≠some b/\b<wr.heap.size/\Hid (∀q,q<m*2->aj wr b q (J (flat (o.rt (k+1)) q)))/\Gb w wr) (fun _ i _=>m-(intOf i).toNat)
 case atStart=>exact⟨0,Nat.zero_le _,rfl,Ow.gb (Ow.lit w _ _ _ _) aA,(by simp only[Value.ownBlock,ne_eq,Option.some.injEq];omega),hb1,hbc,kg⟩
 case round=>
  obtain⟨j,hj,rfl,hof,hne,hbr,HBC,hgb⟩:=hrel;have HO:Hid _:=hof;have HNE:Hid _:=hne;have hzr:=hgb.size;clear hof hne;by_cases hjm:j<m
  ·have uf:(j:Int)<(m:Int):=om;obtain⟨a1,ha1⟩:∃a1,a1=(o.rt (k+1) j).1 :=⟨_,rfl⟩;obtain⟨a2,ha2⟩:∃a2,a2=(o.rt (k+1) j).2 :=⟨_,rfl⟩;have q0:wr.cell? ⟨b,j*2,none⟩=some (J a1):=by rw[ha1,<-dh,Nat.mul_comm];exact HBC (2*j) om
   have q1:wr.cell? ⟨b,j*2+1,none⟩=some (J a2):=by rw[ha2,<-dn,Nat.mul_comm];exact HBC (2*j+1) om
   have wa1:Wd a1:=by rw[ha1];exact(HW.out.rt _ _).1
   have wa2:Wd a2:=by rw[ha2];exact(HW.out.rt _ _).2
   have wo:=xY;have wh:=pJ;obtain⟨s,hs⟩:∃s,o.add zh a1=s:=⟨_,rfl⟩;have ws:=HW.out.add wo wa1;rw[hs]at ws;obtain⟨t,ht⟩:∃t,o.mul s jo=t:=⟨_,rfl⟩;have wt:=HW.out.mul ws wh;rw[ht]at wt;obtain⟨r,hr⟩:∃r,o.sqrt t=r:=⟨_,rfl⟩;have wr1:=HW.out.sqrt wt;rw[hr]at wr1;obtain⟨y,hy⟩:∃y,o.add r r=y:=⟨_,rfl⟩;have wy:=HW.out.add wr1 wr1;rw[hy]at wy;obtain⟨x,hx⟩:∃x,o.div a2 y=x:=⟨_,rfl⟩;have wx:=HW.out.div wa2 wy;rw[hx]at wx;have H2:=HPl _ _ wo wa1;rw[hs]at H2;have H3:=HTi _ _ ws wh;rw[ht]at H3;have H4:=HSq _ wt;rw[hr]at H4;have H5:=HPl _ _ wr1 wr1;rw[hy]at H5;have H6:=HDv _ _ wa2 wy;rw[hx]at H6;have H7:=HTn _ wr1;have H8:=HTn _ wx;have G2:Hid _:=H2;have G3:Hid _:=H3;have G4:Hid _:=H4;have G5:Hid _:=H5;have G6:Hid _:=H6;have G7:Hid _:=H7;have G8:Hid _:=H8;have er:o.root (o.rt (k+1) j)=(r,x):=by
    unfold Ops.root Ops.kJ;rw[<-ha1,<-ha2,hs,ht,hr,hy,hx]
   have r0:o.rt (k+2) (2*j)=(r,x):=by
    simp only[Ops.rt];rw[if_pos om,show 2*j/2=j by omega,er]
   have r1:o.rt (k+2) (2*j+1)=(nO r,nO x):=by
    simp only[Ops.rt];rw[if_neg om,show(2*j+1)/2=j by omega,er];rfl
   have e0:Hid (flat (o.rt (k+2)) (2*j*2+0)=r):=by show _=_;rw[show 2*j*2+0=2*(2*j) by omega,dh,r0]
   have e1:Hid (flat (o.rt (k+2)) (2*j*2+1)=x):=by show _=_;rw[show 2*j*2+1=2*(2*j)+1 by omega,dn,r0]
   have e2:Hid (flat (o.rt (k+2)) (2*j*2+2)=nO r):=by show _=_;rw[show 2*j*2+2=2*(2*j+1) by omega,dh,r1]
   have e3:Hid (flat (o.rt (k+2)) (2*j*2+3)=nO x):=by show _=_;rw[show 2*j*2+3=2*(2*j+1)+1 by omega,dn,r1]
   generalize nO r=t1 at*
   generalize nO x=t2 at*
   clear H2 H3 H4 H5 H6 H7 H8 er r0 r1 hs ht hr hy hx ws wt wr1 wy wx wa1 wa2 wo wh ha1 ha2 HPl HTi HSq HDv HTn;go_wp2;go_region_held3 (fun w'=>aj w' wr.heap.size 0 (J a1)/\aj w' wr.heap.size 1 (J a2))
    (exact kZ)
    (first
     |(go_at_call 40;with_reducible refine ku (H1.out _) fun w3 aF=>?_)
     |(go_at_call 43;with_reducible refine ku (G2.out _) fun w3 aF=>?_)
     |(go_at_call 44;with_reducible refine ku (HH.out _) fun w3 aF=>?_)
     |(go_at_call 42;with_reducible refine ku (G3.out _) fun w3 aF=>?_)
     |(go_at_call 41;with_reducible refine(G4.out _).mono ?_;rintro e w3 ⟨fl,rfl,aF⟩))
   all_goals
    (try go_split_ands)
    go_wp2;go_region_held3 (fun w'=>aj w' wr.heap.size 0 (J a1)/\aj w' wr.heap.size 1 (J a2))
     (exact kZ)
     (first
      |(go_at_call 43;with_reducible refine ku (G5.out _) fun w4 aI=>?_)
      |(go_at_call 45;with_reducible refine(G6.out _).mono ?_;rintro e w4 ⟨fl2,rfl,aI⟩))
    all_goals
     go_wp2_with (first
      |(go_at_call 46;first|(with_reducible refine ku (G7.out _) fun w5 aT=>?_)|(with_reducible refine ku (G8.out _) fun w6 b_=>?_;have hGO:Gb wr w6:=kg;have hz6:=hGO.size))
      |(at_builtin;refine h_ rfl _ _ 22 rfl 59 (.agg #[J 0,J 0]) 2 16 .u64 Tryz.underlying22 ES rfl de de w.heap.size (2*j) 2 (flat (o.rt (k+2))) _ w6.heap.size rfl (Ow.alloc (Ow.gb HO.out hGO) _) rfl (TV (by simp[go_sem]) (by simp[go_sem]) (by simp[go_sem]) (by simp[go_sem]) e0.out e1.out e2.out e3.out) om om (by simp[go_sem];omega) ?_;intro v' w7 aGH hb7 hk7 aI4))
     go_roundw
     case rel=>
      refine⟨j+1,om,by go_num,aGH,?_,?_,?_,Gb.below kg hb7 (Nat.le_refl _)⟩
      ·rcases aI4 with e|e
       ·rw[e];exact HNE.out
       ·rw[e];simp[go_sem];omega
      ·have:=hb7.size;simp only[World.size_alloc]at this;omega
      ·exact fun q hq=>hk7 _ _ _ (cO _ (hGO.old (HBC q hq))) HNE.out
     case measure=>simp[intOf]<;>omega
  ·obtain rfl:j=m:=om;have uf:¬(j:Int)<(j:Int):=om;go_wp2;go_returns;refine⟨_,rfl,?_,hgb⟩;have e2m:2*j=2^(k+1):=by have:=HM.out;rw[Nat.pow_succ];omega
   rw[<-e2m];exact HO.out
theorem I7(H:o.S)(HI:o.In):∀k:Nat,1<=k->k<=6->FQ o k
 |0,h,_=>absurd h om
 |1,_,_=>Va H
 |k+2,_,h=>PE H HI k h (I7 H HI (k+1) om om)
theorem ER:(Tryz.prog.info? 33).map (fun i=>(i.zero,i.size,i.bytes))=some (some (J 0),1,8):=by kernel_rfl
theorem XW(k:Nat)(hk:k<=60)(w:World):QW 50 #[Y .i64 k] w (Y .i64 ((2^k:Nat):Int)):=by
 go_enter func50,ntmps50;go_wp2;go_loopw [3,4] (fun n i wr=>∃j:Nat,∃p:Nat,j<=k/\i=Y .i64 j/\n=Y .i64 (p:Int)/\Hid (p=2^j)/\w=wr) (fun _ i _=>k-(intOf i).toNat)
 case atStart=>exact⟨0,1,Nat.zero_le _,rfl,rfl,rfl,rfl⟩
 case round=>
  obtain⟨j,p,hj,rfl,rfl,HP,rfl⟩:=hrel;by_cases hlt:j<k
  ·have hlt':(j:Int)<(k:Int):=om;obtain⟨q,hq⟩:∃q:Nat,q=p*2:=⟨_,rfl⟩;have hp:p<=1152921504606846976:=by
    rw[HP.out];have:=Nat.pow_le_pow_right (show 0<2 by decide) (show j<=60 by omega);omega
   have u:IntKind.i64.wrap ((p:Int)*2)=(q:Int):=wi;have HQ:Hid (q=2^(j+1)):=by show _=_;rw[hq,HP.out,Nat.pow_succ]
   clear hq;go_wp2;go_roundw
   case rel=>exact⟨j+1,q,om,by go_num,rfl,HQ.out,trivial⟩
   case measure=>simp[intOf]<;>omega
  ·obtain rfl:j=k:=om;have uf:¬(j:Int)<(j:Int):=om;go_wp2;go_returns;have e:((2^j:Nat):Int)=(p:Int):=by rw[HP.out]
   refine⟨bJ ?_,rfl⟩;have e2:(2:Int)^j=(p:Int):=by rw[<-e];simp
   first|(rw[e2];rfl)|(rw[e];rfl)
theorem qc(K:Int)(k:Nat)(hK:K=(k:Int))(hk:k<=60)(N:Int)(hN:N=((2^k:Nat):Int))(w:World):QW 50 #[Y .i64 K] w (Y .i64 N):=by
 subst hK hN;exact XW k hk w
theorem nM{b:Nat}(h0:aj w b 0 (Y k x0))(e0:g (m+0)=x0):∀j,j<1*1->aj w b j (Y k (g (m+j))):=by
 intro j hj
 match j,hj with
 |0,_=>rw[e0];exact h0
def aFL(c:Nat):Prop:=∀(w:World) (v:Value) (L h:Nat) (cs:Nat->Int),Rd w .u64 v L L cs->L=2*h->0<h->h<=100->
 CT 51 #[v,Y .i64 (c:Int)] w fun e w'=>∃v',e=.returned v'/\Ow w' w.heap.size 33 1 .u64 v' h (fun m=>cs (2*m+c))/\Gb w w'
theorem aB3(c:Nat)(hc:c<=1):aFL c:=by
 intro w v L h cs hr hL hpos hh;obtain⟨b,cap,rfl,h1,h2,hcell⟩:=hr.at om;have HC:Hid _:=hcell;have HL:Hid _:=hL;have hL2:L<=200:=om;have hb:=au (hcell 0 om);clear hr hcell hL;go_enter func51,ntmps51;go_wp2;go_loopw [5,6] (fun f i wr=>∃j q:Nat,j<=h/\i=Y .i64 (q:Int)/\Hid (q=2*j+c)/\Ow wr w.heap.size 33 1 .u64 f j (fun m=>cs (2*m+c))/\Gb w wr) (fun _ i _=>2*h+2-(intOf i).toNat)
 case atStart=>exact⟨0,c,Nat.zero_le _,rfl,by show _=_;omega,Ow.lit w _ _ _ _,kg⟩
 case round=>
  obtain⟨j,q,hj,rfl,HQ,hof,hgb⟩:=hrel;have hq:=HQ.out;have hLL:=HL.out;have hqs:q<=400:=om;have HO:Hid _:=hof;have hsz:=hgb.size;by_cases hlt:j<h
  ·have hlt':(q:Int)<(L:Int):=om;obtain⟨x,hx⟩:∃x,cs q=x:=⟨_,rfl⟩;have x0:wr.cell? ⟨b,q,none⟩=some (J x):=by rw[<-hx];exact hgb.old (HC q om)
   have e0:Hid ((fun m=>cs (2*m+c)) (j*1+0)=x):=by show _=_;rw[<-hx,hq];congr 1;omega
   obtain⟨q',hq'⟩:∃q':Nat,q'=q+2:=⟨_,rfl⟩;have u:IntKind.i64.wrap ((q:Int)+2)=(q':Int):=wi;have HQ':Hid _:=hq';have HC1:Hid (aj (wr.alloc (.cells #[J x] 33)) wr.heap.size 0 (J x)):=by show _=_;simp[go_sem]
   have HOa:=fun ob=>Ow.alloc hof ob;clear hof hx hq hLL hq';go_wp2_with (at_builtin;refine h_ rfl _ _ 27 rfl 33 (J 0) 1 8 .u64 Tryz.underlying27 ER rfl de de w.heap.size j 1 (fun m=>cs (2*m+c)) _ wr.heap.size rfl (HOa _) rfl (nM (g:=fun m=>cs (2*m+c)) (m:=j*1) HC1.out e0.out) om om (by rw[World.size_alloc];omega) ?_;intro v' w1 hown1 hb1 _ _);go_roundw
   case rel=>exact⟨j+1,q',om,rfl,by show _=_;have:=HQ'.out;have:=HQ.out;omega,hown1,Gb.below kg hb1 (Nat.le_refl _)⟩
   case measure=>have:=HQ'.out;have:=HQ.out;simp[intOf]<;>omega
  ·obtain rfl:j=h:=om;have hlt':¬(q:Int)<(L:Int):=om;clear hof hq hLL;go_wp2;go_returns;exact⟨_,rfl,HO.out,hgb⟩
theorem aB4(C:Int)(c:Nat)(hC:C=(c:Int))(hc:c<=1)(w:World)(v:Value)(L h:Nat)(cs:Nat->Int)(hr:Rd w .u64 v L L cs)(hL:L=2*h)(hpos:0<h)(hh:h<=100):
  CT 51 #[v,Y .i64 C] w fun e w'=>∃v',e=.returned v'/\Ow w' w.heap.size 33 1 .u64 v' h (fun m=>cs (2*m+c))/\Gb w w':=by
 subst hC;exact aB3 c hc w v L h cs hr hL hpos hh
