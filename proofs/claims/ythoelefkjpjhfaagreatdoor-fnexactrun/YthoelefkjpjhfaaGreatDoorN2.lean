import Derived.Test.YthoelefkjpjhfaaGreatDoorK2
import Derived.Deep.Cut
set_option linter.all false
set_option maxRecDepth 1000000
set_option maxHeartbeats 40000000
open Go.Proofs.YthoelefkjpjhfaaGreatDoor renaming vI → J, vU → Y
open Go.Proofs.Tryz
namespace Go.Proofs.YthoelefkjpjhfaaGreatDoor
open Go.RowKit
attribute [local go_sem] aA dB
variable{o:Ops}{w w':World}{b m:Nat}{a a1 a2 b1 b2 x0 x1 x2 x3:Int}{k:IntKind}{g:Nat->Int}
def xH:∀(z fl:Int) (w:World),(Instr.field 100 (aP z fl) 0).run Tryz.prog w=.ok (Y z) w:=λz fl w=>by kernel_rfl
def Zi(H:o.S){b:Int}(ha:Wd a)(hb:Wd b)(w:World):
  QB 212 #[Y a,Y b] w (Y (o.add a b)):=by
 have hf:=xH;have HA:=H.add ha hb;generalize o.add a b=z at*
 clear ha hb H;go_enter func212,ntmps212;go_wp2_with (go_at_call 62;refine(HA _).mono ?_;rintro e w1 ⟨fl,rfl,ak⟩);go_returns;exact⟨rfl,kg⟩
def aBg(H:o.S){b:Int}(ha:Wd a)(hb:Wd b)(w:World):
  QB 127 #[Y a,Y b] w (Y (o.sub a b)):=by
 have hf:=xH;have HA:=H.sub ha hb;generalize o.sub a b=z at*
 clear ha hb H;go_enter func127,ntmps127;go_wp2_with (go_at_call 63;refine(HA _).mono ?_;rintro e w1 ⟨fl,rfl,ak⟩);go_returns;exact⟨rfl,kg⟩
def Rw(H:o.S){b:Int}(ha:Wd a)(hb:Wd b)(w:World):
  QB 112 #[Y a,Y b] w (Y (o.mul a b)):=by
 have hf:=xH;have HA:=H.mul ha hb;generalize o.mul a b=z at*
 clear ha hb H;go_enter func112,ntmps112;go_wp2_with (go_at_call 64;refine(HA _).mono ?_;rintro e w1 ⟨fl,rfl,ak⟩);go_returns;exact⟨rfl,kg⟩
def Kt(H:o.S)(n:Int)(n0:-2047<=n)(n1:n<=2047)(w:World):
  QB 111 #[J n] w (Y (o.int n)):=by
 have hf:=xH;have hw:IntKind.u64.wrap n=n%18446744073709551616:=IntKind.wrap_u64 n;have HA:=H.int n (n%18446744073709551616) n0 n1 rfl;generalize o.int n=z at*
 generalize n%18446744073709551616=u at*
 clear H;go_enter func111,ntmps111;go_wp2_with (go_at_call 60;refine(HA _).mono ?_;rintro e w1 ⟨fl,rfl,ak⟩);go_returns;exact⟨rfl,kg⟩
def aGW(H:o.S)(HI:o.In)(w:World):
  QB 113 #[] w (Y 4602678819172646912):=by
 have hf:=xH;have H1:KB 111 #[J 1] (Y 4607182418800017408):=λw=>by have:=Kt H 1 om om w;rw[H.one]at this;exact this
 have H2:KB 111 #[J 2] (Y (o.int 2)):=λw=>Kt H 2 om om w;have HA:=H.div BO (HI.int 2);rw[H.half]at HA;generalize o.int 2=t at*
 clear H HI;go_enter func113,ntmps113;go_wp2_with (first|(go_at_call 111;first|(with_reducible refine ku (H1.out _) λw1 ak=>?_)|(with_reducible refine ku (H2.out _) λw2 aB=>?_))|(go_at_call 66;refine(HA _).mono ?_;rintro e w3 ⟨fl,rfl,aK⟩))
 go_returns;exact⟨rfl,kg⟩
def UQ(ha:Wd a)(w:World):
  QB 213 #[Y a] w (Y (vM a)):=by
 obtain⟨p,mx,one,aI,sg,nan,hF⟩:∃p mx one aI sg nan,bD 1 p mx one aI sg nan:=⟨_,_,_,_,_,_,.inr ⟨rfl,rfl,rfl,rfl,rfl,rfl,rfl⟩⟩;have HT:KW 145 #[J 1,Y a] (Y (vM a)):=λw=>by
  rcases hF with⟨h,_⟩|⟨_,rfl,rfl,rfl,rfl,rfl,rfl⟩
  .omega
  .exact DW (.inr ⟨rfl,rfl,rfl,rfl,rfl,rfl,rfl⟩) a (vM a) ha.1 (by have:=ha.2;omega) (by unfold vM;split<;>omega) w
 go_enter func213,ntmps213;go_wp2_with (go_at_call 145;refine kw (HT _) ?_);go_returns;exact⟨rfl,kg⟩
def aHq(H:o.S)(jo:Wd a1)(qo:Wd a2)(gU:Wd b1)(lC:Wd b2)(w:World):
  QB 210 #[aN a1 a2,aN b1 b2] w (aN (o.add a1 b1) (o.add a2 b2)):=by
 have HP:Hid (∀a b,Wd a->Wd b->∀w',QB 212 #[Y a,Y b] w' (Y (o.add a b))):=λa b ha hb w'=>Zi H ha hb w';clear H;go_enter func210,ntmps210;go_wp2;go_region_held3 (λw'=>kM w' w.heap.size 0 1 (Y a1) (Y a2)/\kM w' (w.heap.size+1) 0 1 (Y b1) (Y b2))(exact nX)(first|(go_at_call 212;with_reducible refine ku (HP.out _ _ (by assumption) (by assumption) _) λw1 ak=>?_;have:=ak.Ap w;have:=ak.QS w;have oM:=ak.TW w))
 all_goals
  go_wp2;exact dI (by simp[results,Tryz.results210,go_sem,oM])
def aBz(H:o.S)(jo:Wd a1)(qo:Wd a2)(gU:Wd b1)(lC:Wd b2)(w:World):
  QB 211 #[aN a1 a2,aN b1 b2] w (aN (o.sub a1 b1) (o.sub a2 b2)):=by
 have HP:Hid (∀a b,Wd a->Wd b->∀w',QB 127 #[Y a,Y b] w' (Y (o.sub a b))):=λa b ha hb w'=>aBg H ha hb w';clear H;go_enter func211,ntmps211;go_wp2;go_region_held3 (λw'=>kM w' w.heap.size 0 1 (Y a1) (Y a2)/\kM w' (w.heap.size+1) 0 1 (Y b1) (Y b2))(exact nX)(first|(go_at_call 127;with_reducible refine ku (HP.out _ _ (by assumption) (by assumption) _) λw1 ak=>?_;have:=ak.Ap w;have:=ak.QS w;have oM:=ak.TW w))
 all_goals
  go_wp2;exact dI (by simp[results,Tryz.results211,go_sem,oM])
def aJV(H:o.S)(HI:o.In)(jo:Wd a1)(qo:Wd a2)(w:World):
  QB 214 #[aN a1 a2] w (aN (o.mul a1 4602678819172646912) (o.mul a2 4602678819172646912)):=by
 have hh:=uI;have HP:Hid (∀a b,Wd a->Wd b->∀w',QB 112 #[Y a,Y b] w' (Y (o.mul a b))):=λa b ha hb w'=>Rw H ha hb w';have HH:KB 113 #[] (Y 4602678819172646912):=λw'=>aGW H HI w';clear H HI;go_enter func214,ntmps214;go_wp2;go_region_held3 (λw'=>kM w' w.heap.size 0 1 (Y a1) (Y a2))(exact nX)(first|(go_at_call 113;with_reducible refine ku (HH.out _) λw1 ak=>?_;have:=ak.Ap w;have oM:=ak.Y21 w)|(go_at_call 112;with_reducible refine ku (HP.out _ _ (by assumption) (by assumption) _) λw1 ak=>?_;have:=ak.Ap w;have oM:=ak.Y21 w))
 all_goals
  go_wp2;exact dI (by simp[results,Tryz.results214,go_sem,oM])
def TP(H:o.S)(HI:o.In)(jo:Wd a1)(qo:Wd a2)(gU:Wd b1)(lC:Wd b2)(w:World):
  QB 122 #[aN a1 a2,aN b1 b2] w (aN (o.sub (o.mul a1 b1) (o.mul a2 b2)) (o.add (o.mul a1 b2) (o.mul a2 b1))):=by
 have h11:=HI.mul jo gU;have h22:=HI.mul qo lC;have h12:=HI.mul jo lC;have h21:=HI.mul qo gU;have HT:Hid (∀a b,Wd a->Wd b->∀w',QB 112 #[Y a,Y b] w' (Y (o.mul a b))):=λa b ha hb w'=>Rw H ha hb w';have HM:KB 127 #[Y (o.mul a1 b1),Y (o.mul a2 b2)] (Y (o.sub (o.mul a1 b1) (o.mul a2 b2))):=λw'=>aBg H h11 h22 w';have HP:KB 212 #[Y (o.mul a1 b2),Y (o.mul a2 b1)] (Y (o.add (o.mul a1 b2) (o.mul a2 b1))):=λw'=>Zi H h12 h21 w';clear h11 h22 h12 h21 H HI;go_enter func122,ntmps122;go_wp2;go_region_held3 (λw'=>kM w' w.heap.size 0 1 (Y a1) (Y a2)/\kM w' (w.heap.size+1) 0 1 (Y b1) (Y b2))(exact nX)(first|(go_at_call 112;with_reducible refine ku (HT.out _ _ (by assumption) (by assumption) _) λw1 ak=>?_;have:=ak.Ap w;have:=ak.QS w;have oM:=ak.TW w)|(go_at_call 127;with_reducible refine ku (HM.out _) λw1 ak=>?_;have:=ak.Ap w;have:=ak.QS w;have oM:=ak.TW w)|(go_at_call 212;with_reducible refine ku (HP.out _) λw1 ak=>?_;have:=ak.Ap w;have:=ak.QS w;have oM:=ak.TW w))
 all_goals
  go_wp2;exact dI (by simp[results,Tryz.results122,go_sem,oM])
def Nh:(Tryz.prog.info? 123).map (λi=>(i.zero,i.size,i.bytes))=some (some (aN 0 0),2,16):=by kernel_rfl
def aBy(h0:aA w b 0 (.int k x0))(h1:aA w b 1 (.int k x1))(h2:aA w b 2 (.int k x2))(h3:aA w b 3 (.int k x3))
  (e0:g (m+0)=x0) (e1:g (m+1)=x1) (e2:g (m+2)=x2) (e3:g (m+3)=x3):∀j,j<2*2->aA w b j (.int k (g (m+j))):=by
 intro j hj
 match j,hj with
 |0,_=>rw[e0];exact h0
 |1,_=>rw[e1];exact h1
 |2,_=>rw[e2];exact h2
 |3,_=>rw[e3];exact h3
def Og(o:Ops)(k:Nat):Prop:=∀w,CT 209 #[J k] w λe w'=>∃v,e=.returned v/\Ow w' w.heap.size 123 2 .u64 v (2^(k-1)) (flat (o.rt k))/\Gb w w'
def aCL(H:o.S):Og o 1:=by
 intro w;have H1:KB 111 #[J 1] (Y 4607182418800017408):=λw=>by have:=Kt H 1 om om w;rw[H.one]at this;exact this
 clear H;show CT 209 #[J 1] w _;go_enter func209,ntmps209;go_wp2_with (go_at_call 111;refine ku (H1 _) λw1 ak=>?_);go_returns;refine⟨_,rfl,?_,kg⟩;have:=World.ownsRow_lit (base:=w.heap.size) (e:=123) (size:=2) w1 #[Y 0,Y 4607182418800017408] 1 ak.size de rfl;exact this
def Y5(H:o.S)(HI:o.In)(k:Nat)(hk:k+2<=6)(IH:Og o (k+1)):Og o (k+2):=by
 intro w;have H1:KB 111 #[J 1] (Y 4607182418800017408):=λw=>by have:=Kt H 1 om om w;rw[H.one]at this;exact this
 have HH:KB 113 #[] (Y 4602678819172646912):=λw'=>aGW H HI w';unfold Og at IH;have hjj:((k+2:Nat):Int)-1=((k+1:Nat):Int):=om;obtain⟨m,hm⟩:=x_n (2^k);have AU:0<m:=by rw[hm];exact Nat.pow_pos de
 have JI:m<=64:=by
  rw[hm];have:=Nat.pow_le_pow_right (show 0<2 by decide) (om:k<=6);omega
 have HM:Hid _:=hm;have hIH:Hid (∀w',CT 209 #[J ((k:Int)+2-1)] w' λe aT=>∃b cap,e=.returned (aC b m cap)/\w'.heap.size<=b/\b<aT.heap.size/\(∀j,j<m*2->aA aT b j (Y (flat (o.rt (k+1)) j)))/\Gb w' aT):=λw'=>by
  rw[(om:(k:Int)+2-1=((k+1:Nat):Int))];refine(IH w').mono λe aT ⟨v,e1,e2,e3⟩=>?_;rw[(om:k+1-1=k),<-hm]at e2;obtain⟨b,cap,rfl,c1,c2,_,_,c3⟩:=e2.at AU;exact⟨b,cap,e1,c1,c2,λj hj=>(c3 j hj).1,e3⟩
 have HPl:Hid (∀a b,Wd a->Wd b->∀w',QB 212 #[Y a,Y b] w' (Y (o.add a b))):=λa b ha hb w'=>Zi H ha hb w';have HTi:Hid (∀a b,Wd a->Wd b->∀w',QB 112 #[Y a,Y b] w' (Y (o.mul a b))):=λa b ha hb w'=>Rw H ha hb w';have HSq:Hid (∀a,Wd a->∀w',CT 67 #[J 1,J 0,Y a] w' λe aT=>∃fl:Int,e=.returned (aP (o.sqrt a) fl)/\Gb w' aT):=λa ha w'=>(H.sqrt ha).out w';have HDv:Hid (∀a b,Wd a->Wd b->∀w',CT 66 #[J 1,J 0,Y a,Y b] w' λe aT=>∃fl:Int,e=.returned (aP (o.div a b) fl)/\Gb w' aT):=λa b ha hb w'=>(H.div ha hb).out w';have HTn:Hid (∀a,Wd a->∀w',QB 213 #[Y a] w' (Y (vM a))):=λa ha w'=>UQ ha w';have hf:=xH;have HW:Hid _:=HI;clear hm IH H HI;have k1:¬(k:Int)+2<1:=om;have k2:¬(6:Int)<(k:Int)+2:=om;have k3:((k:Int)+2==1)=false:=jl;go_enter func209,ntmps209;go_wp2_with (go_at_call 209;with_reducible refine(hIH.out _).mono ?_;rintro e w2 ⟨b,cap,rfl,qV,gU,hbc,aB⟩);have uF:=aB.size;simp only[World.size_alloc]at uF qV;go_loopw [3,5] (λf i wr=>∃j:Nat,j<=m/\i=J j/\Ow wr w.heap.size 123 2 .u64 f (2*j) (flat (o.rt (k+2)))/\f.ownBlock≠some b/\b<wr.heap.size/\Hid (∀q,q<m*2->aA wr b q (Y (flat (o.rt (k+1)) q)))/\Gb w wr) (λ_ i _=>m-(intOf i).toNat)
 case atStart=>exact⟨0,Nat.zero_le _,rfl,Ow.gb (Ow.lit w _ _ _ _) aB,(by simp only[Value.ownBlock,ne_eq,Option.some.injEq];omega),gU,hbc,kg⟩
 case round=>
  obtain⟨j,hj,rfl,iU,jV,FP,HBC,dH⟩:=hrel;have HO:Hid _:=iU;have HNE:Hid _:=jV;have hzr:=dH.size;clear iU jV;by_cases hjm:j<m
  .have D6:(j:Int)<(m:Int):=om;obtain⟨a1,jo⟩:=x_n ((o.rt (k+1) j).1);obtain⟨a2,qo⟩:=x_n ((o.rt (k+1) j).2);have q0:wr.cell? ⟨b,j*2,none⟩=some (Y a1):=by rw[jo,<-eP,Nat.mul_comm];exact HBC (2*j) om
   have q1:wr.cell? ⟨b,j*2+1,none⟩=some (Y a2):=by rw[qo,<-eU,Nat.mul_comm];exact HBC (2*j+1) om
   have wa1:Wd a1:=by rw[jo];exact(HW.out.rt _ _).1
   have wa2:Wd a2:=by rw[qo];exact(HW.out.rt _ _).2
   have wo:=BO;have wh:=uI;obtain⟨s,hs⟩:=dK (o.add O_ a1);have ws:=HW.out.add wo wa1;rw[hs]at ws;obtain⟨t,ht⟩:=dK (o.mul s Jc);have wt:=HW.out.mul ws wh;rw[ht]at wt;obtain⟨r,hr⟩:=dK (o.sqrt t);have wr1:=HW.out.sqrt wt;rw[hr]at wr1;obtain⟨y,hy⟩:=dK (o.add r r);have wy:=HW.out.add wr1 wr1;rw[hy]at wy;obtain⟨x,hx⟩:=dK (o.div a2 y);have wx:=HW.out.div wa2 wy;rw[hx]at wx;have H2:=HPl _ _ wo wa1;rw[hs]at H2;have H3:=HTi _ _ ws wh;rw[ht]at H3;have H4:=HSq _ wt;rw[hr]at H4;have H5:=HPl _ _ wr1 wr1;rw[hy]at H5;have H6:=HDv _ _ wa2 wy;rw[hx]at H6;have H7:=HTn _ wr1;have H8:=HTn _ wx;have G2:Hid _:=H2;have G3:Hid _:=H3;have G4:Hid _:=H4;have G5:Hid _:=H5;have G6:Hid _:=H6;have G7:Hid _:=H7;have G8:Hid _:=H8;have er:o.root (o.rt (k+1) j)=(r,x):=by
    unfold Ops.root Ops.sQ;rw[<-jo,<-qo,hs,ht,hr,hy,hx]
   have r0:o.rt (k+2) (2*j)=(r,x):=by
    simp only[Ops.rt];rw[if_pos om,(om:2*j/2=j),er]
   have r1:o.rt (k+2) (2*j+1)=(vM r,vM x):=by
    simp only[Ops.rt];rw[if_neg om,(om:(2*j+1)/2=j),er];rfl
   have e0:Hid (flat (o.rt (k+2)) (2*j*2+0)=r):=by show _=_;rw[(om:2*j*2+0=2*(2*j)),eP,r0]
   have e1:Hid (flat (o.rt (k+2)) (2*j*2+1)=x):=by show _=_;rw[(om:2*j*2+1=2*(2*j)+1),eU,r0]
   have e2:Hid (flat (o.rt (k+2)) (2*j*2+2)=vM r):=by show _=_;rw[(om:2*j*2+2=2*(2*j+1)),eP,r1]
   have e3:Hid (flat (o.rt (k+2)) (2*j*2+3)=vM x):=by show _=_;rw[(om:2*j*2+3=2*(2*j+1)+1),eU,r1]
   generalize vM r=t1 at*
   generalize vM x=t2 at*
   clear H2 H3 H4 H5 H6 H7 H8 er r0 r1 hs ht hr hy hx ws wt wr1 wy wx wa1 wa2 wo wh jo qo HPl HTi HSq HDv HTn;go_wp2;go_region_held3 (λw'=>kM w' wr.heap.size 0 1 (Y a1) (Y a2))(exact nX)(first|(go_at_call 111;with_reducible refine ku (H1.out _) λw3 aK=>?_)|(go_at_call 212;with_reducible refine ku (G2.out _) λw3 aK=>?_)|(go_at_call 113;with_reducible refine ku (HH.out _) λw3 aK=>?_)|(go_at_call 112;with_reducible refine ku (G3.out _) λw3 aK=>?_)|(go_at_call 67;with_reducible refine(G4.out _).mono ?_;rintro e w3 ⟨fl,rfl,aK⟩))
   all_goals
    (try go_split_ands)
    go_wp2;go_region_held3 (λw'=>kM w' wr.heap.size 0 1 (Y a1) (Y a2))(exact nX)(first|(go_at_call 212;with_reducible refine ku (G5.out _) λw4 aV=>?_)|(go_at_call 66;with_reducible refine(G6.out _).mono ?_;rintro e w4 ⟨fl2,rfl,aV⟩))
    all_goals
     go_wp2_with (first|(go_at_call 213;first|(with_reducible refine ku (G7.out _) λw5 bJ=>?_)|(with_reducible refine ku (G8.out _) λw6 fK=>?_;have hGO:Gb wr w6:=kg;have hz6:=hGO.size))|(at_builtin;refine lG rfl _ _ 119 rfl 123 (.agg #[Y 0,Y 0]) 2 16 .u64 Tryz.underlying119 Nh rfl de de w.heap.size (2*j) 2 (flat (o.rt (k+2))) _ w6.heap.size rfl (Ow.alloc (Ow.gb HO.out hGO) _) rfl (aBy (by simp[go_sem]) (by simp[go_sem]) (by simp[go_sem]) (by simp[go_sem]) e0.out e1.out e2.out e3.out) om om (by simp[go_sem];omega) ?_;intro v' w7 aPz hb7 hk7 aSx))
     go_roundw
     case rel=>
      refine⟨j+1,om,by go_num,aPz,?_,?_,?_,Gb.below kg hb7 (Nat.le_refl _)⟩
      .rcases aSx with e|e
       .rw[e];exact HNE.out
       .rw[e];simp[go_sem];omega
      .have:=hb7.size;simp only[World.size_alloc]at this;omega
      .exact λq hq=>hk7 _ _ _ (aZ _ (hGO.old (HBC q hq))) HNE.out
     case measure=>exact uz
  .obtain rfl:j=m:=om;have D6:¬(j:Int)<(j:Int):=om;go_wp2;go_returns;refine⟨_,rfl,?_,dH⟩;have e2m:2*j=2^(k+1):=by have:=HM.out;rw[Nat.pow_succ];omega
   rw[<-e2m];exact HO.out
def RS(H:o.S)(HI:o.In):∀k:Nat,1<=k->k<=6->Og o k
 |0,h,_=>absurd h om
 |1,_,_=>aCL H
 |k+2,_,h=>Y5 H HI k h (RS H HI (k+1) om om)
def SY:(Tryz.prog.info? 71).map (λi=>(i.zero,i.size,i.bytes))=some (some (Y 0),1,8):=by kernel_rfl
def aMn(k:Nat)(hk:k<=60)(w:World):QW 46 #[J k] w (J ((2^k:Nat):Int)):=by
 go_enter func46,ntmps46;go_wp2;go_loopw [3,4] (λn i wr=>∃j:Nat,∃p:Nat,j<=k/\i=J j/\n=J (p:Int)/\Hid (p=2^j)/\w=wr) (λ_ i _=>k-(intOf i).toNat)
 case atStart=>exact⟨0,1,Nat.zero_le _,rfl,rfl,rfl,rfl⟩
 case round=>
  obtain⟨j,p,hj,rfl,rfl,HP,rfl⟩:=hrel;by_cases fF:j<k
  .have jc:(j:Int)<(k:Int):=om;obtain⟨q,hq⟩:=x_n (p*2);have hp:p<=1152921504606846976:=by
    rw[HP.out];have:=Nat.pow_le_pow_right (show 0<2 by decide) (om:j<=60);omega
   have u:IntKind.i64.wrap ((p:Int)*2)=(q:Int):=wi;have HQ:Hid (q=2^(j+1)):=by show _=_;rw[hq,HP.out,Nat.pow_succ]
   clear hq;go_wp2;go_roundw
   case rel=>exact⟨j+1,q,om,by go_num,rfl,HQ.out,trivial⟩
   case measure=>exact uz
  .obtain rfl:j=k:=om;have D6:¬(j:Int)<(j:Int):=om;go_wp2;go_returns;have e:((2^j:Nat):Int)=(p:Int):=by rw[HP.out]
   refine⟨bU ?_,rfl⟩;have e2:(2:Int)^j=(p:Int):=by rw[<-e];simp
   first|(rw[e2];rfl)|(rw[e];rfl)
def xG(K:Int)(k:Nat)(hK:K=(k:Int))(hk:k<=60)(N:Int)(hN:N=((2^k:Nat):Int))(w:World):QW 46 #[J K] w (J N):=by
 subst hK hN;exact aMn k hk w
def Ag(h0:aA w b 0 (.int k x0))(e0:g (m+0)=x0):∀j,j<1*1->aA w b j (.int k (g (m+j))):=by
 intro j hj
 match j,hj with
 |0,_=>rw[e0];exact h0
def aOc(c:Nat):Prop:=∀(w:World) (v:Value) (L h:Nat) (cs:Nat->Int),Rd w .u64 v L L cs->L=2*h->0<h->h<=100->
 CT 208 #[v,J (c:Int)] w λe w'=>∃v',e=.returned v'/\Ow w' w.heap.size 71 1 .u64 v' h (λm=>cs (2*m+c))/\Gb w w'
def aJF(c:Nat)(hc:c<=1):aOc c:=by
 intro w v L h cs hr hL jm hh;obtain⟨b,cap,rfl,h1,h2,aW⟩:=hr.at om;have HC:Hid _:=aW;have HL:Hid _:=hL;have JK:L<=200:=om;have hb:=au (aW 0 om);clear hr aW hL;go_enter func208,ntmps208;go_wp2;go_loopw [5,6] (λf i wr=>∃j q:Nat,j<=h/\i=J (q:Int)/\Hid (q=2*j+c)/\Ow wr w.heap.size 71 1 .u64 f j (λm=>cs (2*m+c))/\Gb w wr) (λ_ i _=>2*h+2-(intOf i).toNat)
 case atStart=>exact⟨0,c,Nat.zero_le _,rfl,by show _=_;omega,Ow.lit w _ _ _ _,kg⟩
 case round=>
  obtain⟨j,q,hj,rfl,HQ,iU,dH⟩:=hrel;have hq:=HQ.out;have hLL:=HL.out;have hqs:q<=400:=om;have HO:Hid _:=iU;have uF:=dH.size;by_cases fF:j<h
  .have jc:(q:Int)<(L:Int):=om;obtain⟨x,hx⟩:=dK (cs q);have x0:wr.cell? ⟨b,q,none⟩=some (Y x):=by rw[<-hx];exact dH.old (HC q om)
   have e0:Hid ((λm=>cs (2*m+c)) (j*1+0)=x):=by show _=_;rw[<-hx,hq];congr 1;omega
   obtain⟨q',hq'⟩:=x_n (q+2);have u:IntKind.i64.wrap ((q:Int)+2)=(q':Int):=wi;have HQ':Hid _:=hq';have HC1:Hid (aA (wr.alloc (.cells #[Y x] 71)) wr.heap.size 0 (Y x)):=by show _=_;simp[go_sem]
   have HOa:=λob=>Ow.alloc iU ob;clear iU hx hq hLL hq';go_wp2_with (at_builtin;refine lG rfl _ _ 47 rfl 71 (Y 0) 1 8 .u64 Tryz.underlying47 SY rfl de de w.heap.size j 1 (λm=>cs (2*m+c)) _ wr.heap.size rfl (HOa _) rfl (Ag (g:=λm=>cs (2*m+c)) (m:=j*1) HC1.out e0.out) om om (by rw[World.size_alloc];omega) ?_;intro v' w1 iM gU _ _);go_roundw
   case rel=>exact⟨j+1,q',om,rfl,by show _=_;have:=HQ'.out;have:=HQ.out;omega,iM,Gb.below kg gU (Nat.le_refl _)⟩
   case measure=>have:=HQ'.out;have:=HQ.out;simp[intOf]<;>omega
  .obtain rfl:j=h:=om;have jc:¬(q:Int)<(L:Int):=om;clear iU hq hLL;go_wp2;go_returns;exact⟨_,rfl,HO.out,dH⟩
def aJG(C:Int)(c:Nat)(hC:C=(c:Int))(hc:c<=1)(w:World)(v:Value)(L h:Nat)(cs:Nat->Int)(hr:Rd w .u64 v L L cs)(hL:L=2*h)(jm:0<h)(hh:h<=100):
  CT 208 #[v,J C] w λe w'=>∃v',e=.returned v'/\Ow w' w.heap.size 71 1 .u64 v' h (λm=>cs (2*m+c))/\Gb w w':=by
 subst hC;exact aJF c hc w v L h cs hr hL jm hh
structure nT (w:World) (b:Nat):Prop where
 c0:aA w b 0 (J 0)
 c1:aA w b 1 (J 0)
 c2:aA w b 2 (J 0)
 c3:aA w b 3 (Y 0)
 c4:aA w b 4 (Y 0)
 c5:aA w b 5 (.bool false)
 c6:aA w b 6 (J 0)
 z0:dB w b 0
 z1:dB w b 1
 z2:dB w b 2
 z3:dB w b 3
 z4:dB w b 4
 z5:dB w b 5
 z6:dB w b 6
def nT.new(w:World):nT (w.alloc (.cells #[J 0,J 0,J 0,Y 0,Y 0,.bool false,J 0] 187)) w.heap.size:=by constructor<;>simp[go_sem]
def nT.new'(hb:b=w.heap.size):nT (w.alloc (.cells #[J 0,J 0,J 0,Y 0,Y 0,.bool false,J 0] 187)) b:=by subst hb;exact nT.new w
def nT.alloc(h:nT w b)(c:Array Value)(t:TypeId):nT (w.alloc (.cells c t)) b:=⟨aZ _ h.c0,aZ _ h.c1,aZ _ h.c2,aZ _ h.c3,aZ _ h.c4,aZ _ h.c5,aZ _ h.c6,cu h.z0,cu h.z1,cu h.z2,cu h.z3,cu h.z4,cu h.z5,cu h.z6⟩
def nT.gr(g:Gr w w')(h:nT w b):nT w' b:=⟨g.old h.c0,g.old h.c1,g.old h.c2,g.old h.c3,g.old h.c4,g.old h.c5,g.old h.c6,iw g h.z0,iw g h.z1,iw g h.z2,iw g h.z3,iw g h.z4,iw g h.z5,iw g h.z6⟩
def nT.drew(h:nT w b):nT w.drew b:=⟨h.c0,h.c1,h.c2,h.c3,h.c4,h.c5,h.c6,h.z0,h.z1,h.z2,h.z3,h.z4,h.z5,h.z6⟩
def zf(o:Nat):Value:=if o=5 then .bool false else if o=3\/o=4 then Y 0 else J 0
def nT.r(h:nT w b):∀o,o<7->aA w b o (zf o):=λo ho=>by
 rcases(om:o=0\/o=1\/o=2\/o=3\/o=4\/o=5\/o=6)with rfl|rfl|rfl|rfl|rfl|rfl|rfl
 .exact h.c0
 .exact h.c1
 .exact h.c2
 .exact h.c3
 .exact h.c4
 .exact h.c5
 .exact h.c6
def nT.f(h:nT w b):∀o,o<7->dB w b o:=λo ho=>by
 rcases(om:o=0\/o=1\/o=2\/o=3\/o=4\/o=5\/o=6)with rfl|rfl|rfl|rfl|rfl|rfl|rfl
 .exact h.z0
 .exact h.z1
 .exact h.z2
 .exact h.z3
 .exact h.z4
 .exact h.z5
 .exact h.z6
structure aQO (w wx:World) (bx bz:Nat) (sx ex cx xh xl sy ey cy yh yl:Int) (tx ty:Bool):Prop where
 g:Gr w wx:=by exact kr
 x0:aA wx bx 0 (J sx):=by exact kl
 x1:aA wx bx 1 (J ex):=by exact kl
 x2:aA wx bx 2 (J cx):=by exact kl
 x3:aA wx bx 3 (Y xh):=by exact kl
 x4:aA wx bx 4 (Y xl):=by exact kl
 x5:aA wx bx 5 (.bool tx):=by exact kl
 x6:aA wx bx 6 (J 0):=by exact kl
 y0:aA wx bz 0 (J sy):=by exact kl
 y1:aA wx bz 1 (J ey):=by exact kl
 y2:aA wx bz 2 (J cy):=by exact kl
 y3:aA wx bz 3 (Y yh):=by exact kl
 y4:aA wx bz 4 (Y yl):=by exact kl
 y5:aA wx bz 5 (.bool ty):=by exact kl
 y6:aA wx bz 6 (J 0):=by exact kl
def aNM(f a b:Int)(s:Bool)(HF:KR 168 #[J f] (.tuple #[jX 0 0 0,.bool false]))(w:World):
  QR 101 #[J f,Y a,Y b,.bool s] w (.tuple #[J 2,J 1]):=by
 go_enter func101,ntmps101;go_wp2_with (go_at_call 168;refine ku (HF _) λw1 ak=>?_);go_returns;exact⟨rfl,Gr.g⟩
def aNL(p mn mx f a b sx ex cx xh xl sy ey cy yh yl m r fl d:Int)(tx ty s:Bool)(HF:Hid (∀w',Gr w w'->Ji f w' p mn mx true))
  (HA:pJ p mn mx a sx ex cx xh xl tx 0) (HB:pJ p mn mx b sy ey cy yh yl ty 0)
  (hm:max cx cy=m) (hc:m=4/\r=2/\fl=1\/m=3/\s=true/\r=2/\fl=1\/m=3/\s=false/\r=2/\fl=0\/m=0/\r=0/\fl=0\/(m=1\/m=2)/\r=d/\fl=0)
  (HO:XY sx ex cx xh xl tx 0 sy ey cy yh yl ty d):
  QR 101 #[J f,Y a,Y b,.bool s] w (.tuple #[J r,J fl]):=by
 go_enter func101,ntmps101;go_wp2_with (go_at_call 168;refine ku (HF _ Gr.g) λw1 ak=>?_;have aBl:w.heap.size<=w1.heap.size:=ak.size);go_cut [12,13] (λs12 s13 wx=>∃bx bz:Nat,s12=.pointer (some ⟨bx,0,none⟩)/\s13=.pointer (some ⟨bz,0,none⟩)/\aQO w wx bx bz sx ex cx xh xl sy ey cy yh yl tx ty)
 case first=>
  clear HO HF hm hc;go_region_held3 (λw'=>jv w' w1.heap.size 0 1 2 (J p) (J mn) (J mx))(exact o8)(first|(go_at_call 174;first|((with_reducible refine(HA.out _).mono ?_);rintro e EL ⟨rfl,rH⟩;have:=rH.C30 w1;have ZV:=rH.size;(try simp only[World.size_alloc,World.size_drew,World.size_setCell]at ZV);(try (have jo:¬w1.heap.size+1=EL.heap.size:=om));(try (have qo:¬EL.heap.size=w1.heap.size+1:=om));(try (have ha3:¬w1.heap.size+1+1=EL.heap.size:=om));(try (have ha4:¬EL.heap.size=w1.heap.size+1+1:=om)))|((with_reducible refine(HB.out _).mono ?_);rintro e uN ⟨rfl,mO⟩;have:=mO.C30 w1;have ZU:=mO.size;(try simp only[World.size_alloc,World.size_drew,World.size_setCell]at ZU);(try (have ha5:¬w1.heap.size+1=uN.heap.size:=om));(try (have ha6:¬uN.heap.size=w1.heap.size+1:=om));(try (have ha7:¬w1.heap.size+1+1=uN.heap.size:=om));(try (have ha8:¬uN.heap.size=w1.heap.size+1+1:=om));(try (have ha9:¬EL.heap.size=uN.heap.size:=om));(try (have aUK:¬uN.heap.size=EL.heap.size:=om));(try (have aUJ:¬EL.heap.size+1=uN.heap.size:=om));(try (have aUI:¬uN.heap.size=EL.heap.size+1:=om));(first|(have vF:nT uN (w1.heap.size+1):=nT.gr mO (nT.gr rH (nT.drew (nT.alloc (nT.new' (by first|(simp only[World.size_alloc,World.size_drew];done)|(simp only[World.size_alloc,World.size_drew];omega))) _ _)));have hZ1:nT uN (w1.heap.size+1+1):=nT.gr mO (nT.gr rH (nT.drew (nT.new' (by first|(simp only[World.size_alloc,World.size_drew];done)|(simp only[World.size_alloc,World.size_drew];omega)))));have q0h:Hid (nT uN (w1.heap.size+1)):=vF;obtain⟨aPb,aPa,aO9,aO8,aO7,aO6,aO5,aO4,aO3,aO2,aO1,aO0,aOZ,aOY⟩:=vF;have q1h:Hid (nT uN (w1.heap.size+1+1)):=hZ1;obtain⟨aOX,aOW,aOV,aOU,aOT,aOS,aOR,aOQ,aOP,aOO,aON,aOM,aOL,aOK⟩:=hZ1)|(have vF:nT uN (w1.heap.size+1):=nT.gr mO (nT.alloc (nT.gr rH (nT.drew (nT.new' (by first|(simp only[World.size_alloc,World.size_drew];done)|(simp only[World.size_alloc,World.size_drew];omega))))) _ _);have hZ1:nT uN (EL.heap.size):=nT.gr mO (nT.new' rfl);have q0h:Hid (nT uN (w1.heap.size+1)):=vF;obtain⟨aPb,aPa,aO9,aO8,aO7,aO6,aO5,aO4,aO3,aO2,aO1,aO0,aOZ,aOY⟩:=vF;have q1h:Hid (nT uN (EL.heap.size)):=hZ1;obtain⟨aOX,aOW,aOV,aOU,aOT,aOS,aOR,aOQ,aOP,aOO,aON,aOM,aOL,aOK⟩:=hZ1)|(have vF:nT uN (EL.heap.size):=nT.gr mO (nT.alloc (nT.new' rfl) _ _);have hZ1:nT uN (EL.heap.size+1):=nT.gr mO (nT.new' (by first|(simp only[World.size_alloc,World.size_drew];done)|(simp only[World.size_alloc,World.size_drew];omega)));have q0h:Hid (nT uN (EL.heap.size)):=vF;obtain⟨aPb,aPa,aO9,aO8,aO7,aO6,aO5,aO4,aO3,aO2,aO1,aO0,aOZ,aOY⟩:=vF;have q1h:Hid (nT uN (EL.heap.size+1)):=hZ1;obtain⟨aOX,aOW,aOV,aOU,aOT,aOS,aOR,aOQ,aOP,aOO,aON,aOM,aOL,aOK⟩:=hZ1)|(have vF:nT uN (w1.heap.size+1):=nT.gr mO (nT.gr rH (nT.drew (nT.new' (by first|(simp only[World.size_alloc,World.size_drew];done)|(simp only[World.size_alloc,World.size_drew];omega)))));have q0h:Hid (nT uN (w1.heap.size+1)):=vF;have aRC:=(λob=>aZ ob vF.c0);have aRv:∀c t,dB (uN.alloc (.cells c t)) (w1.heap.size+1) 0:=(λc t=>cu vF.z0);have aRB:=(λob=>aZ ob vF.c1);have aRu:∀c t,dB (uN.alloc (.cells c t)) (w1.heap.size+1) 1:=(λc t=>cu vF.z1);have aRA:=(λob=>aZ ob vF.c2);have aRt:∀c t,dB (uN.alloc (.cells c t)) (w1.heap.size+1) 2:=(λc t=>cu vF.z2);have aRz:=(λob=>aZ ob vF.c3);have aRs:∀c t,dB (uN.alloc (.cells c t)) (w1.heap.size+1) 3:=(λc t=>cu vF.z3);have aRy:=(λob=>aZ ob vF.c4);have aRr:∀c t,dB (uN.alloc (.cells c t)) (w1.heap.size+1) 4:=(λc t=>cu vF.z4);have aRx:=(λob=>aZ ob vF.c5);have aRq:∀c t,dB (uN.alloc (.cells c t)) (w1.heap.size+1) 5:=(λc t=>cu vF.z5);have aRw:=(λob=>aZ ob vF.c6);have aRp:∀c t,dB (uN.alloc (.cells c t)) (w1.heap.size+1) 6:=(λc t=>cu vF.z6);clear vF)|(have vF:nT uN (EL.heap.size):=nT.gr mO (nT.new' rfl);have q0h:Hid (nT uN (EL.heap.size)):=vF;have aRC:=(λob=>aZ ob vF.c0);have aRv:∀c t,dB (uN.alloc (.cells c t)) EL.heap.size 0:=(λc t=>cu vF.z0);have aRB:=(λob=>aZ ob vF.c1);have aRu:∀c t,dB (uN.alloc (.cells c t)) EL.heap.size 1:=(λc t=>cu vF.z1);have aRA:=(λob=>aZ ob vF.c2);have aRt:∀c t,dB (uN.alloc (.cells c t)) EL.heap.size 2:=(λc t=>cu vF.z2);have aRz:=(λob=>aZ ob vF.c3);have aRs:∀c t,dB (uN.alloc (.cells c t)) EL.heap.size 3:=(λc t=>cu vF.z3);have aRy:=(λob=>aZ ob vF.c4);have aRr:∀c t,dB (uN.alloc (.cells c t)) EL.heap.size 4:=(λc t=>cu vF.z4);have aRx:=(λob=>aZ ob vF.c5);have aRq:∀c t,dB (uN.alloc (.cells c t)) EL.heap.size 5:=(λc t=>cu vF.z5);have aRw:=(λob=>aZ ob vF.c6);have aRp:∀c t,dB (uN.alloc (.cells c t)) EL.heap.size 6:=(λc t=>cu vF.z6);clear vF)|skip))))
  all_goals (go_wp2;go_meet)<;>(try (obtain⟨aUg,aUf,aUe,aUd,aUc,aUb,aUa,aT9,aT8,aT7,aT6,aT5,aT4,aT3⟩:=q0h.out))
  all_goals (try (obtain⟨aT2,aT1,aT0,aTZ,aTY,aTX,aTW,aTV,aTU,aTT,aTS,aTR,aTQ,aTP⟩:=q1h.out))<;>exact⟨_,_,rfl,rfl,{}⟩
 case rest=>
  clear HA HB;obtain⟨bx,bz,rfl,rfl,⟨qg,qx0,qx1,qx2,qx3,qx4,qx5,qx6,qy0,qy1,qy2,qy3,qy4,qy5,qy6⟩⟩:=hcut;rcases hc with⟨rfl,rfl,rfl⟩|⟨rfl,rfl,rfl,rfl⟩|⟨rfl,rfl,rfl,rfl⟩|⟨rfl,rfl,rfl⟩|⟨c,rfl,rfl⟩
  case inr.inr.inr.inr=>
   rcases c with rfl|rfl
   all_goals
    go_wp2_with (go_at_call 190;refine ku (HO _) λw3 aK=>?_);go_returns;exact⟨rfl,Gr.g⟩
  all_goals
   clear HO;go_wp2;go_returns;exact⟨rfl,Gr.g⟩
