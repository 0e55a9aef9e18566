import Derived.Test.YthoelefkjpjhfaaGreatDoorK2
import Derived.Deep.Cut
set_option linter.all false
set_option maxRecDepth 1000000
set_option maxHeartbeats 40000000
open Go.Proofs.YthoelefkjpjhfaaGreatDoor renaming vI → J, vU → Y
open Go.Proofs.Tryz
namespace Go.Proofs.YthoelefkjpjhfaaGreatDoor
open Go.RowKit
attribute [local go_sem] aB dL
variable {o:Ops}{w w':ak}{b m:Nat}{a a1 a2 b1 b2 x0 x1 x2 x3:Int}{k:IntKind}{g:Nat->Int}
def xO:∀(z fl:Int) (w:ak),(Instr.field 100 (aU z fl) 0).run prog w=.ok (Y z) w:=λz fl w=>by kernel_rfl
def aAX(H:o.S){b:Int}(ha:Wd a)(hb:Wd b)(w:ak):
  QB 212 #[Y a,Y b] w (Y (o.add a b)):=by
 have hf:=xO;have HA:=H.add ha hb;generalize o.add a b=z at*
 clear ha hb H;go_enter func212,ntmps212;go_wp2_with (go_at_call 62;refine(HA _).mono ?_;rintro e w1 ⟨fl,rfl,au⟩);go_returns;exact⟨rfl,kg⟩
def aCE(H:o.S){b:Int}(ha:Wd a)(hb:Wd b)(w:ak):
  QB 127 #[Y a,Y b] w (Y (o.sub a b)):=by
 have hf:=xO;have HA:=H.sub ha hb;generalize o.sub a b=z at*
 clear ha hb H;go_enter func127,ntmps127;go_wp2_with (go_at_call 63;refine(HA _).mono ?_;rintro e w1 ⟨fl,rfl,au⟩);go_returns;exact⟨rfl,kg⟩
def Um(H:o.S){b:Int}(ha:Wd a)(hb:Wd b)(w:ak):
  QB 112 #[Y a,Y b] w (Y (o.mul a b)):=by
 have hf:=xO;have HA:=H.mul ha hb;generalize o.mul a b=z at*
 clear ha hb H;go_enter func112,ntmps112;go_wp2_with (go_at_call 64;refine(HA _).mono ?_;rintro e w1 ⟨fl,rfl,au⟩);go_returns;exact⟨rfl,kg⟩
def MX(H:o.S)(n:Int)(n0:-2047<=n)(n1:n<=2047)(w:ak):
  QB 111 #[J n] w (Y (o.int n)):=by
 have hf:=xO;have hw:IntKind.u64.wrap n=n%18446744073709551616:=iT n;have HA:=H.int n (n%18446744073709551616) n0 n1 rfl;generalize o.int n=z at*
 generalize n%18446744073709551616=u at*
 clear H;go_enter func111,ntmps111;go_wp2_with (go_at_call 60;refine(HA _).mono ?_;rintro e w1 ⟨fl,rfl,au⟩);go_returns;exact⟨rfl,kg⟩
def aIk(H:o.S)(HI:o.In)(w:ak):
  QB 113 #[] w (Y 4602678819172646912):=by
 have hf:=xO;have H1:KB 111 #[J 1] (Y 4607182418800017408):=λw=>by have:=MX H 1 om om w;rw[H.one]at this;exact this
 have H2:KB 111 #[J 2] (Y (o.int 2)):=λw=>MX H 2 om om w;have HA:=H.div D7 (HI.int 2);rw[H.half]at HA;generalize o.int 2=t at*
 clear H HI;go_enter func113,ntmps113;go_wp2_with (first|(go_at_call 111;first|(with_reducible refine ku (H1.out _) λw1 au=>?_)|(with_reducible refine ku (H2.out _) λw2 aC=>?_))|(go_at_call 66;refine(HA _).mono ?_;rintro e w3 ⟨fl,rfl,aO⟩))
 go_returns;exact⟨rfl,kg⟩
def WS(ha:Wd a)(w:ak):
  QB 213 #[Y a] w (Y (yD a)):=by
 obtain⟨p,mx,one,aN,sg,nan,hF⟩:∃p mx one aN sg nan,bI 1 p mx one aN sg nan:=⟨_,_,_,_,_,_,.inr ⟨rfl,rfl,rfl,rfl,rfl,rfl,rfl⟩⟩;have HT:KW 145 #[J 1,Y a] (Y (yD a)):=λw=>by
  rcases hF with⟨h,_⟩|⟨_,rfl,rfl,rfl,rfl,rfl,rfl⟩
  .omega
  .exact FB (.inr ⟨rfl,rfl,rfl,rfl,rfl,rfl,rfl⟩) a (yD a) ha.1 (by have:=ha.2;omega) (by unfold yD;split<;>omega) w
 go_enter func213,ntmps213;go_wp2_with (go_at_call 145;refine kw (HT _) ?_);go_returns;exact⟨rfl,kg⟩
def aIO(H:o.S)(kG:Wd a1)(sD:Wd a2)(iF:Wd b1)(mY:Wd b2)(w:ak):
  QB 210 #[aS a1 a2,aS b1 b2] w (aS (o.add a1 b1) (o.add a2 b2)):=by
 have HP:Hid (∀a b,Wd a->Wd b->∀w',QB 212 #[Y a,Y b] w' (Y (o.add a b))):=λa b ha hb w'=>aAX H ha hb w';clear H;go_enter func210,ntmps210;go_wp2;go_region_held3 (λw'=>lW w' w.heap.size 0 1 (Y a1) (Y a2)/\lW w' (w.heap.size+1) 0 1 (Y b1) (Y b2))(exact qj)(first|(go_at_call 212;with_reducible refine ku (HP.out _ _ (by assumption) (by assumption) _) λw1 au=>?_;have:=au.CX w;have:=au.TQ w;have qN:=au.VT w))
 all_goals
  go_wp2;exact dX (by simp[results,results210,go_sem,qN])
def aCZ(H:o.S)(kG:Wd a1)(sD:Wd a2)(iF:Wd b1)(mY:Wd b2)(w:ak):
  QB 211 #[aS a1 a2,aS b1 b2] w (aS (o.sub a1 b1) (o.sub a2 b2)):=by
 have HP:Hid (∀a b,Wd a->Wd b->∀w',QB 127 #[Y a,Y b] w' (Y (o.sub a b))):=λa b ha hb w'=>aCE H ha hb w';clear H;go_enter func211,ntmps211;go_wp2;go_region_held3 (λw'=>lW w' w.heap.size 0 1 (Y a1) (Y a2)/\lW w' (w.heap.size+1) 0 1 (Y b1) (Y b2))(exact qj)(first|(go_at_call 127;with_reducible refine ku (HP.out _ _ (by assumption) (by assumption) _) λw1 au=>?_;have:=au.CX w;have:=au.TQ w;have qN:=au.VT w))
 all_goals
  go_wp2;exact dX (by simp[results,results211,go_sem,qN])
def aLp(H:o.S)(HI:o.In)(kG:Wd a1)(sD:Wd a2)(w:ak):
  QB 214 #[aS a1 a2] w (aS (o.mul a1 4602678819172646912) (o.mul a2 4602678819172646912)):=by
 have hh:=xA;have HP:Hid (∀a b,Wd a->Wd b->∀w',QB 112 #[Y a,Y b] w' (Y (o.mul a b))):=λa b ha hb w'=>Um H ha hb w';have HH:KB 113 #[] (Y 4602678819172646912):=λw'=>aIk H HI w';clear H HI;go_enter func214,ntmps214;go_wp2;go_region_held3 (λw'=>lW w' w.heap.size 0 1 (Y a1) (Y a2))(exact qj)(first|(go_at_call 113;with_reducible refine ku (HH.out _) λw1 au=>?_;have:=au.CX w;have qN:=au.Y21 w)|(go_at_call 112;with_reducible refine ku (HP.out _ _ (by assumption) (by assumption) _) λw1 au=>?_;have:=au.CX w;have qN:=au.Y21 w))
 all_goals
  go_wp2;exact dX (by simp[results,results214,go_sem,qN])
def VJ(H:o.S)(HI:o.In)(kG:Wd a1)(sD:Wd a2)(iF:Wd b1)(mY:Wd b2)(w:ak):
  QB 122 #[aS a1 a2,aS b1 b2] w (aS (o.sub (o.mul a1 b1) (o.mul a2 b2)) (o.add (o.mul a1 b2) (o.mul a2 b1))):=by
 have h11:=HI.mul kG iF;have h22:=HI.mul sD mY;have h12:=HI.mul kG mY;have h21:=HI.mul sD iF;have HT:Hid (∀a b,Wd a->Wd b->∀w',QB 112 #[Y a,Y b] w' (Y (o.mul a b))):=λa b ha hb w'=>Um H ha hb w';have HM:KB 127 #[Y (o.mul a1 b1),Y (o.mul a2 b2)] (Y (o.sub (o.mul a1 b1) (o.mul a2 b2))):=λw'=>aCE H h11 h22 w';have HP:KB 212 #[Y (o.mul a1 b2),Y (o.mul a2 b1)] (Y (o.add (o.mul a1 b2) (o.mul a2 b1))):=λw'=>aAX H h12 h21 w';clear h11 h22 h12 h21 H HI;go_enter func122,ntmps122;go_wp2;go_region_held3 (λw'=>lW w' w.heap.size 0 1 (Y a1) (Y a2)/\lW w' (w.heap.size+1) 0 1 (Y b1) (Y b2))(exact qj)(first|(go_at_call 112;with_reducible refine ku (HT.out _ _ (by assumption) (by assumption) _) λw1 au=>?_;have:=au.CX w;have:=au.TQ w;have qN:=au.VT w)|(go_at_call 127;with_reducible refine ku (HM.out _) λw1 au=>?_;have:=au.CX w;have:=au.TQ w;have qN:=au.VT w)|(go_at_call 212;with_reducible refine ku (HP.out _) λw1 au=>?_;have:=au.CX w;have:=au.TQ w;have qN:=au.VT w))
 all_goals
  go_wp2;exact dX (by simp[results,results122,go_sem,qN])
def O1:(prog.info? 123).map (λi=>(i.zero,i.size,i.bytes))=some (some (aS 0 0),2,16):=by kernel_rfl
def aCY(h0:aB w b 0 (.int k x0))(h1:aB w b 1 (.int k x1))(h2:aB w b 2 (.int k x2))(h3:aB w b 3 (.int k x3))
  (e0:g (m+0)=x0) (e1:g (m+1)=x1) (e2:g (m+2)=x2) (e3:g (m+3)=x3):∀j,j<2*2->aB w b j (.int k (g (m+j))):=by
 intro j hj
 match j,hj with
 |0,_=>rw[e0];exact h0
 |1,_=>rw[e1];exact h1
 |2,_=>rw[e2];exact h2
 |3,_=>rw[e3];exact h3
def Qd(o:Ops)(k:Nat):Prop:=∀w,CT 209 #[J k] w λe w'=>∃v,e=.returned v/\Ow w' w.heap.size 123 2 .u64 v (2^(k-1)) (flat (o.rt k))/\Gb w w'
def aEa(H:o.S):Qd o 1:=by
 intro w;have H1:KB 111 #[J 1] (Y 4607182418800017408):=λw=>by have:=MX H 1 om om w;rw[H.one]at this;exact this
 clear H;show CT 209 #[J 1] w _;go_enter func209,ntmps209;go_wp2_with (go_at_call 111;refine ku (H1 _) λw1 au=>?_);go_returns;refine⟨_,rfl,?_,kg⟩;have:=MZ (base:=w.heap.size) (e:=123) (size:=2) w1 #[Y 0,Y 4607182418800017408] 1 au.size de rfl;exact this
def aAK(H:o.S)(HI:o.In)(k:Nat)(hk:k+2<=6)(IH:Qd o (k+1)):Qd o (k+2):=by
 intro w;have H1:KB 111 #[J 1] (Y 4607182418800017408):=λw=>by have:=MX H 1 om om w;rw[H.one]at this;exact this
 have HH:KB 113 #[] (Y 4602678819172646912):=λw'=>aIk H HI w';unfold Qd at IH;have hjj:((k+2:Nat):Int)-1=((k+1:Nat):Int):=om;obtain⟨m,hm⟩:=x_n (2^k);have Dp:0<m:=by rw[hm];exact iQ de
 have LY:m<=64:=by
  rw[hm];have:=pU (show 0<2 by decide) (om:k<=6);omega
 have HM:Hid _:=hm;have hIH:Hid (∀w',CT 209 #[J ((k:Int)+2-1)] w' λe bf=>∃b cap,e=.returned (aF b m cap)/\w'.heap.size<=b/\b<bf.heap.size/\(∀j,j<m*2->aB bf b j (Y (flat (o.rt (k+1)) j)))/\Gb w' bf):=λw'=>by
  rw[(om:(k:Int)+2-1=((k+1:Nat):Int))];refine(IH w').mono λe bf ⟨v,e1,e2,e3⟩=>?_;rw[(om:k+1-1=k),<-hm]at e2;obtain⟨b,cap,rfl,c1,c2,_,_,c3⟩:=e2.at Dp;exact⟨b,cap,e1,c1,c2,λj hj=>(c3 j hj).1,e3⟩
 have HPl:Hid (∀a b,Wd a->Wd b->∀w',QB 212 #[Y a,Y b] w' (Y (o.add a b))):=λa b ha hb w'=>aAX H ha hb w';have HTi:Hid (∀a b,Wd a->Wd b->∀w',QB 112 #[Y a,Y b] w' (Y (o.mul a b))):=λa b ha hb w'=>Um H ha hb w';have HSq:Hid (∀a,Wd a->∀w',CT 67 #[J 1,J 0,Y a] w' λe bf=>∃fl:Int,e=.returned (aU (o.sqrt a) fl)/\Gb w' bf):=λa ha w'=>(H.sqrt ha).out w';have HDv:Hid (∀a b,Wd a->Wd b->∀w',CT 66 #[J 1,J 0,Y a,Y b] w' λe bf=>∃fl:Int,e=.returned (aU (o.div a b) fl)/\Gb w' bf):=λa b ha hb w'=>(H.div ha hb).out w';have HTn:Hid (∀a,Wd a->∀w',QB 213 #[Y a] w' (Y (yD a))):=λa ha w'=>WS ha w';have hf:=xO;have HW:Hid _:=HI;clear hm IH H HI;have k1:¬(k:Int)+2<1:=om;have k2:¬(6:Int)<(k:Int)+2:=om;have k3:((k:Int)+2==1)=false:=jA;go_enter func209,ntmps209;go_wp2_with (go_at_call 209;with_reducible refine(hIH.out _).mono ?_;rintro e w2 ⟨b,cap,rfl,t_,iF,hbc,aC⟩);have qY:=aC.size;simp only[dV]at qY t_;go_loopw [3,5] (λf i wr=>∃j:Nat,j<=m/\i=J j/\Ow wr w.heap.size 123 2 .u64 f (2*j) (flat (o.rt (k+2)))/\f.ownBlock≠some b/\b<wr.heap.size/\Hid (∀q,q<m*2->aB wr b q (Y (flat (o.rt (k+1)) q)))/\Gb w wr) (λ_ i _=>m-(intOf i).toNat)
 case atStart=>exact⟨0,fV _,rfl,Ow.gb (Ow.lit w _ _ _ _) aC,(by simp only[Value.ownBlock,ne_eq,Option.some.injEq];omega),iF,hbc,kg⟩
 case round=>
  obtain⟨j,hj,rfl,jv,lM,Iu,HBC,dQ⟩:=hrel;have HO:Hid _:=jv;have HNE:Hid _:=lM;have hzr:=dQ.size;clear jv lM;by_cases hjm:j<m
  .have FN:(j:Int)<(m:Int):=om;obtain⟨a1,kG⟩:=x_n ((o.rt (k+1) j).1);obtain⟨a2,sD⟩:=x_n ((o.rt (k+1) j).2);have q0:wr.cell? ⟨b,j*2,none⟩=some (Y a1):=by rw[kG,<-fO,dM];exact HBC (2*j) om
   have q1:wr.cell? ⟨b,j*2+1,none⟩=some (Y a2):=by rw[sD,<-fP,dM];exact HBC (2*j+1) om
   have wa1:Wd a1:=by rw[kG];exact(HW.out.rt _ _).1
   have wa2:Wd a2:=by rw[sD];exact(HW.out.rt _ _).2
   have wo:=D7;have wh:=xA;obtain⟨s,hs⟩:=dP (o.add Q8 a1);have ws:=HW.out.add wo wa1;rw[hs]at ws;obtain⟨t,ht⟩:=dP (o.mul s KG);have wt:=HW.out.mul ws wh;rw[ht]at wt;obtain⟨r,hr⟩:=dP (o.sqrt t);have wr1:=HW.out.sqrt wt;rw[hr]at wr1;obtain⟨y,hy⟩:=dP (o.add r r);have wy:=HW.out.add wr1 wr1;rw[hy]at wy;obtain⟨x,hx⟩:=dP (o.div a2 y);have wx:=HW.out.div wa2 wy;rw[hx]at wx;have H2:=HPl _ _ wo wa1;rw[hs]at H2;have H3:=HTi _ _ ws wh;rw[ht]at H3;have H4:=HSq _ wt;rw[hr]at H4;have H5:=HPl _ _ wr1 wr1;rw[hy]at H5;have H6:=HDv _ _ wa2 wy;rw[hx]at H6;have H7:=HTn _ wr1;have H8:=HTn _ wx;have G2:Hid _:=H2;have G3:Hid _:=H3;have G4:Hid _:=H4;have G5:Hid _:=H5;have G6:Hid _:=H6;have G7:Hid _:=H7;have G8:Hid _:=H8;have er:o.root (o.rt (k+1) j)=(r,x):=by
    unfold Ops.root Ops.vK;rw[<-kG,<-sD,hs,ht,hr,hy,hx]
   have r0:o.rt (k+2) (2*j)=(r,x):=by
    simp only[Ops.rt];rw[aQ om,(om:2*j/2=j),er]
   have r1:o.rt (k+2) (2*j+1)=(yD r,yD x):=by
    simp only[Ops.rt];rw[aH om,(om:(2*j+1)/2=j),er];rfl
   have e0:Hid (flat (o.rt (k+2)) (2*j*2+0)=r):=by show _=_;rw[(om:2*j*2+0=2*(2*j)),fO,r0]
   have e1:Hid (flat (o.rt (k+2)) (2*j*2+1)=x):=by show _=_;rw[(om:2*j*2+1=2*(2*j)+1),fP,r0]
   have e2:Hid (flat (o.rt (k+2)) (2*j*2+2)=yD r):=by show _=_;rw[(om:2*j*2+2=2*(2*j+1)),fO,r1]
   have e3:Hid (flat (o.rt (k+2)) (2*j*2+3)=yD x):=by show _=_;rw[(om:2*j*2+3=2*(2*j+1)+1),fP,r1]
   generalize yD r=t1 at*
   generalize yD x=t2 at*
   clear H2 H3 H4 H5 H6 H7 H8 er r0 r1 hs ht hr hy hx ws wt wr1 wy wx wa1 wa2 wo wh kG sD HPl HTi HSq HDv HTn;go_wp2;go_region_held3 (λw'=>lW w' wr.heap.size 0 1 (Y a1) (Y a2))(exact qj)(first|(go_at_call 111;with_reducible refine ku (H1.out _) λw3 aO=>?_)|(go_at_call 212;with_reducible refine ku (G2.out _) λw3 aO=>?_)|(go_at_call 113;with_reducible refine ku (HH.out _) λw3 aO=>?_)|(go_at_call 112;with_reducible refine ku (G3.out _) λw3 aO=>?_)|(go_at_call 67;with_reducible refine(G4.out _).mono ?_;rintro e w3 ⟨fl,rfl,aO⟩))
   all_goals
    (try go_split_ands)
    go_wp2;go_region_held3 (λw'=>lW w' wr.heap.size 0 1 (Y a1) (Y a2))(exact qj)(first|(go_at_call 212;with_reducible refine ku (G5.out _) λw4 bg=>?_)|(go_at_call 66;with_reducible refine(G6.out _).mono ?_;rintro e w4 ⟨fl2,rfl,bg⟩))
    all_goals
     go_wp2_with (first|(go_at_call 213;first|(with_reducible refine ku (G7.out _) λw5 bT=>?_)|(with_reducible refine ku (G8.out _) λw6 gG=>?_;have hGO:Gb wr w6:=kg;have hz6:=hGO.size))|(at_builtin;refine nC rfl _ _ 119 rfl 123 (.agg #[Y 0,Y 0]) 2 16 .u64 underlying119 O1 rfl de de w.heap.size (2*j) 2 (flat (o.rt (k+2))) _ w6.heap.size rfl (Ow.alloc (Ow.gb HO.out hGO) _) rfl (aCY j_ j_ j_ j_ e0.out e1.out e2.out e3.out) om om (by simp[go_sem];omega) ?_;intro v' w7 aRi hb7 hk7 aUa))
     go_roundw
     case rel=>
      refine⟨j+1,om,jS,aRi,?_,?_,?_,Gb.below kg hb7 (dJ _)⟩
      .rcases aUa with e|e
       .rw[e];exact HNE.out
       .rw[e];simp[go_sem];omega
      .have:=hb7.size;simp only[dV]at this;omega
      .exact λq hq=>hk7 _ _ _ (bC _ (hGO.old (HBC q hq))) HNE.out
     case measure=>exact qL
  .obtain rfl:j=m:=om;have FN:¬(j:Int)<(j:Int):=om;go_wp2;go_returns;refine⟨_,rfl,?_,dQ⟩;have e2m:2*j=2^(k+1):=by have:=HM.out;rw[jE];omega
   rw[<-e2m];exact HO.out
def UD(H:o.S)(HI:o.In):∀k:Nat,1<=k->k<=6->Qd o k
 |0,h,_=>bG h om
 |1,_,_=>aEa H
 |k+2,_,h=>aAK H HI k h (UD H HI (k+1) om om)
def Vg:(prog.info? 71).map (λi=>(i.zero,i.size,i.bytes))=some (some (Y 0),1,8):=by kernel_rfl
def aNX(k:Nat)(hk:k<=60)(w:ak):QW 46 #[J k] w (J ((2^k:Nat):Int)):=by
 go_enter func46,ntmps46;go_wp2;go_loopw [3,4] (λn i wr=>∃j:Nat,∃p:Nat,j<=k/\i=J j/\n=J (p:Int)/\Hid (p=2^j)/\w=wr) (λ_ i _=>k-(intOf i).toNat)
 case atStart=>exact⟨0,1,fV _,rfl,rfl,rfl,rfl⟩
 case round=>
  obtain⟨j,p,hj,rfl,rfl,HP,rfl⟩:=hrel;by_cases fJ:j<k
  .have iV:(j:Int)<(k:Int):=om;obtain⟨q,hq⟩:=x_n (p*2);have hp:p<=1152921504606846976:=by
    rw[HP.out];have:=pU (show 0<2 by decide) (om:j<=60);omega
   have u:IntKind.i64.wrap ((p:Int)*2)=(q:Int):=by rw[dI];omega
   have HQ:Hid (q=2^(j+1)):=by show _=_;rw[hq,HP.out,jE]
   clear hq;go_wp2;go_roundw
   case rel=>exact⟨j+1,q,om,jS,rfl,HQ.out,trivial⟩
   case measure=>exact qL
  .obtain rfl:j=k:=om;have FN:¬(j:Int)<(j:Int):=om;go_wp2;go_returns;have e:((2^j:Nat):Int)=(p:Int):=by rw[HP.out]
   refine⟨b_ ?_,rfl⟩;have e2:(2:Int)^j=(p:Int):=by rw[<-e];simp
   first|(rw[e2];rfl)|(rw[e];rfl)
def xI(K:Int)(k:Nat)(hK:K=(k:Int))(hk:k<=60)(N:Int)(hN:N=((2^k:Nat):Int))(w:ak):QW 46 #[J K] w (J N):=by
 subst hK hN;exact aNX k hk w
def CS(h0:aB w b 0 (.int k x0))(e0:g (m+0)=x0):∀j,j<1*1->aB w b j (.int k (g (m+j))):=by
 intro j hj
 match j,hj with
 |0,_=>rw[e0];exact h0
def aPT(c:Nat):Prop:=∀(w:ak) (v:Value) (L h:Nat) (cs:Nat->Int),Rd w .u64 v L L cs->L=2*h->0<h->h<=100->
 CT 208 #[v,J (c:Int)] w λe w'=>∃v',e=.returned v'/\Ow w' w.heap.size 71 1 .u64 v' h (λm=>cs (2*m+c))/\Gb w w'
def aK9(c:Nat)(hc:c<=1):aPT c:=by
 intro w v L h cs hr hL jZ hh;obtain⟨b,cap,rfl,h1,h2,aW⟩:=hr.at om;have HC:Hid _:=aW;have HL:Hid _:=hL;have L6:L<=200:=om;have hb:=aA (aW 0 om);clear hr aW hL;go_enter func208,ntmps208;go_wp2;go_loopw [5,6] (λf i wr=>∃j q:Nat,j<=h/\i=J (q:Int)/\Hid (q=2*j+c)/\Ow wr w.heap.size 71 1 .u64 f j (λm=>cs (2*m+c))/\Gb w wr) (λ_ i _=>2*h+2-(intOf i).toNat)
 case atStart=>exact⟨0,c,fV _,rfl,by show _=_;omega,Ow.lit w _ _ _ _,kg⟩
 case round=>
  obtain⟨j,q,hj,rfl,HQ,jv,dQ⟩:=hrel;have hq:=HQ.out;have hLL:=HL.out;have hqs:q<=400:=om;have HO:Hid _:=jv;have qY:=dQ.size;by_cases fJ:j<h
  .have iV:(q:Int)<(L:Int):=om;obtain⟨x,hx⟩:=dP (cs q);have x0:wr.cell? ⟨b,q,none⟩=some (Y x):=by rw[<-hx];exact dQ.old (HC q om)
   have e0:Hid ((λm=>cs (2*m+c)) (j*1+0)=x):=by show _=_;rw[<-hx,hq];congr 1;omega
   obtain⟨q',hq'⟩:=x_n (q+2);have u:IntKind.i64.wrap ((q:Int)+2)=(q':Int):=by rw[dI];omega
   have HQ':Hid _:=hq';have HC1:Hid (aB (wr.alloc (.cells #[Y x] 71)) wr.heap.size 0 (Y x)):=by show _=_;simp[go_sem]
   have HOa:=λob=>Ow.alloc jv ob;clear jv hx hq hLL hq';go_wp2_with (at_builtin;refine nC rfl _ _ 47 rfl 71 (Y 0) 1 8 .u64 underlying47 Vg rfl de de w.heap.size j 1 (λm=>cs (2*m+c)) _ wr.heap.size rfl (HOa _) rfl (CS (g:=λm=>cs (2*m+c)) (m:=j*1) HC1.out e0.out) om om (by rw[dV];omega) ?_;intro v' w1 jm iF _ _);go_roundw
   case rel=>exact⟨j+1,q',om,rfl,by show _=_;have:=HQ'.out;have:=HQ.out;omega,jm,Gb.below kg iF (dJ _)⟩
   case measure=>have:=HQ'.out;have:=HQ.out;simp[intOf]<;>omega
  .obtain rfl:j=h:=om;have iV:¬(q:Int)<(L:Int):=om;clear jv hq hLL;go_wp2;go_returns;exact⟨_,rfl,HO.out,dQ⟩
def aLa(C:Int)(c:Nat)(hC:C=(c:Int))(hc:c<=1)(w:ak)(v:Value)(L h:Nat)(cs:Nat->Int)(hr:Rd w .u64 v L L cs)(hL:L=2*h)(jZ:0<h)(hh:h<=100):
  CT 208 #[v,J C] w λe w'=>∃v',e=.returned v'/\Ow w' w.heap.size 71 1 .u64 v' h (λm=>cs (2*m+c))/\Gb w w':=by
 subst hC;exact aK9 c hc w v L h cs hr hL jZ hh
structure pX (w:ak) (b:Nat):Prop where
 c0:aB w b 0 (J 0)
 c1:aB w b 1 (J 0)
 c2:aB w b 2 (J 0)
 c3:aB w b 3 (Y 0)
 c4:aB w b 4 (Y 0)
 c5:aB w b 5 (.bool false)
 c6:aB w b 6 (J 0)
 z0:dL w b 0
 z1:dL w b 1
 z2:dL w b 2
 z3:dL w b 3
 z4:dL w b 4
 z5:dL w b 5
 z6:dL w b 6
def pX.new(w:ak):pX (w.alloc (.cells #[J 0,J 0,J 0,Y 0,Y 0,.bool false,J 0] 187)) w.heap.size:=by constructor<;>simp[go_sem]
def pX.new'(hb:b=w.heap.size):pX (w.alloc (.cells #[J 0,J 0,J 0,Y 0,Y 0,.bool false,J 0] 187)) b:=by subst hb;exact pX.new w
def pX.alloc(h:pX w b)(c:Array Value)(t:TypeId):pX (w.alloc (.cells c t)) b:=⟨bC _ h.c0,bC _ h.c1,bC _ h.c2,bC _ h.c3,bC _ h.c4,bC _ h.c5,bC _ h.c6,dw h.z0,dw h.z1,dw h.z2,dw h.z3,dw h.z4,dw h.z5,dw h.z6⟩
def pX.gr(g:Gr w w')(h:pX w b):pX w' b:=⟨g.old h.c0,g.old h.c1,g.old h.c2,g.old h.c3,g.old h.c4,g.old h.c5,g.old h.c6,iY g h.z0,iY g h.z1,iY g h.z2,iY g h.z3,iY g h.z4,iY g h.z5,iY g h.z6⟩
def pX.drew(h:pX w b):pX w.drew b:=⟨h.c0,h.c1,h.c2,h.c3,h.c4,h.c5,h.c6,h.z0,h.z1,h.z2,h.z3,h.z4,h.z5,h.z6⟩
def zf(o:Nat):Value:=if o=5 then .bool false else if o=3\/o=4 then Y 0 else J 0
def pX.r(h:pX w b):∀o,o<7->aB w b o (zf o):=λo ho=>by
 rcases(om:o=0\/o=1\/o=2\/o=3\/o=4\/o=5\/o=6)with rfl|rfl|rfl|rfl|rfl|rfl|rfl
 .exact h.c0
 .exact h.c1
 .exact h.c2
 .exact h.c3
 .exact h.c4
 .exact h.c5
 .exact h.c6
def pX.f(h:pX w b):∀o,o<7->dL w b o:=λo ho=>by
 rcases(om:o=0\/o=1\/o=2\/o=3\/o=4\/o=5\/o=6)with rfl|rfl|rfl|rfl|rfl|rfl|rfl
 .exact h.z0
 .exact h.z1
 .exact h.z2
 .exact h.z3
 .exact h.z4
 .exact h.z5
 .exact h.z6
structure aSw (w wx:ak) (bx bz:Nat) (sx ex cx xh xl sy ey cy yh yl:Int) (tx ty:Bool):Prop where
 g:Gr w wx:=by exact kr
 x0:aB wx bx 0 (J sx):=by exact kl
 x1:aB wx bx 1 (J ex):=by exact kl
 x2:aB wx bx 2 (J cx):=by exact kl
 x3:aB wx bx 3 (Y xh):=by exact kl
 x4:aB wx bx 4 (Y xl):=by exact kl
 x5:aB wx bx 5 (.bool tx):=by exact kl
 x6:aB wx bx 6 (J 0):=by exact kl
 y0:aB wx bz 0 (J sy):=by exact kl
 y1:aB wx bz 1 (J ey):=by exact kl
 y2:aB wx bz 2 (J cy):=by exact kl
 y3:aB wx bz 3 (Y yh):=by exact kl
 y4:aB wx bz 4 (Y yl):=by exact kl
 y5:aB wx bz 5 (.bool ty):=by exact kl
 y6:aB wx bz 6 (J 0):=by exact kl
def aPt(f a b:Int)(s:Bool)(HF:KR 168 #[J f] (.tuple #[lT 0 0 0,.bool false]))(w:ak):
  QR 101 #[J f,Y a,Y b,.bool s] w (.tuple #[J 2,J 1]):=by
 go_enter func101,ntmps101;go_wp2_with (go_at_call 168;refine ku (HF _) λw1 au=>?_);go_returns;exact⟨rfl,Gr.g⟩
def aPs(p mn mx f a b sx ex cx xh xl sy ey cy yh yl m r fl d:Int)(tx ty s:Bool)(HF:Hid (∀w',Gr w w'->KP f w' p mn mx true))
  (HA:rH p mn mx a sx ex cx xh xl tx 0) (HB:rH p mn mx b sy ey cy yh yl ty 0)
  (hm:max cx cy=m) (hc:m=4/\r=2/\fl=1\/m=3/\s=true/\r=2/\fl=1\/m=3/\s=false/\r=2/\fl=0\/m=0/\r=0/\fl=0\/(m=1\/m=2)/\r=d/\fl=0)
  (HO:Zz sx ex cx xh xl tx 0 sy ey cy yh yl ty d):
  QR 101 #[J f,Y a,Y b,.bool s] w (.tuple #[J r,J fl]):=by
 go_enter func101,ntmps101;go_wp2_with (go_at_call 168;refine ku (HF _ Gr.g) λw1 au=>?_;have aCK:w.heap.size<=w1.heap.size:=au.size);go_cut [12,13] (λs12 s13 wx=>∃bx bz:Nat,s12=.pointer (some ⟨bx,0,none⟩)/\s13=.pointer (some ⟨bz,0,none⟩)/\aSw w wx bx bz sx ex cx xh xl sy ey cy yh yl tx ty)
 case first=>
  clear HO HF hm hc;go_region_held3 (λw'=>jU w' w1.heap.size 0 1 2 (J p) (J mn) (J mx))(exact qX)(first|(go_at_call 174;first|((with_reducible refine(HA.out _).mono ?_);rintro e GI ⟨rfl,uD⟩;have:=uD.C30 w1;have aBx:=uD.size;(try simp only[dV,jg,jW]at aBx);(try (have kG:¬w1.heap.size+1=GI.heap.size:=om));(try (have sD:¬GI.heap.size=w1.heap.size+1:=om));(try (have ha3:¬w1.heap.size+1+1=GI.heap.size:=om));(try (have ha4:¬GI.heap.size=w1.heap.size+1+1:=om)))|((with_reducible refine(HB.out _).mono ?_);rintro e xG ⟨rfl,oH⟩;have:=oH.C30 w1;have aBw:=oH.size;(try simp only[dV,jg,jW]at aBw);(try (have ha5:¬w1.heap.size+1=xG.heap.size:=om));(try (have ha6:¬xG.heap.size=w1.heap.size+1:=om));(try (have ha7:¬w1.heap.size+1+1=xG.heap.size:=om));(try (have ha8:¬xG.heap.size=w1.heap.size+1+1:=om));(try (have ha9:¬GI.heap.size=xG.heap.size:=om));(try (have aWm:¬xG.heap.size=GI.heap.size:=om));(try (have aWl:¬GI.heap.size+1=xG.heap.size:=om));(try (have aWk:¬xG.heap.size=GI.heap.size+1:=om));(first|(have yw:pX xG (w1.heap.size+1):=pX.gr oH (pX.gr uD (pX.drew (pX.alloc (pX.new' (by first|(simp only[dV,jg];done)|(simp only[dV,jg];omega))) _ _)));have hZ1:pX xG (w1.heap.size+1+1):=pX.gr oH (pX.gr uD (pX.drew (pX.new' (by first|(simp only[dV,jg];done)|(simp only[dV,jg];omega)))));have q0h:Hid (pX xG (w1.heap.size+1)):=yw;obtain⟨aQW,aQV,aQU,aQT,aQS,aQR,aQQ,aQP,aQO,aQN,aQM,aQL,aQK,aQJ⟩:=yw;have q1h:Hid (pX xG (w1.heap.size+1+1)):=hZ1;obtain⟨aQI,aQH,aQG,aQF,aQE,aQD,aQC,aQB,aQA,aQz,aQy,aQx,aQw,aQv⟩:=hZ1)|(have yw:pX xG (w1.heap.size+1):=pX.gr oH (pX.alloc (pX.gr uD (pX.drew (pX.new' (by first|(simp only[dV,jg];done)|(simp only[dV,jg];omega))))) _ _);have hZ1:pX xG (GI.heap.size):=pX.gr oH (pX.new' rfl);have q0h:Hid (pX xG (w1.heap.size+1)):=yw;obtain⟨aQW,aQV,aQU,aQT,aQS,aQR,aQQ,aQP,aQO,aQN,aQM,aQL,aQK,aQJ⟩:=yw;have q1h:Hid (pX xG (GI.heap.size)):=hZ1;obtain⟨aQI,aQH,aQG,aQF,aQE,aQD,aQC,aQB,aQA,aQz,aQy,aQx,aQw,aQv⟩:=hZ1)|(have yw:pX xG (GI.heap.size):=pX.gr oH (pX.alloc (pX.new' rfl) _ _);have hZ1:pX xG (GI.heap.size+1):=pX.gr oH (pX.new' (by first|(simp only[dV,jg];done)|(simp only[dV,jg];omega)));have q0h:Hid (pX xG (GI.heap.size)):=yw;obtain⟨aQW,aQV,aQU,aQT,aQS,aQR,aQQ,aQP,aQO,aQN,aQM,aQL,aQK,aQJ⟩:=yw;have q1h:Hid (pX xG (GI.heap.size+1)):=hZ1;obtain⟨aQI,aQH,aQG,aQF,aQE,aQD,aQC,aQB,aQA,aQz,aQy,aQx,aQw,aQv⟩:=hZ1)|(have yw:pX xG (w1.heap.size+1):=pX.gr oH (pX.gr uD (pX.drew (pX.new' (by first|(simp only[dV,jg];done)|(simp only[dV,jg];omega)))));have q0h:Hid (pX xG (w1.heap.size+1)):=yw;have aTh:=(λob=>bC ob yw.c0);have aTa:∀c t,dL (xG.alloc (.cells c t)) (w1.heap.size+1) 0:=(λc t=>dw yw.z0);have aTg:=(λob=>bC ob yw.c1);have aS9:∀c t,dL (xG.alloc (.cells c t)) (w1.heap.size+1) 1:=(λc t=>dw yw.z1);have aTf:=(λob=>bC ob yw.c2);have aS8:∀c t,dL (xG.alloc (.cells c t)) (w1.heap.size+1) 2:=(λc t=>dw yw.z2);have aTe:=(λob=>bC ob yw.c3);have aS7:∀c t,dL (xG.alloc (.cells c t)) (w1.heap.size+1) 3:=(λc t=>dw yw.z3);have aTd:=(λob=>bC ob yw.c4);have aS6:∀c t,dL (xG.alloc (.cells c t)) (w1.heap.size+1) 4:=(λc t=>dw yw.z4);have aTc:=(λob=>bC ob yw.c5);have aS5:∀c t,dL (xG.alloc (.cells c t)) (w1.heap.size+1) 5:=(λc t=>dw yw.z5);have aTb:=(λob=>bC ob yw.c6);have aS4:∀c t,dL (xG.alloc (.cells c t)) (w1.heap.size+1) 6:=(λc t=>dw yw.z6);clear yw)|(have yw:pX xG (GI.heap.size):=pX.gr oH (pX.new' rfl);have q0h:Hid (pX xG (GI.heap.size)):=yw;have aTh:=(λob=>bC ob yw.c0);have aTa:∀c t,dL (xG.alloc (.cells c t)) GI.heap.size 0:=(λc t=>dw yw.z0);have aTg:=(λob=>bC ob yw.c1);have aS9:∀c t,dL (xG.alloc (.cells c t)) GI.heap.size 1:=(λc t=>dw yw.z1);have aTf:=(λob=>bC ob yw.c2);have aS8:∀c t,dL (xG.alloc (.cells c t)) GI.heap.size 2:=(λc t=>dw yw.z2);have aTe:=(λob=>bC ob yw.c3);have aS7:∀c t,dL (xG.alloc (.cells c t)) GI.heap.size 3:=(λc t=>dw yw.z3);have aTd:=(λob=>bC ob yw.c4);have aS6:∀c t,dL (xG.alloc (.cells c t)) GI.heap.size 4:=(λc t=>dw yw.z4);have aTc:=(λob=>bC ob yw.c5);have aS5:∀c t,dL (xG.alloc (.cells c t)) GI.heap.size 5:=(λc t=>dw yw.z5);have aTb:=(λob=>bC ob yw.c6);have aS4:∀c t,dL (xG.alloc (.cells c t)) GI.heap.size 6:=(λc t=>dw yw.z6);clear yw)|skip))))
  all_goals (go_wp2;go_meet)<;>(try (obtain⟨aVP,aVO,aVN,aVM,aVL,aVK,aVJ,aVI,aVH,aVG,aVF,aVE,aVD,aVC⟩:=q0h.out))
  all_goals (try (obtain⟨aVB,aVA,aVz,aVy,aVx,aVw,aVv,aVu,aVt,aVs,aVr,aVq,aVp,aVo⟩:=q1h.out))<;>exact⟨_,_,rfl,rfl,{}⟩
 case rest=>
  clear HA HB;obtain⟨bx,bz,rfl,rfl,⟨qg,qx0,qx1,qx2,qx3,qx4,qx5,qx6,qy0,qy1,qy2,qy3,qy4,qy5,qy6⟩⟩:=hcut;rcases hc with⟨rfl,rfl,rfl⟩|⟨rfl,rfl,rfl,rfl⟩|⟨rfl,rfl,rfl,rfl⟩|⟨rfl,rfl,rfl⟩|⟨c,rfl,rfl⟩
  case inr.inr.inr.inr=>
   rcases c with rfl|rfl
   all_goals
    go_wp2_with (go_at_call 190;refine ku (HO _) λw3 aO=>?_);go_returns;exact⟨rfl,Gr.g⟩
  all_goals
   clear HO;go_wp2;go_returns;exact⟨rfl,Gr.g⟩
