import Derived.Test.YthoelefkjpjhfaaGreatDoorN2
set_option linter.all false
set_option maxRecDepth 1000000
set_option maxHeartbeats 40000000
open Option renaming none → I, some → D
open Go.Proofs.YthoelefkjpjhfaaGreatDoor renaming vI → J, vU → Y
open Go.IntKind renaming u64 → O
open Go.Ending renaming returned → U
open Go.Proofs.Tryz
namespace Go.Proofs.YthoelefkjpjhfaaGreatDoor
open Go.RowKit
variable{w w':World}{v u:Value}{n base size L p b m off cap:Nat}{g f:Nat->Int}{k:IntKind}{o:Ops}{t:TypeId}{a:Act}{Q:Exit->Act->World->Prop}{ops:Array Oper}{x0 x1:Int}
def aKr{P:Prop}(h:P:=by
 refine Ow.congr (g:=λj=>if j=0 then x else y) this (λj hj=>?_)
 match j,hj with
 |0,_=>exact e0.symm
 |1,_=>exact e1.symm):P:=h
def aKs{P:Prop}(h:P:=by
 go_wp2;go_roundw
 case rel=>exact⟨j+1,om,by go_num,Ba,Gb.below kg pz (Nat.le_refl _)⟩
 case measure=>simp[intOf]<;>omega):P:=h
attribute [local go_sem] aA dB
def Ow.nlt(h:Ow w base t size k v n g)(hp:p<base):v.ownBlock≠D p:=λe=>by
 have:=(World.ownsRow.lt h p e).1;omega
def Oe(o:Ops)(k:Nat):Prop:=∀(K:Int) (w:World) (v:Value) (cs:Nat->Int),K=(k:Int)->Rd w O v (2^k) (2^k) cs->(∀j,Wd (cs j))->
 CT 120 #[J K,v] w λe w'=>∃v',e=U v'/\Ow w' w.heap.size 123 2 O v' (2^(k-1)) (flat (o.tr k cs))/\Gb w w'
def Yy(o:Ops):Oe o 1:=by
 intro K w v cs hK hr wW;obtain rfl:K=1:=hK;have HS:KW 46 #[J 1] (J 2):=λw=>xG 1 1 rfl om 2 rfl w;obtain⟨b,cap,rfl,h1,h2,hc⟩:=hr.at de;have c0:aA w b 0 (Y (cs 0)):=hc 0 de;have c1:aA w b 1 (Y (cs 1)):=hc 1 de;have e0:flat (o.tr 1 cs) 0=cs 0:=rfl;have e1:flat (o.tr 1 cs) 1=cs 1:=rfl;generalize flat (o.tr 1 cs)=f at*
 generalize cs 0=x at*
 generalize cs 1=y at*
 clear hr hc wW;go_enter func120,ntmps120;go_wp2_with (go_at_call 46;refine kw (HS _) ?_);go_region;all_goals go_wp2<;>go_returns
 all_goals
  refine⟨_,rfl,?_,kg⟩;have:=World.ownsRow_lit (base:=w.heap.size) (e:=123) (size:=2) w.drew #[Y x,Y y] 1 (Nat.le_refl _) de rfl;exact aKr
def UW(H:o.S)(HI:o.In)(k:Nat)(Z7:k+2<=6)(IH:Oe o (k+1)):Oe o (k+2):=by
 intro K w v cs hK hr wW;unfold Oe at IH;obtain⟨K1,hK1⟩:=x_n ((k+1:Nat):Int);have uK:IntKind.i64.wrap (K-1)=K1:=wi;have k1:¬K<1:=om;have k2:¬(6:Int)<K:=om;have k3:(K==1)=false:=jl;obtain⟨m,hm⟩:=x_n (2^k);have AU:0<m:=by rw[hm];exact Nat.pow_pos de
 have JI:m<=32:=by
  rw[hm];have:=Nat.pow_le_pow_right (show 0<2 by decide) (om:k<=5);omega
 have ep1:2^(k+1)=2*m:=by rw[Nat.pow_succ,<-hm];omega
 obtain⟨L,hL⟩:=x_n (2^(k+2));have hLm:L=4*m:=by rw[hL,Nat.pow_succ,ep1];omega
 rw[<-hL]at hr;have HS:KW 46 #[J K] (J (L:Int)):=λw=>xG K (k+2) hK om L (by rw[hL]) w;have hSp:∀(w':World) (v':Value) (e:Ending) (f:Nat->Int × Int) (b0:Nat),(∃u,e=U u/\Ow w' b0 123 2 O u m (flat f))->∃b cap,e=U (aC b m cap)/\b<w'.heap.size/\∀q,q<m*2->aA w' b q (Y (flat f q)):=λw' v' e f b0 ⟨u,e1,e2⟩=>by
  obtain⟨b,cap,rfl,_,c2,_,_,c3⟩:=e2.at AU;exact⟨b,cap,e1,c2,λj hj=>(c3 j hj).1⟩
 have HE:∀(C:Int) (c:Nat),C=(c:Int)->c<=1->Hid (∀w',Gb w w'->CT 208 #[v,J C] w' λe aT=>∃u,e=U u/\Rd aT O u (2^(k+1)) (2^(k+1)) (λq=>cs (2*q+c))/\Gb w' aT):=λC c hC hc w' hg=>(aJG C c hC hc w' v L (2*m) cs (hr.gb hg) om om om).mono λe aT ⟨u,e1,e2,e3⟩=>by
  rw[ep1];have:=e2.rd;rw[Nat.mul_one]at this;exact⟨u,e1,this,e3⟩
 have HT:∀c,Hid (∀w' u,Rd w' O u (2^(k+1)) (2^(k+1)) (λq=>cs (2*q+c))->CT 120 #[J K1,u] w' λe aT=>∃b cap,e=U (aC b m cap)/\b<aT.heap.size/\(∀q,q<m*2->aA aT b q (Y (flat (o.tr (k+1) (λq=>cs (2*q+c))) q)))/\Gb w' aT):=λc w' u hu=>(IH K1 w' u _ hK1 hu (λ_=>wW _)).mono λe aT ⟨v',e1,e2,e3⟩=>by
  rw[(om:k+1-1=k),<-hm]at e2;obtain⟨b,cap,p1,p2,p3⟩:=hSp aT v' e _ _ ⟨v',e1,e2⟩;exact⟨b,cap,p1,p2,p3,e3⟩
 have HE0:Hid (∀w',Gb w w'->CT 208 #[v,J 0] w' λe aT=>∃u,e=U u/\Rd aT O u (2^(k+1)) (2^(k+1)) (λq=>cs (2*q+0))/\Gb w' aT):=HE 0 0 rfl om;have HE1:Hid (∀w',Gb w w'->CT 208 #[v,J 1] w' λe aT=>∃u,e=U u/\Rd aT O u (2^(k+1)) (2^(k+1)) (λq=>cs (2*q+1))/\Gb w' aT):=HE 1 1 rfl om;have HT0:=HT 0;have HT1:=HT 1;obtain⟨R,hR⟩:=x_n (2*m);have HRt:Hid (∀w',CT 209 #[J K] w' λe aT=>∃b cap,e=U (aC b R cap)/\b<aT.heap.size/\(∀q,q<R*2->aA aT b q (Y (flat (o.rt (k+2)) q)))/\Gb w' aT):=λw'=>by
  rw[hK];refine(RS H HI (k+2) om Z7 w').mono λe aT ⟨u,e1,e2,e3⟩=>?_;rw[(om:k+2-1=k+1),ep1,<-hR]at e2;obtain⟨b,cap,rfl,_,c2,_,_,c3⟩:=e2.at om;exact⟨b,cap,e1,c2,λj hj=>(c3 j hj).1,e3⟩
 obtain⟨bx,cx,rfl,hx1,ZW,Ud⟩:=hr.at om;have HPr:Hid (∀a1 a2 b1 b2,Wd a1->Wd a2->Wd b1->Wd b2->∀w',QB 122 #[aN a1 a2,aN b1 b2] w' (aN ((o.cMul (a1,a2) (b1,b2)).1) ((o.cMul (a1,a2) (b1,b2)).2))):=λa1 a2 b1 b2 h1 h2 h3 h4 w'=>TP H HI h1 h2 h3 h4 w';have HSu:Hid (∀a1 a2 b1 b2,Wd a1->Wd a2->Wd b1->Wd b2->∀w',QB 210 #[aN a1 a2,aN b1 b2] w' (aN (o.add a1 b1) (o.add a2 b2))):=λa1 a2 b1 b2 h1 h2 h3 h4 w'=>aHq H h1 h2 h3 h4 w';have HDi:Hid (∀a1 a2 b1 b2,Wd a1->Wd a2->Wd b1->Wd b2->∀w',QB 211 #[aN a1 a2,aN b1 b2] w' (aN (o.sub a1 b1) (o.sub a2 b2))):=λa1 a2 b1 b2 h1 h2 h3 h4 w'=>aBz H h1 h2 h3 h4 w';have HM:Hid _:=hm;have HLm:Hid _:=hLm;have HEp:Hid _:=ep1;have JK:L<=128:=om;have HCS:Hid _:=wW;have HR2:Hid _:=hR;have aUL:R<=64:=om;clear hr Ud HE HT hSp IH hK hK1 hm hL hLm ep1 wW hR;go_enter func120,ntmps120;go_upto_region 5 with(go_at_call 46;refine kw (HS _) ?_);go_upto_region 6 with(first|(go_at_call 208;refine(HE0 _ kg).mono ?_;rintro e w1 ⟨u1,rfl,tK,ak⟩)|(go_at_call 120;refine(HT0 _ _ tK).mono ?_;rintro e w2 ⟨ba,ca,rfl,hba,Z_,aB⟩))
 go_upto_region 7 with(first|(go_at_call 208;refine(HE1 _ kg).mono ?_;rintro e w3 ⟨u3,rfl,hr3,aK⟩)|(go_at_call 120;refine(HT1 _ _ hr3).mono ?_;rintro e w4 ⟨bb,cb,rfl,Tn,zW,aV⟩))
 go_upto_region 8 with(go_at_call 209;refine(HRt _).mono ?_;rintro e W ⟨br,cr,rfl,FP,hcr,CO⟩);have gA:Gb w2 W:=(aK.trans aV).trans CO;have HCA:Hid (∀q,q<m*2->aA W ba q (Y (flat (o.tr (k+1) (λq=>cs (2*q+0))) q))):=λq hq=>gA.old (Z_ q hq);have HCB:Hid (∀q,q<m*2->aA W bb q (Y (flat (o.tr (k+1) (λq=>cs (2*q+1))) q))):=λq hq=>CO.old (zW q hq);have HCR:Hid _:=hcr;have hgW:Gb w W:=kg;have aNu:ba<W.heap.size:=by have:=gA.size;omega
 have aUG:bb<W.heap.size:=by have:=CO.size;omega
 have aDv:=hgW.size;clear Z_ zW hcr ak aB aK aV CO gA HE0 HE1 HT0 HT1 HRt tK hr3 hba Tn;go_wp2;go_loopw [8,9] (λf i wr=>∃j:Nat,j<=m/\i=J j/\Ow wr W.heap.size 123 2 O f (2*j) (flat (o.tr (k+2) cs))/\Gb W wr) (λ_ i _=>m-(intOf i).toNat)
 case atStart=>exact⟨0,Nat.zero_le _,rfl,Ow.lit W _ _ _ _,kg⟩
 case round=>
  obtain⟨j,hj,rfl,iU,dH⟩:=hrel;have uF:=dH.size;by_cases fF:j<m
  .have jc:(j:Int)<(m:Int):=om;obtain⟨J0,D8⟩:=x_n (2*j);have u0:IntKind.i64.wrap (2*(j:Int))=(J0:Int):=wi;have i0:(J0:Int)<(R:Int):=by have:=HR2.out;omega
   obtain⟨a1,jo⟩:=dK ((o.tr (k+1) (λq=>cs (2*q+0)) j).1);obtain⟨a2,qo⟩:=dK ((o.tr (k+1) (λq=>cs (2*q+0)) j).2);obtain⟨d1,rY⟩:=dK ((o.tr (k+1) (λq=>cs (2*q+1)) j).1);obtain⟨d2,Bj⟩:=dK ((o.tr (k+1) (λq=>cs (2*q+1)) j).2);obtain⟨x,y,hxy⟩:∃x y,o.rt (k+2) (2*j)=(x,y):=⟨_,_,rfl⟩;have p0:wr.cell? ⟨ba,j*2,I⟩=D (Y a1):=by rw[<-jo,<-eP,Nat.mul_comm];exact dH.old (HCA (2*j) om)
   have p1:wr.cell? ⟨ba,j*2+1,I⟩=D (Y a2):=by rw[<-qo,<-eU,Nat.mul_comm];exact dH.old (HCA (2*j+1) om)
   have p2:wr.cell? ⟨bb,j*2,I⟩=D (Y d1):=by rw[<-rY,<-eP,Nat.mul_comm];exact dH.old (HCB (2*j) om)
   have p3:wr.cell? ⟨bb,j*2+1,I⟩=D (Y d2):=by rw[<-Bj,<-eU,Nat.mul_comm];exact dH.old (HCB (2*j+1) om)
   have p4:aA wr br (J0*2) (Y x):=by have:=dH.old (HCR (J0*2) (by have:=HR2.out;omega));rw[Nat.mul_comm,eP,D8,hxy]at this;rw[Nat.mul_comm,D8];exact this
   have p5:aA wr br (J0*2+1) (Y y):=by have:=dH.old (HCR (J0*2+1) (by have:=HR2.out;omega));rw[Nat.mul_comm,eU,D8,hxy]at this;rw[Nat.mul_comm,D8];exact this
   have wE:=HI.tr (k+1) (λq=>cs (2*q+0)) j (λ_=>HCS _);have wO:=HI.tr (k+1) (λq=>cs (2*q+1)) j (λ_=>HCS _);unfold rU at wE wO;rw[jo,qo]at wE;rw[rY,Bj]at wO;have wX:=HI.rt (k+2) (2*j);rw[hxy]at wX;obtain⟨t1,ht1⟩:=dK ((o.cMul (x,y) (d1,d2)).1);obtain⟨t2,ht2⟩:=dK ((o.cMul (x,y) (d1,d2)).2);have wT:=HI.cMul wX (show rU (d1,d2) from wO);unfold rU at wT;rw[ht1,ht2]at wT;have G1:=HPr x y d1 d2 wX.1 wX.2 wO.1 wO.2;rw[ht1,ht2]at G1;have G2:=HSu a1 a2 t1 t2 wE.1 wE.2 wT.1 wT.2;have G3:=HDi a1 a2 t1 t2 wE.1 wE.2 wT.1 wT.2;have eO:o.tr (k+1) (λq=>cs (2*q+1)) j=(d1,d2):=by rw[<-rY,<-Bj]
   have eT:o.cMul (x,y) (d1,d2)=(t1,t2):=by rw[<-ht1,<-ht2]
   have s0:o.tr (k+2) cs (2*j)=(o.add a1 t1,o.add a2 t2):=by
    simp only[Ops.tr];rw[if_pos om,(om:2*j/2=j),hxy,eO,eT];unfold Ops.cAdd;rw[<-jo,<-qo];rfl
   have s1:o.tr (k+2) cs (2*j+1)=(o.sub a1 t1,o.sub a2 t2):=by
    simp only[Ops.tr];rw[if_neg om,(om:(2*j+1)/2=j),hxy,eO,eT];unfold Ops.cSub;rw[<-jo,<-qo];rfl
   generalize o.add a1 t1=v0 at*
   generalize o.add a2 t2=v1 at*
   generalize o.sub a1 t1=v2 at*
   generalize o.sub a2 t2=v3 at*
   have F1:Hid _:=G1;have F2:Hid _:=G2;have F3:Hid _:=G3;have e0:Hid (flat (o.tr (k+2) cs) (2*j*2+0)=v0):=by show _=_;rw[(om:2*j*2+0=2*(2*j)),eP,s0]
   have e1:Hid (flat (o.tr (k+2) cs) (2*j*2+1)=v1):=by show _=_;rw[(om:2*j*2+1=2*(2*j)+1),eU,s0]
   have e2:Hid (flat (o.tr (k+2) cs) (2*j*2+2)=v2):=by show _=_;rw[(om:2*j*2+2=2*(2*j+1)),eP,s1]
   have e3:Hid (flat (o.tr (k+2) cs) (2*j*2+3)=v3):=by show _=_;rw[(om:2*j*2+3=2*(2*j+1)+1),eU,s1]
   have HO:Hid _:=iU;have hOg:=λw' (hg:Gb wr w')=>Ow.gb iU hg;have Tf:=iU.nlt aNu;have EP:=λp (hp:wr.heap.size<=p)=>iU.ne hp;have BH:Hid _:=hOg;have HNb:Hid _:=Tf;have HNw:Hid _:=EP;clear iU hOg Tf EP G1 G2 G3 eO eT s0 s1 jo qo rY Bj hxy wE wO wX wT ht1 ht2 D8 HPr HSu HDi;go_wp2;go_cut [10] from 48 to 78 (λs wx=>∃bt:Nat,s=.pointer (D ⟨bt,0,I⟩)/\aA wx bt 0 (Y t1)/\aA wx bt 1 (Y t2)/\wr.heap.size<=bt/\Gb wr wx)
   case first=>
    go_region_held3 (λw'=>aA w' br (J0*2) (Y x)/\aA w' br (J0*2+1) (Y y)/\aA w' bb (j*2) (Y d1)/\aA w' bb (j*2+1) (Y d2))(exact nX)(first|(go_at_call 122;with_reducible refine ku (F1.out _) λw2 aB=>?_;have lu:=aB.size;(try simp only[World.size_alloc,World.size_drew,World.size_setCell]at lu);(try (have bx0:aA w2 wr.heap.size 0 (Y 0):=aB.old (by simp[go_sem]);have bx1:aA w2 wr.heap.size 1 (Y 0):=aB.old (by simp[go_sem]);have bz0:dB w2 wr.heap.size 0:=aB.FT (v:=Y 0) (by simp[go_sem]) (rZ (cu (TB (Nat.le_refl _))));have bz1:dB w2 wr.heap.size 1:=aB.FT (v:=Y 0) (by simp[go_sem]) (rZ (cu (TB (Nat.le_refl _))))))))
    all_goals (go_wp2;go_meet)<;>exact⟨_,rfl,kb,kb,om,kg⟩
   case rest=>
    obtain⟨bt,rfl,c0,c1,hbt,hgt⟩:=hcut;have q0:aA wc ba (j*2) (Y a1):=hgt.old p0;have q1:aA wc ba (j*2+1) (Y a2):=hgt.old p1;have aSu:=au c0;have aRM:=hgt.size;clear p0 p1 p2 p3 p4 p5;go_wp2;go_region_held3 (λw'=>kM w' bt 0 1 (Y t1) (Y t2)/\aA w' ba (j*2) (Y a1)/\aA w' ba (j*2+1) (Y a2))(exact nX)(first|(go_at_call 210;with_reducible refine ku (F2.out _) λw3 aK=>?_;have Pq:=aK.size;(try simp only[World.size_alloc,World.size_drew,World.size_setCell]at Pq))|(go_at_call 211;with_reducible refine ku (F3.out _) λw3 aK=>?_;have Pq:=aK.size;(try simp only[World.size_alloc,World.size_drew,World.size_setCell]at Pq))|(refine step_more rfl _ _ 119 rfl 123 (.agg #[Y 0,Y 0]) 2 16 O Tryz.underlying119 Nh rfl de de W.heap.size (2*j) 2 (flat (o.tr (k+2) cs)) _ w3.heap.size rfl (BH _ kg) rfl (aBy (by simp[go_sem]) (by simp[go_sem]) (by simp[go_sem]) (by simp[go_sem]) e0.out e1.out e2.out e3.out) om om (by simp[go_sem];omega) ?_;intro v' w4 Ba pz ug _;have r0:aA w4 ba (j*2) (Y a1):=ug _ _ _ kb HNb.out;have r1:aA w4 ba (j*2+1) (Y a2):=ug _ _ _ kb HNb.out;have r2:aA w4 bt 0 (Y t1):=ug _ _ _ kb (HNw _ hbt);have r3:aA w4 bt 1 (Y t2):=ug _ _ _ kb (HNw _ hbt)))
    all_goals
     exact aKs
  .obtain rfl:j=m:=om;have D6:¬(j:Int)<(j:Int):=om;have HO:Hid _:=iU;have X8:Gb w wr:=hgW.trans dH;have eM:2^(k+1)=2*j:=HEp.out;have X5:=Ow.mono iU aDv;clear iU;go_wp2;go_returns;exact⟨_,rfl,X5,X8⟩
def UU(H:o.S)(HI:o.In):∀k:Nat,1<=k->k<=6->Oe o k
 |0,h,_=>absurd h om
 |1,_,_=>Yy o
 |k+2,_,h=>UW H HI k h (UU H HI (k+1) om om)
def aDY{o:Oper}{K:Act->World->Prop}(s x:Operand)(ty:TypeId)
  (ho:o.op=.call {callee:=.builtin .append,args:=#[s,x],argTypes:=#[ty,ty]}) (t:TypeId) (z:Value) (size bytes:Nat) (k:IntKind) (JG:Tryz.prog.underlying ty=D (.slice t)) (u_:(Tryz.prog.info? t).map (λi=>(i.zero,i.size,i.bytes))=D (D z,size,bytes)) (hzs:z.cells.size=size) (hs0:0<size) (Dh:bytes<=1000)
  (base n r:Nat) (g:Nat->Int) (v:Value) (b:Nat) (hs:a.eval s=v) (gZ:Ow w base t size k v n g) (hx:a.eval x=aC b r r)
  (hc:∀j,j<r*size->aA w b j (.int k (g (n*size+j)))) (Ox:0<r) (hn:n+r<=100000000) (nN:base<=w.heap.size)
  (h:∀v' w',Ow w' base t size k v' (n+r) g->Below base w w'->(∀p,p<w.heap.size->v.ownBlock≠D p->w'.heap[p]?=w.heap[p]?)->(v'.ownBlock=v.ownBlock\/v'.ownBlock=D w.heap.size)->K (a.put o.dst v') w'):o.wp Tryz.prog a w K Q:=by
 obtain⟨i0,hi,lF,iR,lu⟩:=info_parts u_;refine wp_append_lies _ s x ty ho base t i0 z size bytes JG hi lF iR lu hzs hs0 v n (uv k (n*size) g) hs gZ ⟨b,0,I⟩ r r (uv k (r*size) (λj=>g (n*size+j))) hx (pO _ _ _) ?_ ?_ Ox (by unfold maxLen;omega) (by have:=Nat.mul_le_mul hn Dh;omega) nN w.heap.size rfl ?_
 .intro j u hj;have fF:j<r*size:=by
   rcases Nat.lt_or_ge j (r*size)with c|c
   .exact c
   .rw[List.getElem?_eq_none (by rw[pO];exact c)]at hj;cases hj
  rw[Kw _ _ _ _ fF]at hj;obtain rfl:=Option.some.inj hj;have e:(⟨b,0,I⟩:Addr).add j=⟨b,j,I⟩:=by unfold Addr.add;split<;>simp_all
  rw[e];exact hc j fF
 .intro u hu;obtain⟨j,_,rfl⟩:=List.mem_map.1 hu;rfl
 .intro gb cap' w' tX kY hat _;refine h _ w' ?_ ?_ ?_ ?_
  .show World.ownsRow _ _ _ _ _ _ _;rw[Nat.add_mul,aEa];exact tX
  .refine(Below.refl base w).grown kY nN ?_;intro q hq;exact(World.ownsRow.lt gZ q hq).1
  .exact λp hp jV=>kY.block p hp (λe=>jV e.symm)
  .rcases hat with e|e
   .exact .inl (by rw[e];rfl)
   .exact .inr (by rw[e];rfl)
def KQ{o:Oper}{K:Act->World->Prop}{E:Prop}(Z8:o.guard=I)(s x:Operand)(ty:TypeId)
  (ho:o.op=.call {callee:=.builtin .append,args:=#[s,x],argTypes:=#[ty,ty]}) (t:TypeId) (z:Value) (size bytes:Nat) (k:IntKind) (JG:Tryz.prog.underlying ty=D (.slice t)) (u_:(Tryz.prog.info? t).map (λi=>(i.zero,i.size,i.bytes))=D (D z,size,bytes)) (hzs:z.cells.size=size) (hs0:0<size) (Dh:bytes<=1000)
  (base n r:Nat) (g:Nat->Int) (v:Value) (b:Nat) (hs:a.eval s=v) (gZ:Ow w base t size k v n g) (hx:a.eval x=aC b r r)
  (hc:∀j,j<r*size->aA w b j (.int k (g (n*size+j)))) (Ox:0<r) (hn:n+r<=100000000) (nN:base<=w.heap.size)
  (h:∀v' w',Ow w' base t size k v' (n+r) g->Below base w w'->(∀p,p<w.heap.size->v.ownBlock≠D p->w'.heap[p]?=w.heap[p]?)->(v'.ownBlock=v.ownBlock\/v'.ownBlock=D w.heap.size)->K (a.put o.dst v') w'):if Region.wanted o (yielded ops a.tmps)=true then Oper.wp Tryz.prog o a w K Q else E:=by
 have hw:Region.wanted o (yielded ops a.tmps)=true:=by simp[Region.wanted,Z8]
 rw[if_pos hw];exact aDY s x ty ho t z size bytes k JG u_ hzs hs0 Dh base n r g v b hs gZ hx hc Ox hn nN h
def iC(hk:∀p,p<w.heap.size->v.ownBlock≠D p->w'.heap[p]?=w.heap[p]?)(hu:aA w p off u)(jV:v.ownBlock≠D p):aA w' p off u:=(World.cell?_of_block (w:=w) (a:=⟨p,off,I⟩) (hk p (au hu) jV)).trans hu
def Ow.aLM(hk:∀p,p<w.heap.size->v.ownBlock≠D p->w'.heap[p]?=w.heap[p]?)(ho:Ow w base t size k u n g)(jV:∀p,u.ownBlock=D p->v.ownBlock≠D p):Ow w' base t size k u n g:=by
 refine⟨ho.1,?_⟩;rcases ho.2 with hn|⟨b,cap,cur,rfl,hb,hh,rest⟩
 .exact .inl hn
 .refine .inr ⟨b,cap,cur,rfl,hb,?_,rest⟩;rw[hk b (Array.getElem?_eq_some_iff.1 hh).1 (jV b rfl)];exact hh
def Ow.aI5(h:Ow w base t size k v n g)(hp:p<base):v.ownBlock≠D p:=λe=>by
 have:=(World.ownsRow.lt h p e).1;omega
def Ow.aRH(w:World)(ob:Obj)(t:TypeId)(size:Nat)(k:IntKind)(g:Nat->Int):Ow ((w.alloc ob).alloc (.cells #[] t)) w.heap.size t size k (aC (w.heap.size+1) 0 0) 0 g:=by
 have:=Ow.lit (w.alloc ob) t size k g;rw[World.size_alloc]at this;exact this.mono om
def J9(r s:Nat)(FK:r*s=2)(h0:aA w b 0 (.int k x0))(h1:aA w b 1 (.int k x1))(e0:g (m+0)=x0)(e1:g (m+1)=x1):∀j,j<r*s->aA w b j (.int k (g (m+j))):=by
 intro j hj;rw[FK]at hj
 match j,hj with
 |0,_=>rw[e0];exact h0
 |1,_=>rw[e1];exact h1
def X6(o:Ops)(k:Nat):Prop:=∀(K:Int) (w:World) (v:Value) (zs:Nat->Int × Int),K=(k:Int)->Rd w O v (2^(k-1)) (2^(k-1)*2) (flat zs)->(∀j,rU (zs j))->
 CT 123 #[J K,v] w λe w'=>∃v',e=U v'/\Ow w' w.heap.size 71 1 O v' (2^k) (o.bk k zs)/\Gb w w'
def aDR(o:Ops):X6 o 1:=by
 intro K w v zs hK hr wW;obtain rfl:K=1:=hK;have HS:KW 46 #[J 1] (J 2):=λw=>xG 1 1 rfl om 2 rfl w;obtain⟨b,cap,rfl,h1,h2,hc⟩:=hr.at de;have c0:aA w b 0 (Y (zs 0).1):=hc 0 de;have c1:aA w b 1 (Y (zs 0).2):=hc 1 de;have e0:o.bk 1 zs 0=(zs 0).1 :=rfl;have e1:o.bk 1 zs 1=(zs 0).2 :=rfl;generalize o.bk 1 zs=f at*
 generalize(zs 0).1 =x at*
 generalize(zs 0).2 =y at*
 clear hr hc wW;go_enter func123,ntmps123;go_wp2_with (go_at_call 46;refine kw (HS _) ?_);go_region;all_goals go_wp2<;>go_returns
 all_goals
  refine⟨_,rfl,?_,kg⟩;have:=World.ownsRow_lit (base:=w.heap.size) (e:=71) (size:=1) w.drew #[Y x,Y y] 2 (Nat.le_refl _) de rfl;exact aKr
def aAw(H:o.S)(HI:o.In)(k:Nat)(Z7:k+2<=6)(IH:X6 o (k+1)):X6 o (k+2):=by
 intro K w v zs hK hr wW;unfold X6 at IH;obtain⟨K1,hK1⟩:=x_n ((k+1:Nat):Int);have uK:IntKind.i64.wrap (K-1)=K1:=wi;have k1:¬K<1:=om;have k2:¬(6:Int)<K:=om;have k3:(K==1)=false:=jl;obtain⟨m,hm⟩:=x_n (2^k);have AU:0<m:=by rw[hm];exact Nat.pow_pos de
 have JI:m<=16:=by
  rw[hm];have:=Nat.pow_le_pow_right (show 0<2 by decide) (om:k<=4);omega
 obtain⟨L,hL⟩:=x_n (2^(k+1));obtain⟨Z,hZ⟩:=x_n (2^(k+2));have hLm:L=2*m:=by rw[hL,Nat.pow_succ,<-hm];omega
 have hZL:Z=2*L:=by rw[hZ,Nat.pow_succ,<-hL];omega
 rw[(om:k+2-1=k+1),<-hL]at hr;have HS:KW 46 #[J K] (J (Z:Int)):=λw=>xG K (k+2) hK om Z (by rw[hZ]) w;have uZ:IntKind.i64.wrap ((L:Int)*2)=(Z:Int):=wi;have HRt:Hid (∀w',CT 209 #[J K] w' λe aT=>∃b cap,e=U (aC b L cap)/\w'.heap.size<=b/\b<aT.heap.size/\(∀q,q<L*2->aA aT b q (Y (flat (o.rt (k+2)) q)))/\Gb w' aT):=λw'=>by
  rw[hK];refine(RS H HI (k+2) om Z7 w').mono λe aT ⟨u,e1,e2,e3⟩=>?_;rw[(om:k+2-1=k+1),<-hL]at e2;obtain⟨b,cap,rfl,c1,c2,_,_,c3⟩:=e2.at om;exact⟨b,cap,e1,c1,c2,λj hj=>(c3 j hj).1,e3⟩
 have HB:Hid (∀w' u (ys:Nat->Int × Int),(∀j,rU (ys j))->Rd w' O u m (m*2) (flat ys)->CT 123 #[J K1,u] w' λe aT=>∃b cap,e=U (aC b L cap)/\b<aT.heap.size/\(∀q,q<L->aA aT b q (Y (o.bk (k+1) ys q)))/\Gb w' aT):=λw' u ys hys hu=>(IH K1 w' u ys hK1 (by rw[(om:k+1-1=k),<-hm];exact hu) hys).mono λe aT ⟨v',e1,e2,e3⟩=>by
  rw[<-hL]at e2;obtain⟨b,cap,rfl,_,c2,_,_,c3⟩:=e2.at om;exact⟨b,cap,e1,c2,λj hj=>(c3 j om).1,e3⟩
 have wA:Hid _:=HI.J_ wW;have wB:Hid _:=HI.OA (k+2) wW;have HPr:Hid (∀a1 a2 b1 b2,Wd a1->Wd a2->Wd b1->Wd b2->∀w',QB 122 #[aN a1 a2,aN b1 b2] w' (aN ((o.cMul (a1,a2) (b1,b2)).1) ((o.cMul (a1,a2) (b1,b2)).2))):=λa1 a2 b1 b2 h1 h2 h3 h4 w'=>TP H HI h1 h2 h3 h4 w';have HSu:Hid (∀a1 a2 b1 b2,Wd a1->Wd a2->Wd b1->Wd b2->∀w',QB 210 #[aN a1 a2,aN b1 b2] w' (aN ((o.cAdd (a1,a2) (b1,b2)).1) ((o.cAdd (a1,a2) (b1,b2)).2))):=λa1 a2 b1 b2 h1 h2 h3 h4 w'=>aHq H h1 h2 h3 h4 w';have HDi:Hid (∀a1 a2 b1 b2,Wd a1->Wd a2->Wd b1->Wd b2->∀w',QB 211 #[aN a1 a2,aN b1 b2] w' (aN ((o.cSub (a1,a2) (b1,b2)).1) ((o.cSub (a1,a2) (b1,b2)).2))):=λa1 a2 b1 b2 h1 h2 h3 h4 w'=>aBz H h1 h2 h3 h4 w';have HHa:Hid (∀a1 a2,Wd a1->Wd a2->∀w',QB 214 #[aN a1 a2] w' (aN ((o.rP (a1,a2)).1) ((o.rP (a1,a2)).2))):=λa1 a2 h1 h2 w'=>aJV H HI h1 h2 w';obtain⟨bx,cx,rfl,hx1,ZW,Ud⟩:=hr.at om;have Qx:=au (Ud 0 om);have HX:Hid _:=Ud;have HM:Hid _:=hm;have HLm:Hid _:=hLm;have HZL:Hid _:=hZL;have HZe:Hid _:=hZ;have JK:L<=32:=om;have hZ2:Z<=64:=om;have HCS:Hid _:=wW;clear hr Ud IH hK hK1 hm hL hLm hZL hZ wW;go_enter func123,ntmps123;go_upto_region 5 with(go_at_call 46;refine kw (HS _) ?_);go_upto_region 8 with(go_at_call 209;refine(HRt _).mono ?_;rintro e W ⟨br,cr,rfl,aSv,FP,hcr,CO⟩);have aDv:=CO.size;simp only[World.size_alloc]at aDv aSv;go_wp2;go_loopw [5,6,8] (λfa fb i wr=>∃j:Nat,j<=m/\i=J j/\Ow wr w.heap.size 123 2 O fa j (flat (o.J_ zs))/\Ow wr w.heap.size 123 2 O fb j (flat (o.OA (k+2) zs))/\(∀p,fa.ownBlock=D p->fb.ownBlock≠D p)/\fa.ownBlock≠D br/\fb.ownBlock≠D br/\br<wr.heap.size/\Hid (∀q,q<L*2->aA wr br q (Y (flat (o.rt (k+2)) q)))/\Gb w wr) (λ_ _ i _=>m-(intOf i).toNat)
 case atStart=>
  refine⟨0,Nat.zero_le _,rfl,Ow.gb (Ow.alloc (Ow.lit w _ _ _ _) _) CO,Ow.gb (Ow.aRH w _ _ _ _ _) CO,?_,?_,?_,FP,hcr,kg⟩
  .intro p h1 h2;simp only[Value.ownBlock,Option.some.injEq,World.size_alloc]at h1 h2;omega
  .simp only[Value.ownBlock,ne_eq,Option.some.injEq];omega
  .simp only[Value.ownBlock,ne_eq,Option.some.injEq,World.size_alloc];omega
 case round=>
  obtain⟨j,hj,rfl,hoa,hob,xg,har,aNr,aUD,HCR,dH⟩:=hrel;have aPs:=dH.size;obtain⟨J0,D8⟩:=x_n (2*j);have uA:IntKind.i64.wrap ((j:Int)*2)=(J0:Int):=wi;have uB:IntKind.i64.wrap (2*(j:Int))=(J0:Int):=wi;by_cases fF:j<m
  .obtain⟨J1,TA⟩:=x_n (2*j+1);have uC:IntKind.i64.wrap ((J0:Int)+1)=(J1:Int):=wi;have hLm:=HLm.out;have i0:(J0:Int)<(L:Int):=om;have i1:(J1:Int)<(L:Int):=om;obtain⟨x1,x2,hx⟩:∃x1 x2,zs (2*j)=(x1,x2):=⟨_,_,rfl⟩;obtain⟨y1,y2,hy⟩:∃y1 y2,zs (2*j+1)=(y1,y2):=⟨_,_,rfl⟩;obtain⟨r,s,FK⟩:∃r s,o.rt (k+2) (2*j)=(r,s):=⟨_,_,rfl⟩;have p0:aA wr bx (J0*2) (Y x1):=by have:=dH.old (HX (2*(2*j)) om);rw[eP,hx]at this;rw[D8,Nat.mul_comm];exact this
   have p1:aA wr bx (J0*2+1) (Y x2):=by have:=dH.old (HX (2*(2*j)+1) om);rw[eU,hx]at this;rw[D8,Nat.mul_comm];exact this
   have p2:aA wr bx (J1*2) (Y y1):=by have:=dH.old (HX (2*(2*j+1)) om);rw[eP,hy]at this;rw[TA,Nat.mul_comm];exact this
   have p3:aA wr bx (J1*2+1) (Y y2):=by have:=dH.old (HX (2*(2*j+1)+1) om);rw[eU,hy]at this;rw[TA,Nat.mul_comm];exact this
   have p4:aA wr br (J0*2) (Y r):=by have:=HCR (2*(2*j)) (by omega);rw[eP,FK]at this;rw[D8,Nat.mul_comm];exact this
   have p5:aA wr br (J0*2+1) (Y s):=by have:=HCR (2*(2*j)+1) (by omega);rw[eU,FK]at this;rw[D8,Nat.mul_comm];exact this
   have wX:=HCS (2*j);have wY:=HCS (2*j+1);have wR:=HI.rt (k+2) (2*j);rw[hx]at wX;rw[hy]at wY;rw[FK]at wR;have G0:KB 213 #[Y s] (Y (vM s)):=λw'=>UQ wR.2 w';obtain⟨a,ha⟩:=dK (o.cAdd (x1,x2) (y1,y2));obtain⟨d,hd⟩:=dK (o.cSub (x1,x2) (y1,y2));obtain⟨e,he⟩:=dK (o.cMul d (r,vM s));have wa:=HI.cAdd (show rU (x1,x2) from wX) (show rU (y1,y2) from wY);have wd:=HI.cSub (show rU (x1,x2) from wX) (show rU (y1,y2) from wY);rw[ha]at wa;rw[hd]at wd;have we:=HI.cMul wd (show rU (r,vM s) from ⟨wR.1,EW wR.2⟩);rw[he]at we;have G1:=HSu x1 x2 y1 y2 wX.1 wX.2 wY.1 wY.2;rw[ha]at G1;have G2:=HHa a.1 a.2 wa.1 wa.2;have G3:=HDi x1 x2 y1 y2 wX.1 wX.2 wY.1 wY.2;rw[hd]at G3;have G4:=HPr d.1 d.2 r (vM s) wd.1 wd.2 wR.1 (EW wR.2);rw[show(d.1,d.2)=d from rfl,he]at G4;have G5:=HHa e.1 e.2 we.1 we.2;have sA:o.J_ zs j=o.rP (a.1,a.2):=by unfold Ops.J_;rw[hx,hy,ha]
   have sB:o.OA (k+2) zs j=o.rP (e.1,e.2):=by
    show o.rP (o.cMul (o.cSub (zs (2*j)) (zs (2*j+1))) (XA (o.rt (k+2) (2*j))))=_;rw[hx,hy,FK,hd];show o.rP (o.cMul d (r,vM s))=_;rw[he]
   obtain⟨f1,f2,hf⟩:∃f1 f2,o.rP (a.1,a.2)=(f1,f2):=⟨_,_,rfl⟩;obtain⟨g1,g2,hg⟩:∃g1 g2,o.rP (e.1,e.2)=(g1,g2):=⟨_,_,rfl⟩;rw[hf]at G2 sA;rw[hg]at G5 sB;obtain⟨a1,a2⟩:=a;obtain⟨d1,d2⟩:=d;obtain⟨e1,e2⟩:=e;dsimp only at G1 G2 G3 G4 G5;have q0:Hid (flat (o.J_ zs) (j*2+0)=f1):=by show _=_;rw[(om:j*2+0=2*j),eP,sA]
   have q1:Hid (flat (o.J_ zs) (j*2+1)=f2):=by show _=_;rw[(om:j*2+1=2*j+1),eU,sA]
   have q2:Hid (flat (o.OA (k+2) zs) (j*2+0)=g1):=by show _=_;rw[(om:j*2+0=2*j),eP,sB]
   have q3:Hid (flat (o.OA (k+2) zs) (j*2+1)=g2):=by show _=_;rw[(om:j*2+1=2*j+1),eU,sB]
   generalize vM s=s' at*
   have F1:Hid _:=G1;have F2:Hid _:=G2;have F3:Hid _:=G3;have F4:Hid _:=G4;have F5:Hid _:=G5;have HOA:Hid (∀w',Gb wr w'->Ow w' w.heap.size 123 2 O _ j (flat (o.J_ zs))):=λw' hg=>hoa.gb hg;have HOB:Hid (∀w',Gb wr w'->Ow w' w.heap.size 123 2 O _ j (flat (o.OA (k+2) zs))):=λw' hg=>hob.gb hg;have HAx:Hid _:=hoa.aI5 Qx;have HBx:Hid _:=hob.aI5 Qx;have HAw:Hid _:=λp (hp:wr.heap.size<=p)=>hoa.ne hp;have HBw:Hid _:=λp (hp:wr.heap.size<=p)=>hob.ne hp;have HAB:Hid _:=xg;have HAr:Hid _:=har;have HJ0:Hid _:=D8;have HBr:Hid _:=aNr;clear hoa hob xg har aNr G1 G2 G3 G4 G5 sA sB hf hg ha hd he wa wd we wX wY wR hx hy FK D8 TA hLm HPr HSu HDi HHa;go_wp2;go_cut [9] from 44 to 98 (λs9 wx=>∃bt:Nat,s9=.pointer (D ⟨bt,0,I⟩)/\aA wx bt 0 (Y r)/\aA wx bt 1 (Y s')/\wr.heap.size<=bt/\Gb wr wx)
   case first=>
    go_region_held3 (λw'=>aA w' br (J0*2) (Y r)/\aA w' br (J0*2+1) (Y s))(exact nX)(first|(go_at_call 213;with_reducible refine ku (G0.out _) λw2 aB=>?_;have lu:=aB.size;(try simp only[World.size_alloc,World.size_drew,World.size_setCell]at lu);(try (have bx0:aA w2 wr.heap.size 0 (Y 0):=aB.old (by simp[go_sem]);have bx1:aA w2 wr.heap.size 1 (Y 0):=aB.old (by simp[go_sem]);have bz0:dB w2 wr.heap.size 0:=aB.FT (v:=Y 0) (by simp[go_sem]) (rZ (cu (TB (Nat.le_refl _))));have bz1:dB w2 wr.heap.size 1:=aB.FT (v:=Y 0) (by simp[go_sem]) (rZ (cu (TB (Nat.le_refl _))))))))
    all_goals (go_wp2;go_meet)<;>exact⟨_,rfl,kb,kb,om,kg⟩
   case rest=>
    obtain⟨bt,rfl,c0,c1,hbt,hgt⟩:=hcut;have n0:aA wc bx (J0*2) (Y x1):=hgt.old p0;have n1:aA wc bx (J0*2+1) (Y x2):=hgt.old p1;have n2:aA wc bx (J1*2) (Y y1):=hgt.old p2;have n3:aA wc bx (J1*2+1) (Y y2):=hgt.old p3;have aSu:=au c0;have aRM:=hgt.size;clear p0 p1 p2 p3 p4 p5;go_wp2;go_region_held3 (λw'=>kM w' bt 0 1 (Y r) (Y s')/\aA w' bx (J0*2) (Y x1)/\aA w' bx (J0*2+1) (Y x2)/\aA w' bx (J1*2) (Y y1)/\aA w' bx (J1*2+1) (Y y2))(exact nX)(first|(go_at_call 210;with_reducible refine ku (F1.out _) λw2 aB=>?_;have lu:=aB.size;(try simp only[World.size_alloc,World.size_drew,World.size_setCell]at lu))|(go_at_call 214;with_reducible refine ku (F2.out _) λw3 aK=>?_;have Pq:=aK.size;(try simp only[World.size_alloc,World.size_drew,World.size_setCell]at Pq))|(refine KQ rfl _ _ 119 rfl 123 (.agg #[Y 0,Y 0]) 2 16 O Tryz.underlying119 Nh rfl de de w.heap.size j 1 (flat (o.J_ zs)) _ w3.heap.size rfl (HOA _ kg) rfl (J9 1 2 rfl (by simp[go_sem]) (by simp[go_sem]) q0.out q1.out) om om (by simp[go_sem];omega) ?_;intro v4 w4 Ba pz ug aJr;have r0:aA w4 bx (J0*2) (Y x1):=iC ug kb HAx.out;have r1:aA w4 bx (J0*2+1) (Y x2):=iC ug kb HAx.out;have r2:aA w4 bx (J1*2) (Y y1):=iC ug kb HAx.out;have r3:aA w4 bx (J1*2+1) (Y y2):=iC ug kb HAx.out;have r4:aA w4 bt 0 (Y r):=iC ug kb (HAw _ hbt);have r5:aA w4 bt 1 (Y s'):=iC ug kb (HAw _ hbt)))
    all_goals
     have gq:Gb wr (w3.alloc (.cells #[Y f1,Y f2] 123)):=kg;have hsq:=gq.size;have hs4:=pz.size;simp only[World.size_alloc]at hsq hs4 aJr;have aLQ:=Ow.aLM ug (HOB _ gq) (λp hb ha=>HAB p ha hb);have aSl:Gb w w4:=Gb.below (dH.trans gq) pz (Nat.le_refl _);have HC4:Hid (∀q,q<L*2->aA w4 br q (Y (flat (o.rt (k+2)) q))):=λq hq=>iC ug (gq.old (HCR q hq)) HAr.out;have aQM:Hid (∀p,v4.ownBlock=D p->u6.ownBlock≠D p):=λp h4=>by
      rcases aJr with e|e
      .rw[e]at h4;exact HAB p h4
      .rw[e]at h4;injection h4 with h4;exact HBw p om
     have aTf:Hid (v4.ownBlock≠D br):=by
      rcases aJr with e|e
      .show _≠_;rw[e];exact HAr.out
      .show _≠_;rw[e];intro h;injection h with h;omega
     have HO4:Hid (∀w',Gb w4 w'->Ow w' w.heap.size 123 2 O v4 (j+1) (flat (o.J_ zs))):=λw' hg=>Ba.gb hg;have HL4:Hid (∀p,v4.ownBlock=D p->p<w4.heap.size):=λp h=>(World.ownsRow.lt Ba p h).2;have aTd:Hid (∀w',Gb w4 w'->Ow w' w.heap.size 123 2 O u6 j (flat (o.OA (k+2) zs))):=λw' hg=>aLQ.gb hg;have aUo:wr.heap.size<=w4.heap.size:=om;clear ug aJr Ba aLQ pz gq aB aK lu Pq
     (try go_split_ands)
     go_wp2;go_region_held3 (λw'=>kM w' bt 0 1 (Y r) (Y s')/\aA w' bx (J0*2) (Y x1)/\aA w' bx (J0*2+1) (Y x2)/\aA w' bx (J1*2) (Y y1)/\aA w' bx (J1*2+1) (Y y2))(exact nX)(first|(go_at_call 211;with_reducible refine ku (F3.out _) λw5 bJ=>?_;have hz5:=bJ.size;(try simp only[World.size_alloc,World.size_drew,World.size_setCell]at hz5))|(go_at_call 122;with_reducible refine ku (F4.out _) λw6 fK=>?_;have hz6:=fK.size;(try simp only[World.size_alloc,World.size_drew,World.size_setCell]at hz6))|(go_at_call 214;with_reducible refine ku (F5.out _) λw7 ji=>?_;have hz7:=ji.size;(try simp only[World.size_alloc,World.size_drew,World.size_setCell]at hz7))|(refine KQ rfl _ _ 119 rfl 123 (.agg #[Y 0,Y 0]) 2 16 O Tryz.underlying119 Nh rfl de de w.heap.size j 1 (flat (o.OA (k+2) zs)) _ w7.heap.size rfl (aTd _ kg) rfl (J9 1 2 rfl (by simp[go_sem]) (by simp[go_sem]) q2.out q3.out) om om (by simp[go_sem];omega) ?_;intro v8 w8 aPy hb8 hk8 aNt;have r0:aA w8 bx (J0*2) (Y x1):=iC hk8 kb HBx.out;have r1:aA w8 bx (J0*2+1) (Y x2):=iC hk8 kb HBx.out;have r2:aA w8 bx (J1*2) (Y y1):=iC hk8 kb HBx.out;have r3:aA w8 bx (J1*2+1) (Y y2):=iC hk8 kb HBx.out;have r4:aA w8 bt 0 (Y r):=iC hk8 kb (HBw _ hbt);have r5:aA w8 bt 1 (Y s'):=iC hk8 kb (HBw _ hbt)))
     all_goals
      have gq8:Gb w4 (w7.alloc (.cells #[Y g1,Y g2] 123)):=kg;have aRR:=gq8.size;have hs8:=hb8.size;simp only[World.size_alloc]at aRR hs8 aNt;have aR6:=Ow.aLM hk8 (HO4 _ gq8) aQM.out;have aSk:Gb w w8:=Gb.below (aSl.trans gq8) hb8 (Nat.le_refl _);have HC8:Hid (∀q,q<L*2->aA w8 br q (Y (flat (o.rt (k+2)) q))):=λq hq=>iC hk8 (gq8.old (HC4 q hq)) HBr.out;have hd8:∀p,v4.ownBlock=D p->v8.ownBlock≠D p:=λp h4=>by
       rcases aNt with e|e
       .rw[e];exact aQM p h4
       .rw[e];intro h;injection h with h;have:=HL4 p h4;omega
      have aSA:v8.ownBlock≠D br:=by
       rcases aNt with e|e
       .rw[e];exact HBr.out
       .rw[e];intro h;injection h with h;omega
      go_wp2;go_roundw
      case rel=>exact⟨j+1,om,by go_num,aR6,aPy,hd8,aTf.out,aSA,om,HC8.out,aSk⟩
      case measure=>exact uz
  .obtain rfl:j=m:=om;have iL:¬(J0:Int)<(L:Int):=by have:=HLm.out;omega
   have hra:=hoa.rd;have hrb:=hob.rd;clear hoa hob xg har aNr D8 HPr HSu HDi HHa HCR
   rename World=>X
   go_upto_region 15 with(go_at_call 123;refine(HB _ _ (o.J_ zs) wA.out hra).mono ?_;rintro e w2 ⟨ba,ca,rfl,hba,Z_,aB⟩);go_upto_region 16 with(go_at_call 123;refine(HB _ _ (o.OA (k+2) zs) wB.out (hrb.gb aB)).mono ?_;rintro e w3 ⟨bb,cb,rfl,Tn,zW,aK⟩);have HCA:Hid (∀q,q<L->aA w3 ba q (Y (o.bk (k+1) (o.J_ zs) q))):=λq hq=>aK.old (Z_ q hq);have HCB:Hid _:=zW;have hgX:Gb w w3:=(dH.trans aB).trans aK;have aRN:=hgX.size;have hs3:=aK.size;clear Z_ zW hra hrb dH aB aK HB;go_wp2;go_loopw [12,13] (λf i wr=>∃i':Nat,i'<=L/\i=J i'/\Ow wr w3.heap.size 71 1 O f (2*i') (o.bk (k+2) zs)/\Gb w3 wr) (λ_ i _=>L-(intOf i).toNat)
   case atStart=>exact⟨0,Nat.zero_le _,rfl,Ow.lit w3 _ _ _ _,kg⟩
   case round=>
    obtain⟨i,hi,rfl,iU,hgr⟩:=hrel;have hsr:=hgr.size;by_cases fF:i<L
    .have jc:(i:Int)<(L:Int):=om;obtain⟨x,hx⟩:=dK (o.bk (k+1) (o.J_ zs) i);obtain⟨y,hy⟩:=dK (o.bk (k+1) (o.OA (k+2) zs) i);have p0:wr.cell? ⟨ba,i,I⟩=D (Y x):=by rw[<-hx];exact hgr.old (HCA i fF)
     have p1:wr.cell? ⟨bb,i,I⟩=D (Y y):=by rw[<-hy];exact hgr.old (HCB i fF)
     have e0:Hid (o.bk (k+2) zs (2*i*1+0)=x):=by show _=_;rw[(om:2*i*1+0=2*i)];simp only[Ops.bk];rw[if_pos om,(om:2*i/2=i),hx]
     have e1:Hid (o.bk (k+2) zs (2*i*1+1)=y):=by show _=_;rw[(om:2*i*1+1=2*i+1)];simp only[Ops.bk];rw[if_neg om,(om:(2*i+1)/2=i),hy]
     have BH:Hid _:=λw' (hg:Gb wr w')=>Ow.gb iU hg;have HNa:Hid _:=iU.aI5 (om:ba<w3.heap.size);have HNb:Hid _:=iU.aI5 Tn;clear iU hx hy;go_wp2;go_region_held3 (λw'=>aA w' ba i (Y x)/\aA w' bb i (Y y))(exact nX)(first|(refine step_more rfl _ _ 47 rfl 71 (Y 0) 1 8 O Tryz.underlying47 SY rfl de de w3.heap.size (2*i) 2 (o.bk (k+2) zs) _ wr.heap.size rfl (BH _ kg) rfl (J9 (g:=o.bk (k+2) zs) (m:=2*i*1) 2 1 rfl (by simp[go_sem]) (by simp[go_sem]) e0.out e1.out) om om (by simp[go_sem];omega) ?_;intro v4 w4 Ba pz ug _;have r0:aA w4 ba i (Y x):=ug _ _ _ kb HNa.out;have r1:aA w4 bb i (Y y):=ug _ _ _ kb HNb.out))
     all_goals
      go_wp2;go_roundw
      case rel=>exact⟨i+1,om,by go_num,Ba,Gb.below kg pz (Nat.le_refl _)⟩
      case measure=>exact uz
    .obtain rfl:i=L:=om;have D6:¬(i:Int)<(i:Int):=om;have X8:Gb w wr:=hgX.trans hgr;have eZ:2^(k+2)=2*i:=by have:=HZe.out;have:=HZL.out;omega
     have Pz:=Ow.mono iU aRN;clear iU;go_wp2;go_returns;exact⟨_,rfl,Pz,X8⟩
def aBE(H:o.S)(HI:o.In):∀k:Nat,1<=k->k<=6->X6 o k
 |0,h,_=>absurd h om
 |1,_,_=>aDR o
 |k+2,_,h=>aAw H HI k h (aBE H HI (k+1) om om)
def aKt{P:Prop}(h:P:=by
 generalize f j=x at*
 have x0:¬x< -2047:=by have:=hb.1;omega
 have x1:¬2047<x:=by have:=hb.2;omega
 clear hb;go_wp2;go_roundw
 case rel=>exact⟨j+1,om,by go_num,trivial⟩
 case measure=>simp[intOf]<;>omega):P:=h
def iD(w:World)(v:Value)(n:Nat)(g:Nat->Int):Prop:=
 ∃a cap,v=.slice a n cap/\n<=cap/\cap<=maxLen/\(0<n->∃b o,a=D ⟨b,o,I⟩/\∀j,j<n->aA w b (o+j) (J (g j)))
def iD.gb(h:iD w v n g)(hg:Gb w w'):iD w' v n g:=by
 obtain⟨a,cap,h1,h2,h3,h4⟩:=h;refine⟨a,cap,h1,h2,h3,λhn=>?_⟩;obtain⟨b,o,hb,hc⟩:=h4 hn;exact⟨b,o,hb,λj hj=>hg.old (hc j hj)⟩
def iD.at(h:iD w v n g)(hn:0<n):∃b o cap,v=.slice (D ⟨b,o,I⟩) n cap/\n<=cap/\cap<=maxLen/\∀j,j<n->aA w b (o+j) (J (g j)):=by
 obtain⟨a,cap,h1,h2,h3,h4⟩:=h;obtain⟨b,o,rfl,hc⟩:=h4 hn;exact⟨b,o,cap,h1,h2,h3,hc⟩
def Rd.ro(h:Rd w .i64 v n n g):iD w v n g:=by
 obtain⟨a,cap,h1,h2,h3,h4⟩:=h;refine⟨a,cap,h1,h2,h3,λhn=>?_⟩;obtain⟨b,hb,hc⟩:=h4 hn;exact⟨b,0,hb,λj hj=>by rw[Nat.zero_add];exact hc j hj⟩
def Ul(x:Int):Prop:=-2047<=x/\x<=2047
def aNb(n:Nat)(f:Nat->Int):(∀i,i<n->Ul (f i))\/∃m,m<n/\(∀i,i<m->Ul (f i))/\¬Ul (f m):=by
 induction n with
 |zero=>exact .inl (λi hi=>absurd hi om)
 |succ n ih=>
  rcases ih with h|⟨m,hm,h,hn⟩
  .by_cases hb:Ul (f n)
   .exact .inl λi hi=>by
     rcases(om:i<n\/i=n)with h1|rfl
     .exact h i h1
     .exact hb
   .exact .inr ⟨n,om,h,hb⟩
  .exact .inr ⟨m,om,h,hn⟩
def aDO(hr:iD w v L f)(n:Int)(hn:(L:Int)≠n):
  QW 119 #[v,J n] w (.bool false):=by
 obtain⟨a,ca,rfl,_⟩:=hr;go_enter func119,ntmps119;go_wp2;go_returns;exact⟨rfl,rfl⟩
def FY(hr:iD w v L f)(jm:0<L)(hL:L<=2000000)(h:∀i,i<L->Ul (f i))(n:Int)(hn:(L:Int)=n):
  QW 119 #[v,J n] w (.bool true):=by
 subst hn;obtain⟨b,q0,cap,rfl,_,_,hc⟩:=hr.at jm;have HC:Hid _:=hc;have HB:Hid _:=h;clear hr hc h;go_enter func119,ntmps119;go_wp2;go_loopw [5] (λi wr=>∃j:Nat,j<=L/\i=J j/\w=wr) (λi _=>L-(intOf i).toNat)
 case atStart=>exact⟨0,Nat.zero_le _,rfl,rfl⟩
 case round=>
  obtain⟨j,hj,rfl,rfl⟩:=hrel;by_cases fF:j<L
  .have jc:(j:Int)<(L:Int):=om;have hb:=HB j fF;have c0:aA w b (q0+j) (J (f j)):=HC _ om;exact aKt
  .obtain rfl:j=L:=om;have D6:¬(j:Int)<(j:Int):=om;go_wp2;go_returns;exact⟨rfl,rfl⟩
def aHs(hr:iD w v L f)(hL:L<=2000000)(m:Nat)(hm:m<L)(h:∀i,i<m->Ul (f i))(CP:¬Ul (f m))(n:Int)(hn:(L:Int)=n):
  QW 119 #[v,J n] w (.bool false):=by
 subst hn;obtain⟨b,q0,cap,rfl,_,_,hc⟩:=hr.at om;have HC:Hid _:=hc;have HB:Hid _:=h;have HN:Hid _:=CP;clear hr hc h CP;go_enter func119,ntmps119;go_wp2;go_loopw [5] (λi wr=>∃j:Nat,j<=m/\i=J j/\w=wr) (λi _=>L-(intOf i).toNat)
 case atStart=>exact⟨0,Nat.zero_le _,rfl,rfl⟩
 case round=>
  obtain⟨j,hj,rfl,rfl⟩:=hrel;have jc:(j:Int)<(L:Int):=om;have c0:aA w b (q0+j) (J (f j)):=HC _ om;by_cases fF:j<m
  .have hb:=HB j fF;exact aKt
  .obtain rfl:j=m:=om;have hb:f j< -2047\/¬f j< -2047/\2047<f j:=by
    rcases(om:f j< -2047\/(¬f j< -2047/\2047<f j)\/(-2047<=f j/\f j<=2047))with h|h|h
    .exact .inl h
    .exact .inr h
    .exact absurd h HN.out
   generalize f j=x at*
   rcases hb with x0|⟨x0,x1⟩
   .go_wp2;go_returns;exact⟨rfl,rfl⟩
   .go_wp2;go_returns;exact⟨rfl,rfl⟩
def aAC(H:o.S)(hr:iD w v L f)(jm:0<L)(hL:L<=2000000)(h:∀i,i<L->Ul (f i)):
  CT 121 #[v] w λe w'=>∃v',e=U v'/\Ow w' w.heap.size 71 1 O v' L (λj=>o.int (f j))/\Gb w w':=by
 obtain⟨b,q0,cap,rfl,_,_,hc⟩:=hr.at jm;have HC:Hid _:=hc;have HW:Hid (∀j,j<L->∀w,QB 111 #[J (f j)] w (Y (o.int (f j)))):=λj hj w=>Kt H (f j) (h j hj).1 (h j hj).2 w;have hb:=au (hc 0 om);clear hr hc h H;go_enter func121,ntmps121;go_wp2;go_loopw [3,4] (λs i wr=>∃j:Nat,j<=L/\i=J (j:Int)/\Ow wr w.heap.size 71 1 O s j (λm=>o.int (f m))/\Gb w wr) (λ_ i _=>L-(intOf i).toNat)
 case atStart=>exact⟨0,Nat.zero_le _,rfl,Ow.lit w _ _ _ _,kg⟩
 case round=>
  obtain⟨j,hj,rfl,iU,dH⟩:=hrel;have HO:Hid _:=iU;have uF:=dH.size;by_cases fF:j<L
  .have jc:(j:Int)<(L:Int):=om;have HWj:Hid _:=HW j fF;obtain⟨x,hx⟩:=dK (f j);obtain⟨z,hz⟩:=dK (o.int (f j));have x0:wr.cell? ⟨b,q0+j,I⟩=D (J x):=by rw[<-hx];exact dH.old (HC j om)
   have e0:Hid ((λm=>o.int (f m)) (j*1+0)=z):=by show _=_;rw[<-hz,Nat.mul_one,Nat.add_zero]
   rw[hz,hx]at HWj;have BH:Hid (∀w2,Gb wr w2->Ow w2 w.heap.size 71 1 O _ j (λm=>o.int (f m))):=λw2 hg=>iU.gb hg;clear iU hx hz;go_wp2_with (first|(go_at_call 111;refine ku (HWj _) λw2 aB=>?_)|(at_builtin;refine lG rfl _ _ 47 rfl 71 (Y 0) 1 8 O Tryz.underlying47 SY rfl de de w.heap.size j 1 (λm=>o.int (f m)) _ w2.heap.size rfl (BH _ kg) rfl (Ag (g:=λm=>o.int (f m)) (m:=j*1) (by simp[go_sem]) e0.out) om om (by have:=aB.size;rw[World.size_alloc];omega) ?_;intro v' w3 oD qm _ _))
   go_roundw
   case rel=>exact⟨j+1,om,by go_num,oD,Gb.below kg qm (Nat.le_refl _)⟩
   case measure=>exact uz
  .obtain rfl:j=L:=om;have jc:¬(j:Int)<(j:Int):=om;clear iU;go_wp2;go_returns;exact⟨_,rfl,HO.out,dH⟩
abbrev CW(F:Nat)(K:Int)(vf vg:Value)(w:World):Prop:=Calls Tryz.prog F #[J K,vf,vg] w λe w'=>∃v,e=U (.tuple #[v,.bool false])/\Ow w' w.heap.size 3 1 .i64 v 0 (λ_=>0)/\Gb w w'
def aIi(K:Int)(h:K<1\/¬K<1/\6<K)(vf vg:Value)(w:World):CW 53 K vf vg w:=by
 rcases h with h|⟨h,h'⟩
 .go_enter func53,ntmps53;go_wp2;go_returns;exact⟨_,rfl,Ow.lit w _ _ _ _,kg⟩
 .go_enter func53,ntmps53;go_wp2;go_returns;exact⟨_,rfl,Ow.lit w _ _ _ _,kg⟩
def aIk(K N:Int)(k1:¬K<1)(k6:¬6<K)(vf vg:Value)(w:World)(HN:KW 46 #[J K] (J N))
  (HF:Hid (QW 119 #[vf,J N] w (.bool false))):CW 53 K vf vg w:=by
 go_enter func53,ntmps53;go_wp2_with (first|(go_at_call 46;refine kw (HN _) ?_)|(go_at_call 119;refine HF.out.mono ?_;rintro e wk ⟨rfl,hwk⟩;subst hwk))
 go_returns;exact⟨_,rfl,Ow.lit w _ _ _ _,kg⟩
def aIj(K N:Int)(k1:¬K<1)(k6:¬6<K)(vf vg:Value)(w:World)(HN:KW 46 #[J K] (J N))
  (HF:Hid (QW 119 #[vf,J N] w (.bool true))) (HG:Hid (QW 119 #[vg,J N] w (.bool false))):CW 53 K vf vg w:=by
 go_enter func53,ntmps53;go_wp2_with (first|(go_at_call 46;refine kw (HN _) ?_)|(go_at_call 119;first|(with_reducible refine HF.out.mono ?_;rintro e wk ⟨rfl,hwk⟩;subst hwk)|(with_reducible refine HG.out.mono ?_;rintro e wk ⟨rfl,hwk⟩;subst hwk)))
 go_returns;exact⟨_,rfl,Ow.lit w _ _ _ _,kg⟩
def aM8:(Tryz.prog.info? 3).map (λi=>(i.zero,i.size,i.bytes))=D (D (J 0),1,8):=by kernel_rfl
structure Mk (w w':World) (v:Value):Prop where
 os:w'.os=w.os
 tape:w'.tape=w.tape
 output:w'.output=w.output
 size:w'.heap.size=w.heap.size
 block:∀p,v.ownBlock≠D p->w'.heap[p]?=w.heap[p]?
def Mk.refl(w:World)(v:Value):Mk w w v:=⟨rfl,rfl,rfl,rfl,λ_ _=>rfl⟩
def Mk.set(h:Mk w w' (aC b n cap))(j:Nat)(u:Value):Mk w (w'.setCell ⟨b,j,I⟩ u) (aC b n cap):=by
 refine⟨h.os,h.tape,h.output,by simp[h.size],λp hp=>?_⟩;rw[Below.heap_setCell _ _ _ _ (λe=>hp (by rw[e];rfl))];exact h.block p hp
def Mk.below(h:Mk w w' v)(hv:∀p,v.ownBlock=D p->base<=p):Below base w w':=by
 refine⟨h.os,h.tape,h.output,Nat.le_of_eq h.size.symm,λp hp=>h.block p λe=>?_⟩;have:=hv p e;omega
def Mk.cell(h:Mk w w' v):∀p off u,aA w p off u->v.ownBlock≠D p->aA w' p off u:=λp off u hu jV=>(World.cell?_of_block (w:=w) (a:=⟨p,off,I⟩) (h.block p jV)).trans hu
def Rd.mk(h:Mk w w' v)(hr:Rd w k u n m g)(jV:∀p,u.ownBlock=D p->v.ownBlock≠D p):Rd w' k u n m g:=by
 obtain⟨a,cap,rfl,h2,h3,h4⟩:=hr;refine⟨a,cap,rfl,h2,h3,λhn=>?_⟩;obtain⟨b,rfl,hc⟩:=h4 hn;exact⟨b,rfl,λj hj=>h.cell _ _ _ (hc j hj) (jV b rfl)⟩
def Ow.mk(h:Mk w w' v)(ho:Ow w base t size k u n g)(jV:∀p,u.ownBlock=D p->v.ownBlock≠D p):Ow w' base t size k u n g:=by
 refine⟨ho.1,?_⟩;rcases ho.2 with hn|⟨b,cap,cur,rfl,hb,hh,rest⟩
 .exact .inl hn
 .refine .inr ⟨b,cap,cur,rfl,hb,?_,rest⟩;rw[h.block b (jV b rfl)];exact hh
def aAA(w:World)(k:IntKind)(a:Option Addr)(n:Nat)(g:Nat->Int):Prop:=n=0\/∃b off,a=D ⟨b,off,I⟩/\∀i,i<n->aA w b (off+i) (.int k (g i))
def aAA.gb{a:Option Addr}(h:aAA w k a n g)(hg:Gb w w'):aAA w' k a n g:=by
 rcases h with h|⟨b,off,e,hc⟩
 .exact .inl h
 .exact .inr ⟨b,off,e,λi hi=>hg.old (hc i hi)⟩
def aBV(K N:Int)(n h:Nat)(hn:n<=128)(hh:h<=128)(Nu:0<n)(Qv:0<h)(k1:¬K<1)(k6:¬6<K)(vf vg:Value)(w:World)(cf cg cs tz:Nat->Int)(zf zg zp:Nat->Int × Int)
  (HN:KW 46 #[J K] (J N))
  (HF:Hid (QW 119 #[vf,J N] w (.bool true))) (HG:Hid (QW 119 #[vg,J N] w (.bool true)))
  (HWf:Hid (∀w',Gb w w'->CT 121 #[vf] w' λe aT=>∃v,e=U v/\Rd aT O v n n cf/\Gb w' aT))
  (HWg:Hid (∀w',Gb w w'->CT 121 #[vg] w' λe aT=>∃v,e=U v/\Rd aT O v n n cg/\Gb w' aT))
  (HTf:Hid (∀w' u,Rd w' O u n n cf->CT 120 #[J K,u] w' λe aT=>∃b cap,e=U (aC b h cap)/\b<aT.heap.size/\(∀q,q<h*2->aA aT b q (Y (flat zf q)))/\Gb w' aT))
  (HTg:Hid (∀w' u,Rd w' O u n n cg->CT 120 #[J K,u] w' λe aT=>∃b cap,e=U (aC b h cap)/\b<aT.heap.size/\(∀q,q<h*2->aA aT b q (Y (flat zg q)))/\Gb w' aT))
  (HP:Hid (∀j,j<h->∀w',QB 122 #[aN ((zf j).1) ((zf j).2),aN ((zg j).1) ((zg j).2)] w' (aN ((zp j).1) ((zp j).2))))
  (HB:Hid (∀w' u,Rd w' O u h (h*2) (flat zp)->CT 123 #[J K,u] w' λe aT=>∃b cap,e=U (aC b n cap)/\b<aT.heap.size/\(∀q,q<n->aA aT b q (Y (cs q)))/\Gb w' aT))
  (HI:Hid (∀j,j<n->∀w',CT 69 #[J 1,J 0,J 1,Y (cs j)] w' λe aT=>∃fl:Int,e=U (aP (tz j) fl)/\Gb w' aT)):
  CT 53 #[J K,vf,vg] w λe w'=>∃v,e=U (.tuple #[v,.bool true])/\Ow w' w.heap.size 3 1 .i64 v n (λj=>IntKind.i64.wrap (tz j))/\Gb w w':=by
 have hf:=xH;go_enter func53,ntmps53;go_upto_region 3 with(first|(go_at_call 46;refine kw (HN _) ?_)|(go_at_call 119;first|(with_reducible refine HF.out.mono ?_;rintro e wk ⟨rfl,hwk⟩;subst hwk)|(with_reducible refine HG.out.mono ?_;rintro e wk ⟨rfl,hwk⟩;subst hwk)))
 clear HN HF HG;go_upto_region 4 with(first|(go_at_call 121;refine(HWf _ kg).mono ?_;rintro e w1 ⟨u1,rfl,tK,ak⟩)|(go_at_call 120;refine(HTf _ _ tK).mono ?_;rintro e w2 ⟨ba,ca,rfl,hba,Z_,aB⟩))
 go_upto_region 5 with(first|(go_at_call 121;refine(HWg _ kg).mono ?_;rintro e w3 ⟨u3,rfl,hr3,aK⟩)|(go_at_call 120;refine(HTg _ _ hr3).mono ?_;rintro e W ⟨bb,cb,rfl,Tn,zW,CO⟩))
 have gA:Gb w2 W:=aK.trans CO;have HCA:Hid (∀q,q<h*2->aA W ba q (Y (flat zf q))):=λq hq=>gA.old (Z_ q hq);have HCB:Hid _:=zW;have hgW:Gb w W:=kg;have aNu:ba<W.heap.size:=by have:=gA.size;omega
 have aDv:=hgW.size;clear Z_ zW ak aB aK CO gA HWf HWg HTf HTg tK hr3 hba;go_wp2;go_loopw [10,11] (λf i wr=>∃j:Nat,j<=h/\i=J j/\Ow wr W.heap.size 123 2 O f j (flat zp)/\Gb W wr) (λ_ i _=>h-(intOf i).toNat)
 case atStart=>exact⟨0,Nat.zero_le _,rfl,Ow.lit W _ _ _ _,kg⟩
 case round=>
  obtain⟨j,hj,rfl,iU,dH⟩:=hrel;have uF:=dH.size;by_cases fF:j<h
  .have jc:(j:Int)<(h:Int):=om;obtain⟨a1,jo⟩:=dK ((zf j).1);obtain⟨a2,qo⟩:=dK ((zf j).2);obtain⟨d1,rY⟩:=dK ((zg j).1);obtain⟨d2,Bj⟩:=dK ((zg j).2);obtain⟨t1,ht1⟩:=dK ((zp j).1);obtain⟨t2,ht2⟩:=dK ((zp j).2);have p0:wr.cell? ⟨ba,j*2,I⟩=D (Y a1):=by rw[<-jo,<-eP,Nat.mul_comm];exact dH.old (HCA (2*j) om)
   have p1:wr.cell? ⟨ba,j*2+1,I⟩=D (Y a2):=by rw[<-qo,<-eU,Nat.mul_comm];exact dH.old (HCA (2*j+1) om)
   have p2:wr.cell? ⟨bb,j*2,I⟩=D (Y d1):=by rw[<-rY,<-eP,Nat.mul_comm];exact dH.old (HCB (2*j) om)
   have p3:wr.cell? ⟨bb,j*2+1,I⟩=D (Y d2):=by rw[<-Bj,<-eU,Nat.mul_comm];exact dH.old (HCB (2*j+1) om)
   have G1:=HP j fF;rw[jo,qo,rY,Bj,ht1,ht2]at G1;have F1:Hid _:=G1;have e0:Hid (flat zp (j*2+0)=t1):=by show _=_;rw[(om:j*2+0=2*j),eP,ht1]
   have e1:Hid (flat zp (j*2+1)=t2):=by show _=_;rw[(om:j*2+1=2*j+1),eU,ht2]
   have hOg:=λw' (hg:Gb wr w')=>Ow.gb iU hg;have BH:Hid _:=hOg;have HNa:Hid _:=iU.nlt aNu;have HNb:Hid _:=iU.nlt Tn;clear iU hOg G1 jo qo rY Bj ht1 ht2 HP HB HI;go_wp2;go_region_held3 (λw'=>aA w' ba (j*2) (Y a1)/\aA w' ba (j*2+1) (Y a2)/\aA w' bb (j*2) (Y d1)/\aA w' bb (j*2+1) (Y d2))(exact nX)(first|(go_at_call 122;with_reducible refine ku (F1.out _) λw3 aK=>?_;have Pq:=aK.size;(try simp only[World.size_alloc,World.size_drew,World.size_setCell]at Pq))|(refine step_more rfl _ _ 119 rfl 123 (.agg #[Y 0,Y 0]) 2 16 O Tryz.underlying119 Nh rfl de de W.heap.size j 1 (flat zp) _ w3.heap.size rfl (BH _ kg) rfl (J9 1 2 rfl (by simp[go_sem]) (by simp[go_sem]) e0.out e1.out) om om (by simp[go_sem];omega) ?_;intro v' w4 Ba pz ug _;have r0:aA w4 ba (j*2) (Y a1):=ug _ _ _ kb HNa.out;have r1:aA w4 ba (j*2+1) (Y a2):=ug _ _ _ kb HNa.out;have r2:aA w4 bb (j*2) (Y d1):=ug _ _ _ kb HNb.out;have r3:aA w4 bb (j*2+1) (Y d2):=ug _ _ _ kb HNb.out))
   all_goals
    exact aKs
  .obtain rfl:j=h:=om;have D6:¬(j:Int)<(j:Int):=om;have X8:Gb w wr:=hgW.trans dH;have hrd:=Ow.rd iU;clear iU HCA HCB HP;go_upto_region 11 with(go_at_call 123;refine(HB _ _ hrd).mono ?_;rintro e V ⟨bc,cc,rfl,hbc,Oz,aPR⟩);have hgV:Gb w V:=X8.trans aPR;have HCC:Hid _:=Oz;have aRO:=hgV.size;clear Oz aPR hrd HB X8;go_wp2;go_loopw [13,14] (λf i wr=>∃j:Nat,j<=n/\i=J j/\Ow wr V.heap.size 3 1 .i64 f j (λj=>IntKind.i64.wrap (tz j))/\Gb V wr) (λ_ i _=>n-(intOf i).toNat)
   case atStart=>exact⟨0,Nat.zero_le _,rfl,Ow.lit V _ _ _ _,kg⟩
   case round=>
    obtain⟨i,hi,rfl,iU,FN⟩:=hrel;have aPt:=FN.size;by_cases fF:i<n
    .have jc:(i:Int)<(n:Int):=om;have HIj:Hid _:=HI i fF;have x0:aA wr bc i (Y (cs i)):=FN.old (HCC i om);obtain⟨y,hy⟩:=dK (IntKind.i64.wrap (tz i));have e0:Hid ((λj=>IntKind.i64.wrap (tz j)) (i*1+0)=y):=by show _=_;rw[Nat.mul_one,Nat.add_zero];exact hy
     have BH:Hid (∀w2,Gb wr w2->Ow w2 V.heap.size 3 1 .i64 _ i (λj=>IntKind.i64.wrap (tz j))):=λw2 hg=>Ow.gb iU hg;clear iU;go_wp2_with (first|(go_at_call 69;refine(HIj _).mono ?_;rintro e w2 ⟨fl,rfl,aB⟩)|(at_builtin;refine lG rfl _ _ 80 rfl 3 (J 0) 1 8 .i64 Tryz.underlying80 aM8 rfl de de V.heap.size i 1 (λj=>IntKind.i64.wrap (tz j)) _ w2.heap.size rfl (BH _ kg) rfl (Ag (g:=λj=>IntKind.i64.wrap (tz j)) (m:=i*1) (by simp[go_sem]) e0.out) om om (by have:=aB.size;rw[World.size_alloc];omega) ?_;intro v' w3 oD qm _ _))
     go_roundw
     case rel=>exact⟨i+1,om,by go_num,oD,Gb.below kg qm (Nat.le_refl _)⟩
     case measure=>exact uz
    .obtain rfl:i=n:=om;have jc:¬(i:Int)<(i:Int):=om;have X5:=Ow.mono iU aRO;have hgE:Gb w wr:=hgV.trans FN;clear iU;go_wp2;go_returns;exact⟨_,rfl,X5,hgE⟩
