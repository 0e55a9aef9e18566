import Derived.Test.YthoelefkjpjhfaaGreatDoorN2
set_option linter.all false
set_option maxRecDepth 1000000
set_option maxHeartbeats 40000000
open Option renaming none → I, some → D
open Go.Proofs.YthoelefkjpjhfaaGreatDoor renaming vI → J, vU → Y
open Go.IntKind renaming u64 → O
open Go.Ending renaming returned → U
open Go.Proofs.Tryz
namespace Go.Proofs.YthoelefkjpjhfaaGreatDoor
open Go.RowKit
variable {w w':ak}{v u:Value}{n base size L p b m off cap:Nat}{g f:Nat->Int}{k:IntKind}{o:Ops}{t:TypeId}{a:Act}{Q:Exit->Act->ak->Prop}{ops:Array Oper}{x0 x1:Int}
def aMb{P:Prop}(h:P:=by
 refine Ow.congr (g:=λj=>if j=0 then x else y) this (λj hj=>?_)
 match j,hj with
 |0,_=>exact e0.symm
 |1,_=>exact e1.symm):P:=h
def aMc{P:Prop}(h:P:=by
 go_wp2;go_roundw
 case rel=>exact⟨j+1,om,jS,Dy,Gb.below kg rE (dJ _)⟩
 case measure=>simp[intOf]<;>omega):P:=h
attribute [local go_sem] aB dL
def Ow.nlt(h:Ow w base t size k v n g)(hp:p<base):v.ownBlock≠D p:=λe=>by
 have:=(World.ownsRow.lt h p e).1;omega
def Qc(o:Ops)(k:Nat):Prop:=∀(K:Int) (w:ak) (v:Value) (cs:Nat->Int),K=(k:Int)->Rd w O v (2^k) (2^k) cs->(∀j,Wd (cs j))->
 CT 120 #[J K,v] w λe w'=>∃v',e=U v'/\Ow w' w.heap.size 123 2 O v' (2^(k-1)) (flat (o.tr k cs))/\Gb w w'
def aAg(o:Ops):Qc o 1:=by
 intro K w v cs hK hr wM;obtain rfl:K=1:=hK;have HS:KW 46 #[J 1] (J 2):=λw=>xI 1 1 rfl om 2 rfl w;obtain⟨b,cap,rfl,h1,h2,hc⟩:=hr.at de;have c0:aB w b 0 (Y (cs 0)):=hc 0 de;have c1:aB w b 1 (Y (cs 1)):=hc 1 de;have e0:flat (o.tr 1 cs) 0=cs 0:=rfl;have e1:flat (o.tr 1 cs) 1=cs 1:=rfl;generalize flat (o.tr 1 cs)=f at*
 generalize cs 0=x at*
 generalize cs 1=y at*
 clear hr hc wM;go_enter func120,ntmps120;go_wp2_with (go_at_call 46;refine kw (HS _) ?_);go_region;all_goals go_wp2<;>go_returns
 all_goals
  refine⟨_,rfl,?_,kg⟩;have:=MZ (base:=w.heap.size) (e:=123) (size:=2) w.drew #[Y x,Y y] 1 (dJ _) de rfl;exact aMb
def WV(H:o.S)(HI:o.In)(k:Nat)(hk6:k+2<=6)(IH:Qc o (k+1)):Qc o (k+2):=by
 intro K w v cs hK hr wM;unfold Qc at IH;obtain⟨K1,hK1⟩:=x_n ((k+1:Nat):Int);have uK:IntKind.i64.wrap (K-1)=K1:=by rw[dI];omega
 have k1:¬K<1:=om;have k2:¬(6:Int)<K:=om;have k3:(K==1)=false:=jA;obtain⟨m,hm⟩:=x_n (2^k);have Dp:0<m:=by rw[hm];exact iQ de
 have LY:m<=32:=by
  rw[hm];have:=pU (show 0<2 by decide) (om:k<=5);omega
 have ep1:2^(k+1)=2*m:=by rw[jE,<-hm];omega
 obtain⟨L,hL⟩:=x_n (2^(k+2));have hLm:L=4*m:=by rw[hL,jE,ep1];omega
 rw[<-hL]at hr;have HS:KW 46 #[J K] (J (L:Int)):=λw=>xI K (k+2) hK om L (by rw[hL]) w;have hSp:∀(w':ak) (v':Value) (e:Ending) (f:Nat->Int × Int) (b0:Nat),(∃u,e=U u/\Ow w' b0 123 2 O u m (flat f))->∃b cap,e=U (aF b m cap)/\b<w'.heap.size/\∀q,q<m*2->aB w' b q (Y (flat f q)):=λw' v' e f b0 ⟨u,e1,e2⟩=>by
  obtain⟨b,cap,rfl,_,c2,_,_,c3⟩:=e2.at Dp;exact⟨b,cap,e1,c2,λj hj=>(c3 j hj).1⟩
 have HE:∀(C:Int) (c:Nat),C=(c:Int)->c<=1->Hid (∀w',Gb w w'->CT 208 #[v,J C] w' λe bf=>∃u,e=U u/\Rd bf O u (2^(k+1)) (2^(k+1)) (λq=>cs (2*q+c))/\Gb w' bf):=λC c hC hc w' hg=>(aLa C c hC hc w' v L (2*m) cs (hr.gb hg) om om om).mono λe bf ⟨u,e1,e2,e3⟩=>by
  rw[ep1];have:=e2.rd;rw[kW]at this;exact⟨u,e1,this,e3⟩
 have HT:∀c,Hid (∀w' u,Rd w' O u (2^(k+1)) (2^(k+1)) (λq=>cs (2*q+c))->CT 120 #[J K1,u] w' λe bf=>∃b cap,e=U (aF b m cap)/\b<bf.heap.size/\(∀q,q<m*2->aB bf b q (Y (flat (o.tr (k+1) (λq=>cs (2*q+c))) q)))/\Gb w' bf):=λc w' u hu=>(IH K1 w' u _ hK1 hu (λ_=>wM _)).mono λe bf ⟨v',e1,e2,e3⟩=>by
  rw[(om:k+1-1=k),<-hm]at e2;obtain⟨b,cap,p1,p2,p3⟩:=hSp bf v' e _ _ ⟨v',e1,e2⟩;exact⟨b,cap,p1,p2,p3,e3⟩
 have HE0:Hid (∀w',Gb w w'->CT 208 #[v,J 0] w' λe bf=>∃u,e=U u/\Rd bf O u (2^(k+1)) (2^(k+1)) (λq=>cs (2*q+0))/\Gb w' bf):=HE 0 0 rfl om;have HE1:Hid (∀w',Gb w w'->CT 208 #[v,J 1] w' λe bf=>∃u,e=U u/\Rd bf O u (2^(k+1)) (2^(k+1)) (λq=>cs (2*q+1))/\Gb w' bf):=HE 1 1 rfl om;have HT0:=HT 0;have HT1:=HT 1;obtain⟨R,hR⟩:=x_n (2*m);have HRt:Hid (∀w',CT 209 #[J K] w' λe bf=>∃b cap,e=U (aF b R cap)/\b<bf.heap.size/\(∀q,q<R*2->aB bf b q (Y (flat (o.rt (k+2)) q)))/\Gb w' bf):=λw'=>by
  rw[hK];refine(UD H HI (k+2) om hk6 w').mono λe bf ⟨u,e1,e2,e3⟩=>?_;rw[(om:k+2-1=k+1),ep1,<-hR]at e2;obtain⟨b,cap,rfl,_,c2,_,_,c3⟩:=e2.at om;exact⟨b,cap,e1,c2,λj hj=>(c3 j hj).1,e3⟩
 obtain⟨bx,cx,rfl,hx1,hx2,V3⟩:=hr.at om;have HPr:Hid (∀a1 a2 b1 b2,Wd a1->Wd a2->Wd b1->Wd b2->∀w',QB 122 #[aS a1 a2,aS b1 b2] w' (aS ((o.cMul (a1,a2) (b1,b2)).1) ((o.cMul (a1,a2) (b1,b2)).2))):=λa1 a2 b1 b2 h1 h2 h3 h4 w'=>VJ H HI h1 h2 h3 h4 w';have HSu:Hid (∀a1 a2 b1 b2,Wd a1->Wd a2->Wd b1->Wd b2->∀w',QB 210 #[aS a1 a2,aS b1 b2] w' (aS (o.add a1 b1) (o.add a2 b2))):=λa1 a2 b1 b2 h1 h2 h3 h4 w'=>aIO H h1 h2 h3 h4 w';have HDi:Hid (∀a1 a2 b1 b2,Wd a1->Wd a2->Wd b1->Wd b2->∀w',QB 211 #[aS a1 a2,aS b1 b2] w' (aS (o.sub a1 b1) (o.sub a2 b2))):=λa1 a2 b1 b2 h1 h2 h3 h4 w'=>aCZ H h1 h2 h3 h4 w';have HM:Hid _:=hm;have HLm:Hid _:=hLm;have HEp:Hid _:=ep1;have L6:L<=128:=om;have HCS:Hid _:=wM;have HR2:Hid _:=hR;have aWn:R<=64:=om;clear hr V3 HE HT hSp IH hK hK1 hm hL hLm ep1 wM hR;go_enter func120,ntmps120;go_upto_region 5 with(go_at_call 46;refine kw (HS _) ?_);go_upto_region 6 with(first|(go_at_call 208;refine(HE0 _ kg).mono ?_;rintro e w1 ⟨u1,rfl,wz,au⟩)|(go_at_call 120;refine(HT0 _ _ wz).mono ?_;rintro e w2 ⟨ba,ca,rfl,hba,hca,aC⟩))
 go_upto_region 7 with(first|(go_at_call 208;refine(HE1 _ kg).mono ?_;rintro e w3 ⟨u3,rfl,hr3,aO⟩)|(go_at_call 120;refine(HT1 _ _ hr3).mono ?_;rintro e w4 ⟨bb,cb,rfl,Vr,Ci,bg⟩))
 go_upto_region 8 with(go_at_call 209;refine(HRt _).mono ?_;rintro e W ⟨br,cr,rfl,Iu,hcr,Et⟩);have gA:Gb w2 W:=(aO.trans bg).trans Et;have HCA:Hid (∀q,q<m*2->aB W ba q (Y (flat (o.tr (k+1) (λq=>cs (2*q+0))) q))):=λq hq=>gA.old (hca q hq);have HCB:Hid (∀q,q<m*2->aB W bb q (Y (flat (o.tr (k+1) (λq=>cs (2*q+1))) q))):=λq hq=>Et.old (Ci q hq);have HCR:Hid _:=hcr;have hgW:Gb w W:=kg;have aO8:ba<W.heap.size:=by have:=gA.size;omega
 have aWi:bb<W.heap.size:=by have:=Et.size;omega
 have aEV:=hgW.size;clear hca Ci hcr au aC aO bg Et gA HE0 HE1 HT0 HT1 HRt wz hr3 hba Vr;go_wp2;go_loopw [8,9] (λf i wr=>∃j:Nat,j<=m/\i=J j/\Ow wr W.heap.size 123 2 O f (2*j) (flat (o.tr (k+2) cs))/\Gb W wr) (λ_ i _=>m-(intOf i).toNat)
 case atStart=>exact⟨0,fV _,rfl,Ow.lit W _ _ _ _,kg⟩
 case round=>
  obtain⟨j,hj,rfl,jv,dQ⟩:=hrel;have qY:=dQ.size;by_cases fJ:j<m
  .have iV:(j:Int)<(m:Int):=om;obtain⟨J0,FQ⟩:=x_n (2*j);have u0:IntKind.i64.wrap (2*(j:Int))=(J0:Int):=by rw[dI];omega
   have i0:(J0:Int)<(R:Int):=by have:=HR2.out;omega
   obtain⟨a1,kG⟩:=dP ((o.tr (k+1) (λq=>cs (2*q+0)) j).1);obtain⟨a2,sD⟩:=dP ((o.tr (k+1) (λq=>cs (2*q+0)) j).2);obtain⟨d1,uT⟩:=dP ((o.tr (k+1) (λq=>cs (2*q+1)) j).1);obtain⟨d2,DI⟩:=dP ((o.tr (k+1) (λq=>cs (2*q+1)) j).2);obtain⟨x,y,hxy⟩:∃x y,o.rt (k+2) (2*j)=(x,y):=⟨_,_,rfl⟩;have p0:wr.cell? ⟨ba,j*2,I⟩=D (Y a1):=by rw[<-kG,<-fO,dM];exact dQ.old (HCA (2*j) om)
   have p1:wr.cell? ⟨ba,j*2+1,I⟩=D (Y a2):=by rw[<-sD,<-fP,dM];exact dQ.old (HCA (2*j+1) om)
   have p2:wr.cell? ⟨bb,j*2,I⟩=D (Y d1):=by rw[<-uT,<-fO,dM];exact dQ.old (HCB (2*j) om)
   have p3:wr.cell? ⟨bb,j*2+1,I⟩=D (Y d2):=by rw[<-DI,<-fP,dM];exact dQ.old (HCB (2*j+1) om)
   have p4:aB wr br (J0*2) (Y x):=by have:=dQ.old (HCR (J0*2) (by have:=HR2.out;omega));rw[dM,fO,FQ,hxy]at this;rw[dM,FQ];exact this
   have p5:aB wr br (J0*2+1) (Y y):=by have:=dQ.old (HCR (J0*2+1) (by have:=HR2.out;omega));rw[dM,fP,FQ,hxy]at this;rw[dM,FQ];exact this
   have wE:=HI.tr (k+1) (λq=>cs (2*q+0)) j (λ_=>HCS _);have wO:=HI.tr (k+1) (λq=>cs (2*q+1)) j (λ_=>HCS _);unfold uN at wE wO;rw[kG,sD]at wE;rw[uT,DI]at wO;have wX:=HI.rt (k+2) (2*j);rw[hxy]at wX;obtain⟨t1,O_⟩:=dP ((o.cMul (x,y) (d1,d2)).1);obtain⟨t2,ht2⟩:=dP ((o.cMul (x,y) (d1,d2)).2);have wT:=HI.cMul wX (show uN (d1,d2) from wO);unfold uN at wT;rw[O_,ht2]at wT;have G1:=HPr x y d1 d2 wX.1 wX.2 wO.1 wO.2;rw[O_,ht2]at G1;have G2:=HSu a1 a2 t1 t2 wE.1 wE.2 wT.1 wT.2;have G3:=HDi a1 a2 t1 t2 wE.1 wE.2 wT.1 wT.2;have eO:o.tr (k+1) (λq=>cs (2*q+1)) j=(d1,d2):=by rw[<-uT,<-DI]
   have eT:o.cMul (x,y) (d1,d2)=(t1,t2):=by rw[<-O_,<-ht2]
   have s0:o.tr (k+2) cs (2*j)=(o.add a1 t1,o.add a2 t2):=by
    simp only[Ops.tr];rw[aQ om,(om:2*j/2=j),hxy,eO,eT];unfold Ops.cAdd;rw[<-kG,<-sD];rfl
   have s1:o.tr (k+2) cs (2*j+1)=(o.sub a1 t1,o.sub a2 t2):=by
    simp only[Ops.tr];rw[aH om,(om:(2*j+1)/2=j),hxy,eO,eT];unfold Ops.cSub;rw[<-kG,<-sD];rfl
   generalize o.add a1 t1=v0 at*
   generalize o.add a2 t2=v1 at*
   generalize o.sub a1 t1=v2 at*
   generalize o.sub a2 t2=v3 at*
   have F1:Hid _:=G1;have F2:Hid _:=G2;have F3:Hid _:=G3;have e0:Hid (flat (o.tr (k+2) cs) (2*j*2+0)=v0):=by show _=_;rw[(om:2*j*2+0=2*(2*j)),fO,s0]
   have e1:Hid (flat (o.tr (k+2) cs) (2*j*2+1)=v1):=by show _=_;rw[(om:2*j*2+1=2*(2*j)+1),fP,s0]
   have e2:Hid (flat (o.tr (k+2) cs) (2*j*2+2)=v2):=by show _=_;rw[(om:2*j*2+2=2*(2*j+1)),fO,s1]
   have e3:Hid (flat (o.tr (k+2) cs) (2*j*2+3)=v3):=by show _=_;rw[(om:2*j*2+3=2*(2*j+1)+1),fP,s1]
   have HO:Hid _:=jv;have hOg:=λw' (hg:Gb wr w')=>Ow.gb jv hg;have Vo:=jv.nlt aO8;have GR:=λp (hp:wr.heap.size<=p)=>jv.ne hp;have Au:Hid _:=hOg;have HNb:Hid _:=Vo;have HNw:Hid _:=GR;clear jv hOg Vo GR G1 G2 G3 eO eT s0 s1 kG sD uT DI hxy wE wO wX wT O_ ht2 FQ HPr HSu HDi;go_wp2;go_cut [10] from 48 to 78 (λs wx=>∃bt:Nat,s=.pointer (D ⟨bt,0,I⟩)/\aB wx bt 0 (Y t1)/\aB wx bt 1 (Y t2)/\wr.heap.size<=bt/\Gb wr wx)
   case first=>
    go_region_held3 (λw'=>aB w' br (J0*2) (Y x)/\aB w' br (J0*2+1) (Y y)/\aB w' bb (j*2) (Y d1)/\aB w' bb (j*2+1) (Y d2))(exact qj)(first|(go_at_call 122;with_reducible refine ku (F1.out _) λw2 aC=>?_;have mG:=aC.size;(try simp only[dV,jg,jW]at mG);(try (have bx0:aB w2 wr.heap.size 0 (Y 0):=aC.old (by simp[go_sem]);have bx1:aB w2 wr.heap.size 1 (Y 0):=aC.old (by simp[go_sem]);have bz0:dL w2 wr.heap.size 0:=aC.Iy (v:=Y 0) j_ (uU (dw (Vy (dJ _))));have bz1:dL w2 wr.heap.size 1:=aC.Iy (v:=Y 0) j_ (uU (dw (Vy (dJ _))))))))
    all_goals (go_wp2;go_meet)<;>exact⟨_,rfl,kb,kb,om,kg⟩
   case rest=>
    obtain⟨bt,rfl,c0,c1,hbt,hgt⟩:=hcut;have q0:aB wc ba (j*2) (Y a1):=hgt.old p0;have q1:aB wc ba (j*2+1) (Y a2):=hgt.old p1;have aT7:=aA c0;have aTq:=hgt.size;clear p0 p1 p2 p3 p4 p5;go_wp2;go_region_held3 (λw'=>lW w' bt 0 1 (Y t1) (Y t2)/\aB w' ba (j*2) (Y a1)/\aB w' ba (j*2+1) (Y a2))(exact qj)(first|(go_at_call 210;with_reducible refine ku (F2.out _) λw3 aO=>?_;have Rj:=aO.size;(try simp only[dV,jg,jW]at Rj))|(go_at_call 211;with_reducible refine ku (F3.out _) λw3 aO=>?_;have Rj:=aO.size;(try simp only[dV,jg,jW]at Rj))|(refine step_more rfl _ _ 119 rfl 123 (.agg #[Y 0,Y 0]) 2 16 O underlying119 O1 rfl de de W.heap.size (2*j) 2 (flat (o.tr (k+2) cs)) _ w3.heap.size rfl (Au _ kg) rfl (aCY j_ j_ j_ j_ e0.out e1.out e2.out e3.out) om om (by simp[go_sem];omega) ?_;intro v' w4 Dy rE wL _;have r0:aB w4 ba (j*2) (Y a1):=wL _ _ _ kb HNb.out;have r1:aB w4 ba (j*2+1) (Y a2):=wL _ _ _ kb HNb.out;have r2:aB w4 bt 0 (Y t1):=wL _ _ _ kb (HNw _ hbt);have r3:aB w4 bt 1 (Y t2):=wL _ _ _ kb (HNw _ hbt)))
    all_goals
     exact aMc
  .obtain rfl:j=m:=om;have FN:¬(j:Int)<(j:Int):=om;have HO:Hid _:=jv;have ZK:Gb w wr:=hgW.trans dQ;have eM:2^(k+1)=2*j:=HEp.out;have ZG:=Ow.mono jv aEV;clear jv;go_wp2;go_returns;exact⟨_,rfl,ZG,ZK⟩
def WU(H:o.S)(HI:o.In):∀k:Nat,1<=k->k<=6->Qc o k
 |0,h,_=>bG h om
 |1,_,_=>aAg o
 |k+2,_,h=>WV H HI k h (WU H HI (k+1) om om)
def aFm{o:Oper}{K:Act->ak->Prop}(s x:Operand)(ty:TypeId)
  (ho:o.op=.call {callee:=.builtin .append,args:=#[s,x],argTypes:=#[ty,ty]}) (t:TypeId) (z:Value) (size bytes:Nat) (k:IntKind) (LW:prog.underlying ty=D (.slice t)) (xY:(prog.info? t).map (λi=>(i.zero,i.size,i.bytes))=D (D z,size,bytes)) (hzs:z.cells.size=size) (hs0:0<size) (EL:bytes<=1000)
  (base n r:Nat) (g:Nat->Int) (v:Value) (b:Nat) (hs:a.eval s=v) (iG:Ow w base t size k v n g) (hx:a.eval x=aF b r r)
  (hc:∀j,j<r*size->aB w b j (.int k (g (n*size+j)))) (Qv:0<r) (hn:n+r<=100000000) (nN:base<=w.heap.size)
  (h:∀v' w',Ow w' base t size k v' (n+r) g->Below base w w'->(∀p,p<w.heap.size->v.ownBlock≠D p->w'.heap[p]?=w.heap[p]?)->(v'.ownBlock=v.ownBlock\/v'.ownBlock=D w.heap.size)->K (a.put o.dst v') w'):o.wp prog a w K Q:=by
 obtain⟨i0,hi,mD,jB,mG⟩:=info_parts xY;refine wp_append_lies _ s x ty ho base t i0 z size bytes LW hi mD jB mG hzs hs0 v n (uv k (n*size) g) hs iG ⟨b,0,I⟩ r r (uv k (r*size) (λj=>g (n*size+j))) hx (rP _ _ _) ?_ ?_ Qv (by unfold maxLen;omega) (by have:=Nat.mul_le_mul hn EL;omega) nN w.heap.size rfl ?_
 .intro j u hj;have fJ:j<r*size:=by
   rcases uq j (r*size)with c|c
   .exact c
   .rw[List.getElem?_eq_none (by rw[rP];exact c)]at hj;cases hj
  rw[Na _ _ _ _ fJ]at hj;obtain rfl:=Option.some.inj hj;have e:(⟨b,0,I⟩:Addr).add j=⟨b,j,I⟩:=by unfold Addr.add;split<;>simp_all
  rw[e];exact hc j fJ
 .intro u hu;obtain⟨j,_,rfl⟩:=List.mem_map.1 hu;rfl
 .intro gb cap' w' tZ lS hat _;refine h _ w' ?_ ?_ ?_ ?_
  .show World.ownsRow _ _ _ _ _ _ _;rw[Ak,aFz];exact tZ
  .refine(Below.refl base w).grown lS nN ?_;intro q hq;exact(World.ownsRow.lt iG q hq).1
  .exact λp hp lM=>lS.block p hp (λe=>lM e.symm)
  .rcases hat with e|e
   .exact .inl (by rw[e];rfl)
   .exact .inr (by rw[e];rfl)
def NC{o:Oper}{K:Act->ak->Prop}{E:Prop}(YD:o.guard=I)(s x:Operand)(ty:TypeId)
  (ho:o.op=.call {callee:=.builtin .append,args:=#[s,x],argTypes:=#[ty,ty]}) (t:TypeId) (z:Value) (size bytes:Nat) (k:IntKind) (LW:prog.underlying ty=D (.slice t)) (xY:(prog.info? t).map (λi=>(i.zero,i.size,i.bytes))=D (D z,size,bytes)) (hzs:z.cells.size=size) (hs0:0<size) (EL:bytes<=1000)
  (base n r:Nat) (g:Nat->Int) (v:Value) (b:Nat) (hs:a.eval s=v) (iG:Ow w base t size k v n g) (hx:a.eval x=aF b r r)
  (hc:∀j,j<r*size->aB w b j (.int k (g (n*size+j)))) (Qv:0<r) (hn:n+r<=100000000) (nN:base<=w.heap.size)
  (h:∀v' w',Ow w' base t size k v' (n+r) g->Below base w w'->(∀p,p<w.heap.size->v.ownBlock≠D p->w'.heap[p]?=w.heap[p]?)->(v'.ownBlock=v.ownBlock\/v'.ownBlock=D w.heap.size)->K (a.put o.dst v') w'):if Region.wanted o (yielded ops a.tmps)=true then Oper.wp prog o a w K Q else E:=by
 have hw:Region.wanted o (yielded ops a.tmps)=true:=by simp[Region.wanted,YD]
 rw[aQ hw];exact aFm s x ty ho t z size bytes k LW xY hzs hs0 EL base n r g v b hs iG hx hc Qv hn nN h
def jc(hk:∀p,p<w.heap.size->v.ownBlock≠D p->w'.heap[p]?=w.heap[p]?)(hu:aB w p off u)(lM:v.ownBlock≠D p):aB w' p off u:=(World.cell?_of_block (w:=w) (a:=⟨p,off,I⟩) (hk p (aA hu) lM)).trans hu
def Ow.aNk(hk:∀p,p<w.heap.size->v.ownBlock≠D p->w'.heap[p]?=w.heap[p]?)(ho:Ow w base t size k u n g)(lM:∀p,u.ownBlock=D p->v.ownBlock≠D p):Ow w' base t size k u n g:=by
 refine⟨ho.1,?_⟩;rcases ho.2 with hn|⟨b,cap,cur,rfl,hb,hh,rest⟩
 .exact .inl hn
 .refine .inr ⟨b,cap,cur,rfl,hb,?_,rest⟩;rw[hk b (Ap.1 hh).1 (lM b rfl)];exact hh
def Ow.aKu(h:Ow w base t size k v n g)(hp:p<base):v.ownBlock≠D p:=λe=>by
 have:=(World.ownsRow.lt h p e).1;omega
def Ow.aTm(w:ak)(ob:Obj)(t:TypeId)(size:Nat)(k:IntKind)(g:Nat->Int):Ow ((w.alloc ob).alloc (.cells #[] t)) w.heap.size t size k (aF (w.heap.size+1) 0 0) 0 g:=by
 have:=Ow.lit (w.alloc ob) t size k g;rw[dV]at this;exact this.mono om
def MQ(r s:Nat)(Io:r*s=2)(h0:aB w b 0 (.int k x0))(h1:aB w b 1 (.int k x1))(e0:g (m+0)=x0)(e1:g (m+1)=x1):∀j,j<r*s->aB w b j (.int k (g (m+j))):=by
 intro j hj;rw[Io]at hj
 match j,hj with
 |0,_=>rw[e0];exact h0
 |1,_=>rw[e1];exact h1
def ZH(o:Ops)(k:Nat):Prop:=∀(K:Int) (w:ak) (v:Value) (zs:Nat->Int × Int),K=(k:Int)->Rd w O v (2^(k-1)) (2^(k-1)*2) (flat zs)->(∀j,uN (zs j))->
 CT 123 #[J K,v] w λe w'=>∃v',e=U v'/\Ow w' w.heap.size 71 1 O v' (2^k) (o.bk k zs)/\Gb w w'
def aFe(o:Ops):ZH o 1:=by
 intro K w v zs hK hr wM;obtain rfl:K=1:=hK;have HS:KW 46 #[J 1] (J 2):=λw=>xI 1 1 rfl om 2 rfl w;obtain⟨b,cap,rfl,h1,h2,hc⟩:=hr.at de;have c0:aB w b 0 (Y (zs 0).1):=hc 0 de;have c1:aB w b 1 (Y (zs 0).2):=hc 1 de;have e0:o.bk 1 zs 0=(zs 0).1 :=rfl;have e1:o.bk 1 zs 1=(zs 0).2 :=rfl;generalize o.bk 1 zs=f at*
 generalize(zs 0).1 =x at*
 generalize(zs 0).2 =y at*
 clear hr hc wM;go_enter func123,ntmps123;go_wp2_with (go_at_call 46;refine kw (HS _) ?_);go_region;all_goals go_wp2<;>go_returns
 all_goals
  refine⟨_,rfl,?_,kg⟩;have:=MZ (base:=w.heap.size) (e:=71) (size:=1) w.drew #[Y x,Y y] 2 (dJ _) de rfl;exact aMb
def aBT(H:o.S)(HI:o.In)(k:Nat)(hk6:k+2<=6)(IH:ZH o (k+1)):ZH o (k+2):=by
 intro K w v zs hK hr wM;unfold ZH at IH;obtain⟨K1,hK1⟩:=x_n ((k+1:Nat):Int);have uK:IntKind.i64.wrap (K-1)=K1:=by rw[dI];omega
 have k1:¬K<1:=om;have k2:¬(6:Int)<K:=om;have k3:(K==1)=false:=jA;obtain⟨m,hm⟩:=x_n (2^k);have Dp:0<m:=by rw[hm];exact iQ de
 have LY:m<=16:=by
  rw[hm];have:=pU (show 0<2 by decide) (om:k<=4);omega
 obtain⟨L,hL⟩:=x_n (2^(k+1));obtain⟨Z,hZ⟩:=x_n (2^(k+2));have hLm:L=2*m:=by rw[hL,jE,<-hm];omega
 have hZL:Z=2*L:=by rw[hZ,jE,<-hL];omega
 rw[(om:k+2-1=k+1),<-hL]at hr;have HS:KW 46 #[J K] (J (Z:Int)):=λw=>xI K (k+2) hK om Z (by rw[hZ]) w;have uZ:IntKind.i64.wrap ((L:Int)*2)=(Z:Int):=by rw[dI];omega
 have HRt:Hid (∀w',CT 209 #[J K] w' λe bf=>∃b cap,e=U (aF b L cap)/\w'.heap.size<=b/\b<bf.heap.size/\(∀q,q<L*2->aB bf b q (Y (flat (o.rt (k+2)) q)))/\Gb w' bf):=λw'=>by
  rw[hK];refine(UD H HI (k+2) om hk6 w').mono λe bf ⟨u,e1,e2,e3⟩=>?_;rw[(om:k+2-1=k+1),<-hL]at e2;obtain⟨b,cap,rfl,c1,c2,_,_,c3⟩:=e2.at om;exact⟨b,cap,e1,c1,c2,λj hj=>(c3 j hj).1,e3⟩
 have HB:Hid (∀w' u (ys:Nat->Int × Int),(∀j,uN (ys j))->Rd w' O u m (m*2) (flat ys)->CT 123 #[J K1,u] w' λe bf=>∃b cap,e=U (aF b L cap)/\b<bf.heap.size/\(∀q,q<L->aB bf b q (Y (o.bk (k+1) ys q)))/\Gb w' bf):=λw' u ys hys hu=>(IH K1 w' u ys hK1 (by rw[(om:k+1-1=k),<-hm];exact hu) hys).mono λe bf ⟨v',e1,e2,e3⟩=>by
  rw[<-hL]at e2;obtain⟨b,cap,rfl,_,c2,_,_,c3⟩:=e2.at om;exact⟨b,cap,e1,c2,λj hj=>(c3 j om).1,e3⟩
 have wA:Hid _:=HI.MR wM;have wB:Hid _:=HI.Qy (k+2) wM;have HPr:Hid (∀a1 a2 b1 b2,Wd a1->Wd a2->Wd b1->Wd b2->∀w',QB 122 #[aS a1 a2,aS b1 b2] w' (aS ((o.cMul (a1,a2) (b1,b2)).1) ((o.cMul (a1,a2) (b1,b2)).2))):=λa1 a2 b1 b2 h1 h2 h3 h4 w'=>VJ H HI h1 h2 h3 h4 w';have HSu:Hid (∀a1 a2 b1 b2,Wd a1->Wd a2->Wd b1->Wd b2->∀w',QB 210 #[aS a1 a2,aS b1 b2] w' (aS ((o.cAdd (a1,a2) (b1,b2)).1) ((o.cAdd (a1,a2) (b1,b2)).2))):=λa1 a2 b1 b2 h1 h2 h3 h4 w'=>aIO H h1 h2 h3 h4 w';have HDi:Hid (∀a1 a2 b1 b2,Wd a1->Wd a2->Wd b1->Wd b2->∀w',QB 211 #[aS a1 a2,aS b1 b2] w' (aS ((o.cSub (a1,a2) (b1,b2)).1) ((o.cSub (a1,a2) (b1,b2)).2))):=λa1 a2 b1 b2 h1 h2 h3 h4 w'=>aCZ H h1 h2 h3 h4 w';have HHa:Hid (∀a1 a2,Wd a1->Wd a2->∀w',QB 214 #[aS a1 a2] w' (aS ((o.uJ (a1,a2)).1) ((o.uJ (a1,a2)).2))):=λa1 a2 h1 h2 w'=>aLp H HI h1 h2 w';obtain⟨bx,cx,rfl,hx1,hx2,V3⟩:=hr.at om;have Tf:=aA (V3 0 om);have HX:Hid _:=V3;have HM:Hid _:=hm;have HLm:Hid _:=hLm;have HZL:Hid _:=hZL;have HZe:Hid _:=hZ;have L6:L<=32:=om;have hZ2:Z<=64:=om;have HCS:Hid _:=wM;clear hr V3 IH hK hK1 hm hL hLm hZL hZ wM;go_enter func123,ntmps123;go_upto_region 5 with(go_at_call 46;refine kw (HS _) ?_);go_upto_region 8 with(go_at_call 209;refine(HRt _).mono ?_;rintro e W ⟨br,cr,rfl,aT8,Iu,hcr,Et⟩);have aEV:=Et.size;simp only[dV]at aEV aT8;go_wp2;go_loopw [5,6,8] (λfa fb i wr=>∃j:Nat,j<=m/\i=J j/\Ow wr w.heap.size 123 2 O fa j (flat (o.MR zs))/\Ow wr w.heap.size 123 2 O fb j (flat (o.Qy (k+2) zs))/\(∀p,fa.ownBlock=D p->fb.ownBlock≠D p)/\fa.ownBlock≠D br/\fb.ownBlock≠D br/\br<wr.heap.size/\Hid (∀q,q<L*2->aB wr br q (Y (flat (o.rt (k+2)) q)))/\Gb w wr) (λ_ _ i _=>m-(intOf i).toNat)
 case atStart=>
  refine⟨0,fV _,rfl,Ow.gb (Ow.alloc (Ow.lit w _ _ _ _) _) Et,Ow.gb (Ow.aTm w _ _ _ _ _) Et,?_,?_,?_,Iu,hcr,kg⟩
  .intro p h1 h2;simp only[Value.ownBlock,Option.some.injEq,dV]at h1 h2;omega
  .simp only[Value.ownBlock,ne_eq,Option.some.injEq];omega
  .simp only[Value.ownBlock,ne_eq,Option.some.injEq,dV];omega
 case round=>
  obtain⟨j,hj,rfl,hoa,hob,zB,har,aO5,aWf,HCR,dQ⟩:=hrel;have aRb:=dQ.size;obtain⟨J0,FQ⟩:=x_n (2*j);have uA:IntKind.i64.wrap ((j:Int)*2)=(J0:Int):=by rw[dI];omega
  have uB:IntKind.i64.wrap (2*(j:Int))=(J0:Int):=by rw[dI];omega
  by_cases fJ:j<m
  .obtain⟨J1,Vx⟩:=x_n (2*j+1);have uC:IntKind.i64.wrap ((J0:Int)+1)=(J1:Int):=by rw[dI];omega
   have hLm:=HLm.out;have i0:(J0:Int)<(L:Int):=om;have i1:(J1:Int)<(L:Int):=om;obtain⟨x1,x2,hx⟩:∃x1 x2,zs (2*j)=(x1,x2):=⟨_,_,rfl⟩;obtain⟨y1,y2,hy⟩:∃y1 y2,zs (2*j+1)=(y1,y2):=⟨_,_,rfl⟩;obtain⟨r,s,Io⟩:∃r s,o.rt (k+2) (2*j)=(r,s):=⟨_,_,rfl⟩;have p0:aB wr bx (J0*2) (Y x1):=by have:=dQ.old (HX (2*(2*j)) om);rw[fO,hx]at this;rw[FQ,dM];exact this
   have p1:aB wr bx (J0*2+1) (Y x2):=by have:=dQ.old (HX (2*(2*j)+1) om);rw[fP,hx]at this;rw[FQ,dM];exact this
   have p2:aB wr bx (J1*2) (Y y1):=by have:=dQ.old (HX (2*(2*j+1)) om);rw[fO,hy]at this;rw[Vx,dM];exact this
   have p3:aB wr bx (J1*2+1) (Y y2):=by have:=dQ.old (HX (2*(2*j+1)+1) om);rw[fP,hy]at this;rw[Vx,dM];exact this
   have p4:aB wr br (J0*2) (Y r):=by have:=HCR (2*(2*j)) (by omega);rw[fO,Io]at this;rw[FQ,dM];exact this
   have p5:aB wr br (J0*2+1) (Y s):=by have:=HCR (2*(2*j)+1) (by omega);rw[fP,Io]at this;rw[FQ,dM];exact this
   have wX:=HCS (2*j);have wY:=HCS (2*j+1);have wR:=HI.rt (k+2) (2*j);rw[hx]at wX;rw[hy]at wY;rw[Io]at wR;have G0:KB 213 #[Y s] (Y (yD s)):=λw'=>WS wR.2 w';obtain⟨a,ha⟩:=dP (o.cAdd (x1,x2) (y1,y2));obtain⟨d,hd⟩:=dP (o.cSub (x1,x2) (y1,y2));obtain⟨e,he⟩:=dP (o.cMul d (r,yD s));have wa:=HI.cAdd (show uN (x1,x2) from wX) (show uN (y1,y2) from wY);have wd:=HI.cSub (show uN (x1,x2) from wX) (show uN (y1,y2) from wY);rw[ha]at wa;rw[hd]at wd;have we:=HI.cMul wd (show uN (r,yD s) from ⟨wR.1,G_ wR.2⟩);rw[he]at we;have G1:=HSu x1 x2 y1 y2 wX.1 wX.2 wY.1 wY.2;rw[ha]at G1;have G2:=HHa a.1 a.2 wa.1 wa.2;have G3:=HDi x1 x2 y1 y2 wX.1 wX.2 wY.1 wY.2;rw[hd]at G3;have G4:=HPr d.1 d.2 r (yD s) wd.1 wd.2 wR.1 (G_ wR.2);rw[show(d.1,d.2)=d from rfl,he]at G4;have G5:=HHa e.1 e.2 we.1 we.2;have sA:o.MR zs j=o.uJ (a.1,a.2):=by unfold Ops.MR;rw[hx,hy,ha]
   have sB:o.Qy (k+2) zs j=o.uJ (e.1,e.2):=by
    show o.uJ (o.cMul (o.cSub (zs (2*j)) (zs (2*j+1))) (Zd (o.rt (k+2) (2*j))))=_;rw[hx,hy,Io,hd];show o.uJ (o.cMul d (r,yD s))=_;rw[he]
   obtain⟨f1,f2,hf⟩:∃f1 f2,o.uJ (a.1,a.2)=(f1,f2):=⟨_,_,rfl⟩;obtain⟨g1,g2,hg⟩:∃g1 g2,o.uJ (e.1,e.2)=(g1,g2):=⟨_,_,rfl⟩;rw[hf]at G2 sA;rw[hg]at G5 sB;obtain⟨a1,a2⟩:=a;obtain⟨d1,d2⟩:=d;obtain⟨e1,e2⟩:=e;dsimp only at G1 G2 G3 G4 G5;have q0:Hid (flat (o.MR zs) (j*2+0)=f1):=by show _=_;rw[(om:j*2+0=2*j),fO,sA]
   have q1:Hid (flat (o.MR zs) (j*2+1)=f2):=by show _=_;rw[(om:j*2+1=2*j+1),fP,sA]
   have q2:Hid (flat (o.Qy (k+2) zs) (j*2+0)=g1):=by show _=_;rw[(om:j*2+0=2*j),fO,sB]
   have q3:Hid (flat (o.Qy (k+2) zs) (j*2+1)=g2):=by show _=_;rw[(om:j*2+1=2*j+1),fP,sB]
   generalize yD s=s' at*
   have F1:Hid _:=G1;have F2:Hid _:=G2;have F3:Hid _:=G3;have F4:Hid _:=G4;have F5:Hid _:=G5;have HOA:Hid (∀w',Gb wr w'->Ow w' w.heap.size 123 2 O _ j (flat (o.MR zs))):=λw' hg=>hoa.gb hg;have HOB:Hid (∀w',Gb wr w'->Ow w' w.heap.size 123 2 O _ j (flat (o.Qy (k+2) zs))):=λw' hg=>hob.gb hg;have HAx:Hid _:=hoa.aKu Tf;have HBx:Hid _:=hob.aKu Tf;have HAw:Hid _:=λp (hp:wr.heap.size<=p)=>hoa.ne hp;have HBw:Hid _:=λp (hp:wr.heap.size<=p)=>hob.ne hp;have HAB:Hid _:=zB;have HAr:Hid _:=har;have HJ0:Hid _:=FQ;have HBr:Hid _:=aO5;clear hoa hob zB har aO5 G1 G2 G3 G4 G5 sA sB hf hg ha hd he wa wd we wX wY wR hx hy Io FQ Vx hLm HPr HSu HDi HHa;go_wp2;go_cut [9] from 44 to 98 (λs9 wx=>∃bt:Nat,s9=.pointer (D ⟨bt,0,I⟩)/\aB wx bt 0 (Y r)/\aB wx bt 1 (Y s')/\wr.heap.size<=bt/\Gb wr wx)
   case first=>
    go_region_held3 (λw'=>aB w' br (J0*2) (Y r)/\aB w' br (J0*2+1) (Y s))(exact qj)(first|(go_at_call 213;with_reducible refine ku (G0.out _) λw2 aC=>?_;have mG:=aC.size;(try simp only[dV,jg,jW]at mG);(try (have bx0:aB w2 wr.heap.size 0 (Y 0):=aC.old (by simp[go_sem]);have bx1:aB w2 wr.heap.size 1 (Y 0):=aC.old (by simp[go_sem]);have bz0:dL w2 wr.heap.size 0:=aC.Iy (v:=Y 0) j_ (uU (dw (Vy (dJ _))));have bz1:dL w2 wr.heap.size 1:=aC.Iy (v:=Y 0) j_ (uU (dw (Vy (dJ _))))))))
    all_goals (go_wp2;go_meet)<;>exact⟨_,rfl,kb,kb,om,kg⟩
   case rest=>
    obtain⟨bt,rfl,c0,c1,hbt,hgt⟩:=hcut;have n0:aB wc bx (J0*2) (Y x1):=hgt.old p0;have n1:aB wc bx (J0*2+1) (Y x2):=hgt.old p1;have n2:aB wc bx (J1*2) (Y y1):=hgt.old p2;have n3:aB wc bx (J1*2+1) (Y y2):=hgt.old p3;have aT7:=aA c0;have aTq:=hgt.size;clear p0 p1 p2 p3 p4 p5;go_wp2;go_region_held3 (λw'=>lW w' bt 0 1 (Y r) (Y s')/\aB w' bx (J0*2) (Y x1)/\aB w' bx (J0*2+1) (Y x2)/\aB w' bx (J1*2) (Y y1)/\aB w' bx (J1*2+1) (Y y2))(exact qj)(first|(go_at_call 210;with_reducible refine ku (F1.out _) λw2 aC=>?_;have mG:=aC.size;(try simp only[dV,jg,jW]at mG))|(go_at_call 214;with_reducible refine ku (F2.out _) λw3 aO=>?_;have Rj:=aO.size;(try simp only[dV,jg,jW]at Rj))|(refine NC rfl _ _ 119 rfl 123 (.agg #[Y 0,Y 0]) 2 16 O underlying119 O1 rfl de de w.heap.size j 1 (flat (o.MR zs)) _ w3.heap.size rfl (HOA _ kg) rfl (MQ 1 2 rfl j_ j_ q0.out q1.out) om om (by simp[go_sem];omega) ?_;intro v4 w4 Dy rE wL aKU;have r0:aB w4 bx (J0*2) (Y x1):=jc wL kb HAx.out;have r1:aB w4 bx (J0*2+1) (Y x2):=jc wL kb HAx.out;have r2:aB w4 bx (J1*2) (Y y1):=jc wL kb HAx.out;have r3:aB w4 bx (J1*2+1) (Y y2):=jc wL kb HAx.out;have r4:aB w4 bt 0 (Y r):=jc wL kb (HAw _ hbt);have r5:aB w4 bt 1 (Y s'):=jc wL kb (HAw _ hbt)))
    all_goals
     have gq:Gb wr (w3.alloc (.cells #[Y f1,Y f2] 123)):=kg;have hsq:=gq.size;have hs4:=rE.size;simp only[dV]at hsq hs4 aKU;have aNo:=Ow.aNk wL (HOB _ gq) (λp hb ha=>HAB p ha hb);have aTZ:Gb w w4:=Gb.below (dQ.trans gq) rE (dJ _);have HC4:Hid (∀q,q<L*2->aB w4 br q (Y (flat (o.rt (k+2)) q))):=λq hq=>jc wL (gq.old (HCR q hq)) HAr.out;have aSu:Hid (∀p,v4.ownBlock=D p->u6.ownBlock≠D p):=λp h4=>by
      rcases aKU with e|e
      .rw[e]at h4;exact HAB p h4
      .rw[e]at h4;injection h4 with h4;exact HBw p om
     have aUP:Hid (v4.ownBlock≠D br):=by
      rcases aKU with e|e
      .show _≠_;rw[e];exact HAr.out
      .show _≠_;rw[e];intro h;injection h with h;omega
     have HO4:Hid (∀w',Gb w4 w'->Ow w' w.heap.size 123 2 O v4 (j+1) (flat (o.MR zs))):=λw' hg=>Dy.gb hg;have HL4:Hid (∀p,v4.ownBlock=D p->p<w4.heap.size):=λp h=>(World.ownsRow.lt Dy p h).2;have aUN:Hid (∀w',Gb w4 w'->Ow w' w.heap.size 123 2 O u6 j (flat (o.Qy (k+2) zs))):=λw' hg=>aNo.gb hg;have aVX:wr.heap.size<=w4.heap.size:=om;clear wL aKU Dy aNo rE gq aC aO mG Rj
     (try go_split_ands)
     go_wp2;go_region_held3 (λw'=>lW w' bt 0 1 (Y r) (Y s')/\aB w' bx (J0*2) (Y x1)/\aB w' bx (J0*2+1) (Y x2)/\aB w' bx (J1*2) (Y y1)/\aB w' bx (J1*2+1) (Y y2))(exact qj)(first|(go_at_call 211;with_reducible refine ku (F3.out _) λw5 bT=>?_;have hz5:=bT.size;(try simp only[dV,jg,jW]at hz5))|(go_at_call 122;with_reducible refine ku (F4.out _) λw6 gG=>?_;have hz6:=gG.size;(try simp only[dV,jg,jW]at hz6))|(go_at_call 214;with_reducible refine ku (F5.out _) λw7 jT=>?_;have hz7:=jT.size;(try simp only[dV,jg,jW]at hz7))|(refine NC rfl _ _ 119 rfl 123 (.agg #[Y 0,Y 0]) 2 16 O underlying119 O1 rfl de de w.heap.size j 1 (flat (o.Qy (k+2) zs)) _ w7.heap.size rfl (aUN _ kg) rfl (MQ 1 2 rfl j_ j_ q2.out q3.out) om om (by simp[go_sem];omega) ?_;intro v8 w8 aRh hb8 hk8 aO7;have r0:aB w8 bx (J0*2) (Y x1):=jc hk8 kb HBx.out;have r1:aB w8 bx (J0*2+1) (Y x2):=jc hk8 kb HBx.out;have r2:aB w8 bx (J1*2) (Y y1):=jc hk8 kb HBx.out;have r3:aB w8 bx (J1*2+1) (Y y2):=jc hk8 kb HBx.out;have r4:aB w8 bt 0 (Y r):=jc hk8 kb (HBw _ hbt);have r5:aB w8 bt 1 (Y s'):=jc hk8 kb (HBw _ hbt)))
     all_goals
      have gq8:Gb w4 (w7.alloc (.cells #[Y g1,Y g2] 123)):=kg;have aTv:=gq8.size;have hs8:=hb8.size;simp only[dV]at aTv hs8 aO7;have aTK:=Ow.aNk hk8 (HO4 _ gq8) aSu.out;have aTY:Gb w w8:=Gb.below (aTZ.trans gq8) hb8 (dJ _);have HC8:Hid (∀q,q<L*2->aB w8 br q (Y (flat (o.rt (k+2)) q))):=λq hq=>jc hk8 (gq8.old (HC4 q hq)) HBr.out;have hd8:∀p,v4.ownBlock=D p->v8.ownBlock≠D p:=λp h4=>by
       rcases aO7 with e|e
       .rw[e];exact aSu p h4
       .rw[e];intro h;injection h with h;have:=HL4 p h4;omega
      have aUd:v8.ownBlock≠D br:=by
       rcases aO7 with e|e
       .rw[e];exact HBr.out
       .rw[e];intro h;injection h with h;omega
      go_wp2;go_roundw
      case rel=>exact⟨j+1,om,jS,aTK,aRh,hd8,aUP.out,aUd,om,HC8.out,aTY⟩
      case measure=>exact qL
  .obtain rfl:j=m:=om;have iL:¬(J0:Int)<(L:Int):=by have:=HLm.out;omega
   have hra:=hoa.rd;have hrb:=hob.rd;clear hoa hob zB har aO5 FQ HPr HSu HDi HHa HCR
   rename World=>X
   go_upto_region 15 with(go_at_call 123;refine(HB _ _ (o.MR zs) wA.out hra).mono ?_;rintro e w2 ⟨ba,ca,rfl,hba,hca,aC⟩);go_upto_region 16 with(go_at_call 123;refine(HB _ _ (o.Qy (k+2) zs) wB.out (hrb.gb aC)).mono ?_;rintro e w3 ⟨bb,cb,rfl,Vr,Ci,aO⟩);have HCA:Hid (∀q,q<L->aB w3 ba q (Y (o.bk (k+1) (o.MR zs) q))):=λq hq=>aO.old (hca q hq);have HCB:Hid _:=Ci;have hgX:Gb w w3:=(dQ.trans aC).trans aO;have aTr:=hgX.size;have hs3:=aO.size;clear hca Ci hra hrb dQ aC aO HB;go_wp2;go_loopw [12,13] (λf i wr=>∃i':Nat,i'<=L/\i=J i'/\Ow wr w3.heap.size 71 1 O f (2*i') (o.bk (k+2) zs)/\Gb w3 wr) (λ_ i _=>L-(intOf i).toNat)
   case atStart=>exact⟨0,fV _,rfl,Ow.lit w3 _ _ _ _,kg⟩
   case round=>
    obtain⟨i,hi,rfl,jv,hgr⟩:=hrel;have hsr:=hgr.size;by_cases fJ:i<L
    .have iV:(i:Int)<(L:Int):=om;obtain⟨x,hx⟩:=dP (o.bk (k+1) (o.MR zs) i);obtain⟨y,hy⟩:=dP (o.bk (k+1) (o.Qy (k+2) zs) i);have p0:wr.cell? ⟨ba,i,I⟩=D (Y x):=by rw[<-hx];exact hgr.old (HCA i fJ)
     have p1:wr.cell? ⟨bb,i,I⟩=D (Y y):=by rw[<-hy];exact hgr.old (HCB i fJ)
     have e0:Hid (o.bk (k+2) zs (2*i*1+0)=x):=by show _=_;rw[(om:2*i*1+0=2*i)];simp only[Ops.bk];rw[aQ om,(om:2*i/2=i),hx]
     have e1:Hid (o.bk (k+2) zs (2*i*1+1)=y):=by show _=_;rw[(om:2*i*1+1=2*i+1)];simp only[Ops.bk];rw[aH om,(om:(2*i+1)/2=i),hy]
     have Au:Hid _:=λw' (hg:Gb wr w')=>Ow.gb jv hg;have HNa:Hid _:=jv.aKu (om:ba<w3.heap.size);have HNb:Hid _:=jv.aKu Vr;clear jv hx hy;go_wp2;go_region_held3 (λw'=>aB w' ba i (Y x)/\aB w' bb i (Y y))(exact qj)(first|(refine step_more rfl _ _ 47 rfl 71 (Y 0) 1 8 O underlying47 Vg rfl de de w3.heap.size (2*i) 2 (o.bk (k+2) zs) _ wr.heap.size rfl (Au _ kg) rfl (MQ (g:=o.bk (k+2) zs) (m:=2*i*1) 2 1 rfl j_ j_ e0.out e1.out) om om (by simp[go_sem];omega) ?_;intro v4 w4 Dy rE wL _;have r0:aB w4 ba i (Y x):=wL _ _ _ kb HNa.out;have r1:aB w4 bb i (Y y):=wL _ _ _ kb HNb.out))
     all_goals
      go_wp2;go_roundw
      case rel=>exact⟨i+1,om,jS,Dy,Gb.below kg rE (dJ _)⟩
      case measure=>exact qL
    .obtain rfl:i=L:=om;have FN:¬(i:Int)<(i:Int):=om;have ZK:Gb w wr:=hgX.trans hgr;have eZ:2^(k+2)=2*i:=by have:=HZe.out;have:=HZL.out;omega
     have Rq:=Ow.mono jv aTr;clear jv;go_wp2;go_returns;exact⟨_,rfl,Rq,ZK⟩
def aC4(H:o.S)(HI:o.In):∀k:Nat,1<=k->k<=6->ZH o k
 |0,h,_=>bG h om
 |1,_,_=>aFe o
 |k+2,_,h=>aBT H HI k h (aC4 H HI (k+1) om om)
def aMd{P:Prop}(h:P:=by
 generalize f j=x at*
 have x0:¬x< -2047:=by have:=hb.1;omega
 have x1:¬2047<x:=by have:=hb.2;omega
 clear hb;go_wp2;go_roundw
 case rel=>exact⟨j+1,om,jS,trivial⟩
 case measure=>simp[intOf]<;>omega):P:=h
def jd(w:ak)(v:Value)(n:Nat)(g:Nat->Int):Prop:=
 ∃a cap,v=.slice a n cap/\n<=cap/\cap<=maxLen/\(0<n->∃b o,a=D ⟨b,o,I⟩/\∀j,j<n->aB w b (o+j) (J (g j)))
def jd.gb(h:jd w v n g)(hg:Gb w w'):jd w' v n g:=by
 obtain⟨a,cap,h1,h2,h3,h4⟩:=h;refine⟨a,cap,h1,h2,h3,λhn=>?_⟩;obtain⟨b,o,hb,hc⟩:=h4 hn;exact⟨b,o,hb,λj hj=>hg.old (hc j hj)⟩
def jd.at(h:jd w v n g)(hn:0<n):∃b o cap,v=.slice (D ⟨b,o,I⟩) n cap/\n<=cap/\cap<=maxLen/\∀j,j<n->aB w b (o+j) (J (g j)):=by
 obtain⟨a,cap,h1,h2,h3,h4⟩:=h;obtain⟨b,o,rfl,hc⟩:=h4 hn;exact⟨b,o,cap,h1,h2,h3,hc⟩
def Rd.ro(h:Rd w .i64 v n n g):jd w v n g:=by
 obtain⟨a,cap,h1,h2,h3,h4⟩:=h;refine⟨a,cap,h1,h2,h3,λhn=>?_⟩;obtain⟨b,hb,hc⟩:=h4 hn;exact⟨b,0,hb,λj hj=>by rw[Nat.zero_add];exact hc j hj⟩
def Wh(x:Int):Prop:=-2047<=x/\x<=2047
def aOO(n:Nat)(f:Nat->Int):(∀i,i<n->Wh (f i))\/∃m,m<n/\(∀i,i<m->Wh (f i))/\¬Wh (f m):=by
 induction n with
 |zero=>exact .inl (λi hi=>bG hi om)
 |succ n ih=>
  rcases ih with h|⟨m,hm,h,hn⟩
  .by_cases hb:Wh (f n)
   .exact .inl λi hi=>by
     rcases(om:i<n\/i=n)with h1|rfl
     .exact h i h1
     .exact hb
   .exact .inr ⟨n,om,h,hb⟩
  .exact .inr ⟨m,om,h,hn⟩
def aFb(hr:jd w v L f)(n:Int)(hn:(L:Int)≠n):
  QW 119 #[v,J n] w (.bool false):=by
 obtain⟨a,ca,rfl,_⟩:=hr;go_enter func119,ntmps119;go_wp2;go_returns;exact⟨rfl,rfl⟩
def IG(hr:jd w v L f)(jZ:0<L)(hL:L<=2000000)(h:∀i,i<L->Wh (f i))(n:Int)(hn:(L:Int)=n):
  QW 119 #[v,J n] w (.bool true):=by
 subst hn;obtain⟨b,q0,cap,rfl,_,_,hc⟩:=hr.at jZ;have HC:Hid _:=hc;have HB:Hid _:=h;clear hr hc h;go_enter func119,ntmps119;go_wp2;go_loopw [5] (λi wr=>∃j:Nat,j<=L/\i=J j/\w=wr) (λi _=>L-(intOf i).toNat)
 case atStart=>exact⟨0,fV _,rfl,rfl⟩
 case round=>
  obtain⟨j,hj,rfl,rfl⟩:=hrel;by_cases fJ:j<L
  .have iV:(j:Int)<(L:Int):=om;have hb:=HB j fJ;have c0:aB w b (q0+j) (J (f j)):=HC _ om;exact aMd
  .obtain rfl:j=L:=om;have FN:¬(j:Int)<(j:Int):=om;go_wp2;go_returns;exact⟨rfl,rfl⟩
def aIQ(hr:jd w v L f)(hL:L<=2000000)(m:Nat)(hm:m<L)(h:∀i,i<m->Wh (f i))(Eu:¬Wh (f m))(n:Int)(hn:(L:Int)=n):
  QW 119 #[v,J n] w (.bool false):=by
 subst hn;obtain⟨b,q0,cap,rfl,_,_,hc⟩:=hr.at om;have HC:Hid _:=hc;have HB:Hid _:=h;have HN:Hid _:=Eu;clear hr hc h Eu;go_enter func119,ntmps119;go_wp2;go_loopw [5] (λi wr=>∃j:Nat,j<=m/\i=J j/\w=wr) (λi _=>L-(intOf i).toNat)
 case atStart=>exact⟨0,fV _,rfl,rfl⟩
 case round=>
  obtain⟨j,hj,rfl,rfl⟩:=hrel;have iV:(j:Int)<(L:Int):=om;have c0:aB w b (q0+j) (J (f j)):=HC _ om;by_cases fJ:j<m
  .have hb:=HB j fJ;exact aMd
  .obtain rfl:j=m:=om;have hb:f j< -2047\/¬f j< -2047/\2047<f j:=by
    rcases(om:f j< -2047\/(¬f j< -2047/\2047<f j)\/(-2047<=f j/\f j<=2047))with h|h|h
    .exact .inl h
    .exact .inr h
    .exact bG h HN.out
   generalize f j=x at*
   rcases hb with x0|⟨x0,x1⟩
   .go_wp2;go_returns;exact⟨rfl,rfl⟩
   .go_wp2;go_returns;exact⟨rfl,rfl⟩
def aBZ(H:o.S)(hr:jd w v L f)(jZ:0<L)(hL:L<=2000000)(h:∀i,i<L->Wh (f i)):
  CT 121 #[v] w λe w'=>∃v',e=U v'/\Ow w' w.heap.size 71 1 O v' L (λj=>o.int (f j))/\Gb w w':=by
 obtain⟨b,q0,cap,rfl,_,_,hc⟩:=hr.at jZ;have HC:Hid _:=hc;have HW:Hid (∀j,j<L->∀w,QB 111 #[J (f j)] w (Y (o.int (f j)))):=λj hj w=>MX H (f j) (h j hj).1 (h j hj).2 w;have hb:=aA (hc 0 om);clear hr hc h H;go_enter func121,ntmps121;go_wp2;go_loopw [3,4] (λs i wr=>∃j:Nat,j<=L/\i=J (j:Int)/\Ow wr w.heap.size 71 1 O s j (λm=>o.int (f m))/\Gb w wr) (λ_ i _=>L-(intOf i).toNat)
 case atStart=>exact⟨0,fV _,rfl,Ow.lit w _ _ _ _,kg⟩
 case round=>
  obtain⟨j,hj,rfl,jv,dQ⟩:=hrel;have HO:Hid _:=jv;have qY:=dQ.size;by_cases fJ:j<L
  .have iV:(j:Int)<(L:Int):=om;have HWj:Hid _:=HW j fJ;obtain⟨x,hx⟩:=dP (f j);obtain⟨z,hz⟩:=dP (o.int (f j));have x0:wr.cell? ⟨b,q0+j,I⟩=D (J x):=by rw[<-hx];exact dQ.old (HC j om)
   have e0:Hid ((λm=>o.int (f m)) (j*1+0)=z):=by show _=_;rw[<-hz,kW,Nat.add_zero]
   rw[hz,hx]at HWj;have Au:Hid (∀w2,Gb wr w2->Ow w2 w.heap.size 71 1 O _ j (λm=>o.int (f m))):=λw2 hg=>jv.gb hg;clear jv hx hz;go_wp2_with (first|(go_at_call 111;refine ku (HWj _) λw2 aC=>?_)|(at_builtin;refine nC rfl _ _ 47 rfl 71 (Y 0) 1 8 O underlying47 Vg rfl de de w.heap.size j 1 (λm=>o.int (f m)) _ w2.heap.size rfl (Au _ kg) rfl (CS (g:=λm=>o.int (f m)) (m:=j*1) j_ e0.out) om om (by have:=aC.size;rw[dV];omega) ?_;intro v' w3 nM nO _ _))
   go_roundw
   case rel=>exact⟨j+1,om,jS,nM,Gb.below kg nO (dJ _)⟩
   case measure=>exact qL
  .obtain rfl:j=L:=om;have iV:¬(j:Int)<(j:Int):=om;clear jv;go_wp2;go_returns;exact⟨_,rfl,HO.out,dQ⟩
abbrev EC(F:Nat)(K:Int)(vf vg:Value)(w:ak):Prop:=Calls prog F #[J K,vf,vg] w λe w'=>∃v,e=U (.tuple #[v,.bool false])/\Ow w' w.heap.size 3 1 .i64 v 0 (λ_=>0)/\Gb w w'
def aJI(K:Int)(h:K<1\/¬K<1/\6<K)(vf vg:Value)(w:ak):EC 53 K vf vg w:=by
 rcases h with h|⟨h,h'⟩
 .go_enter func53,ntmps53;go_wp2;go_returns;exact⟨_,rfl,Ow.lit w _ _ _ _,kg⟩
 .go_enter func53,ntmps53;go_wp2;go_returns;exact⟨_,rfl,Ow.lit w _ _ _ _,kg⟩
def aJK(K N:Int)(k1:¬K<1)(k6:¬6<K)(vf vg:Value)(w:ak)(HN:KW 46 #[J K] (J N))
  (HF:Hid (QW 119 #[vf,J N] w (.bool false))):EC 53 K vf vg w:=by
 go_enter func53,ntmps53;go_wp2_with (first|(go_at_call 46;refine kw (HN _) ?_)|(go_at_call 119;refine HF.out.mono ?_;rintro e wk ⟨rfl,hwk⟩;subst hwk))
 go_returns;exact⟨_,rfl,Ow.lit w _ _ _ _,kg⟩
def aJJ(K N:Int)(k1:¬K<1)(k6:¬6<K)(vf vg:Value)(w:ak)(HN:KW 46 #[J K] (J N))
  (HF:Hid (QW 119 #[vf,J N] w (.bool true))) (HG:Hid (QW 119 #[vg,J N] w (.bool false))):EC 53 K vf vg w:=by
 go_enter func53,ntmps53;go_wp2_with (first|(go_at_call 46;refine kw (HN _) ?_)|(go_at_call 119;first|(with_reducible refine HF.out.mono ?_;rintro e wk ⟨rfl,hwk⟩;subst hwk)|(with_reducible refine HG.out.mono ?_;rintro e wk ⟨rfl,hwk⟩;subst hwk)))
 go_returns;exact⟨_,rfl,Ow.lit w _ _ _ _,kg⟩
def aOK:(prog.info? 3).map (λi=>(i.zero,i.size,i.bytes))=D (D (J 0),1,8):=by kernel_rfl
structure Mk (w w':ak) (v:Value):Prop where
 os:w'.os=w.os
 tape:w'.tape=w.tape
 output:w'.output=w.output
 size:w'.heap.size=w.heap.size
 block:∀p,v.ownBlock≠D p->w'.heap[p]?=w.heap[p]?
def Mk.refl(w:ak)(v:Value):Mk w w v:=⟨rfl,rfl,rfl,rfl,λ_ _=>rfl⟩
def Mk.set(h:Mk w w' (aF b n cap))(j:Nat)(u:Value):Mk w (w'.setCell ⟨b,j,I⟩ u) (aF b n cap):=by
 refine⟨h.os,h.tape,h.output,by simp[h.size],λp hp=>?_⟩;rw[Below.heap_setCell _ _ _ _ (λe=>hp (by rw[e];rfl))];exact h.block p hp
def Mk.below(h:Mk w w' v)(hv:∀p,v.ownBlock=D p->base<=p):Below base w w':=by
 refine⟨h.os,h.tape,h.output,Nat.le_of_eq h.size.symm,λp hp=>h.block p λe=>?_⟩;have:=hv p e;omega
def Mk.cell(h:Mk w w' v):∀p off u,aB w p off u->v.ownBlock≠D p->aB w' p off u:=λp off u hu lM=>(World.cell?_of_block (w:=w) (a:=⟨p,off,I⟩) (h.block p lM)).trans hu
def Rd.mk(h:Mk w w' v)(hr:Rd w k u n m g)(lM:∀p,u.ownBlock=D p->v.ownBlock≠D p):Rd w' k u n m g:=by
 obtain⟨a,cap,rfl,h2,h3,h4⟩:=hr;refine⟨a,cap,rfl,h2,h3,λhn=>?_⟩;obtain⟨b,rfl,hc⟩:=h4 hn;exact⟨b,rfl,λj hj=>h.cell _ _ _ (hc j hj) (lM b rfl)⟩
def Ow.mk(h:Mk w w' v)(ho:Ow w base t size k u n g)(lM:∀p,u.ownBlock=D p->v.ownBlock≠D p):Ow w' base t size k u n g:=by
 refine⟨ho.1,?_⟩;rcases ho.2 with hn|⟨b,cap,cur,rfl,hb,hh,rest⟩
 .exact .inl hn
 .refine .inr ⟨b,cap,cur,rfl,hb,?_,rest⟩;rw[h.block b (lM b rfl)];exact hh
def aBX(w:ak)(k:IntKind)(a:Option Addr)(n:Nat)(g:Nat->Int):Prop:=n=0\/∃b off,a=D ⟨b,off,I⟩/\∀i,i<n->aB w b (off+i) (.int k (g i))
def aBX.gb{a:Option Addr}(h:aBX w k a n g)(hg:Gb w w'):aBX w' k a n g:=by
 rcases h with h|⟨b,off,e,hc⟩
 .exact .inl h
 .exact .inr ⟨b,off,e,λi hi=>hg.old (hc i hi)⟩
def aDk(K N:Int)(n h:Nat)(hn:n<=128)(hh:h<=128)(Ip:0<n)(Tc:0<h)(k1:¬K<1)(k6:¬6<K)(vf vg:Value)(w:ak)(cf cg cs tz:Nat->Int)(zf zg zp:Nat->Int × Int)
  (HN:KW 46 #[J K] (J N))
  (HF:Hid (QW 119 #[vf,J N] w (.bool true))) (HG:Hid (QW 119 #[vg,J N] w (.bool true)))
  (HWf:Hid (∀w',Gb w w'->CT 121 #[vf] w' λe bf=>∃v,e=U v/\Rd bf O v n n cf/\Gb w' bf))
  (HWg:Hid (∀w',Gb w w'->CT 121 #[vg] w' λe bf=>∃v,e=U v/\Rd bf O v n n cg/\Gb w' bf))
  (HTf:Hid (∀w' u,Rd w' O u n n cf->CT 120 #[J K,u] w' λe bf=>∃b cap,e=U (aF b h cap)/\b<bf.heap.size/\(∀q,q<h*2->aB bf b q (Y (flat zf q)))/\Gb w' bf))
  (HTg:Hid (∀w' u,Rd w' O u n n cg->CT 120 #[J K,u] w' λe bf=>∃b cap,e=U (aF b h cap)/\b<bf.heap.size/\(∀q,q<h*2->aB bf b q (Y (flat zg q)))/\Gb w' bf))
  (HP:Hid (∀j,j<h->∀w',QB 122 #[aS ((zf j).1) ((zf j).2),aS ((zg j).1) ((zg j).2)] w' (aS ((zp j).1) ((zp j).2))))
  (HB:Hid (∀w' u,Rd w' O u h (h*2) (flat zp)->CT 123 #[J K,u] w' λe bf=>∃b cap,e=U (aF b n cap)/\b<bf.heap.size/\(∀q,q<n->aB bf b q (Y (cs q)))/\Gb w' bf))
  (HI:Hid (∀j,j<n->∀w',CT 69 #[J 1,J 0,J 1,Y (cs j)] w' λe bf=>∃fl:Int,e=U (aU (tz j) fl)/\Gb w' bf)):
  CT 53 #[J K,vf,vg] w λe w'=>∃v,e=U (.tuple #[v,.bool true])/\Ow w' w.heap.size 3 1 .i64 v n (λj=>IntKind.i64.wrap (tz j))/\Gb w w':=by
 have hf:=xO;go_enter func53,ntmps53;go_upto_region 3 with(first|(go_at_call 46;refine kw (HN _) ?_)|(go_at_call 119;first|(with_reducible refine HF.out.mono ?_;rintro e wk ⟨rfl,hwk⟩;subst hwk)|(with_reducible refine HG.out.mono ?_;rintro e wk ⟨rfl,hwk⟩;subst hwk)))
 clear HN HF HG;go_upto_region 4 with(first|(go_at_call 121;refine(HWf _ kg).mono ?_;rintro e w1 ⟨u1,rfl,wz,au⟩)|(go_at_call 120;refine(HTf _ _ wz).mono ?_;rintro e w2 ⟨ba,ca,rfl,hba,hca,aC⟩))
 go_upto_region 5 with(first|(go_at_call 121;refine(HWg _ kg).mono ?_;rintro e w3 ⟨u3,rfl,hr3,aO⟩)|(go_at_call 120;refine(HTg _ _ hr3).mono ?_;rintro e W ⟨bb,cb,rfl,Vr,Ci,Et⟩))
 have gA:Gb w2 W:=aO.trans Et;have HCA:Hid (∀q,q<h*2->aB W ba q (Y (flat zf q))):=λq hq=>gA.old (hca q hq);have HCB:Hid _:=Ci;have hgW:Gb w W:=kg;have aO8:ba<W.heap.size:=by have:=gA.size;omega
 have aEV:=hgW.size;clear hca Ci au aC aO Et gA HWf HWg HTf HTg wz hr3 hba;go_wp2;go_loopw [10,11] (λf i wr=>∃j:Nat,j<=h/\i=J j/\Ow wr W.heap.size 123 2 O f j (flat zp)/\Gb W wr) (λ_ i _=>h-(intOf i).toNat)
 case atStart=>exact⟨0,fV _,rfl,Ow.lit W _ _ _ _,kg⟩
 case round=>
  obtain⟨j,hj,rfl,jv,dQ⟩:=hrel;have qY:=dQ.size;by_cases fJ:j<h
  .have iV:(j:Int)<(h:Int):=om;obtain⟨a1,kG⟩:=dP ((zf j).1);obtain⟨a2,sD⟩:=dP ((zf j).2);obtain⟨d1,uT⟩:=dP ((zg j).1);obtain⟨d2,DI⟩:=dP ((zg j).2);obtain⟨t1,O_⟩:=dP ((zp j).1);obtain⟨t2,ht2⟩:=dP ((zp j).2);have p0:wr.cell? ⟨ba,j*2,I⟩=D (Y a1):=by rw[<-kG,<-fO,dM];exact dQ.old (HCA (2*j) om)
   have p1:wr.cell? ⟨ba,j*2+1,I⟩=D (Y a2):=by rw[<-sD,<-fP,dM];exact dQ.old (HCA (2*j+1) om)
   have p2:wr.cell? ⟨bb,j*2,I⟩=D (Y d1):=by rw[<-uT,<-fO,dM];exact dQ.old (HCB (2*j) om)
   have p3:wr.cell? ⟨bb,j*2+1,I⟩=D (Y d2):=by rw[<-DI,<-fP,dM];exact dQ.old (HCB (2*j+1) om)
   have G1:=HP j fJ;rw[kG,sD,uT,DI,O_,ht2]at G1;have F1:Hid _:=G1;have e0:Hid (flat zp (j*2+0)=t1):=by show _=_;rw[(om:j*2+0=2*j),fO,O_]
   have e1:Hid (flat zp (j*2+1)=t2):=by show _=_;rw[(om:j*2+1=2*j+1),fP,ht2]
   have hOg:=λw' (hg:Gb wr w')=>Ow.gb jv hg;have Au:Hid _:=hOg;have HNa:Hid _:=jv.nlt aO8;have HNb:Hid _:=jv.nlt Vr;clear jv hOg G1 kG sD uT DI O_ ht2 HP HB HI;go_wp2;go_region_held3 (λw'=>aB w' ba (j*2) (Y a1)/\aB w' ba (j*2+1) (Y a2)/\aB w' bb (j*2) (Y d1)/\aB w' bb (j*2+1) (Y d2))(exact qj)(first|(go_at_call 122;with_reducible refine ku (F1.out _) λw3 aO=>?_;have Rj:=aO.size;(try simp only[dV,jg,jW]at Rj))|(refine step_more rfl _ _ 119 rfl 123 (.agg #[Y 0,Y 0]) 2 16 O underlying119 O1 rfl de de W.heap.size j 1 (flat zp) _ w3.heap.size rfl (Au _ kg) rfl (MQ 1 2 rfl j_ j_ e0.out e1.out) om om (by simp[go_sem];omega) ?_;intro v' w4 Dy rE wL _;have r0:aB w4 ba (j*2) (Y a1):=wL _ _ _ kb HNa.out;have r1:aB w4 ba (j*2+1) (Y a2):=wL _ _ _ kb HNa.out;have r2:aB w4 bb (j*2) (Y d1):=wL _ _ _ kb HNb.out;have r3:aB w4 bb (j*2+1) (Y d2):=wL _ _ _ kb HNb.out))
   all_goals
    exact aMc
  .obtain rfl:j=h:=om;have FN:¬(j:Int)<(j:Int):=om;have ZK:Gb w wr:=hgW.trans dQ;have hrd:=Ow.rd jv;clear jv HCA HCB HP;go_upto_region 11 with(go_at_call 123;refine(HB _ _ hrd).mono ?_;rintro e V ⟨bc,cc,rfl,hbc,Qx,aRB⟩);have hgV:Gb w V:=ZK.trans aRB;have HCC:Hid _:=Qx;have aTs:=hgV.size;clear Qx aRB hrd HB ZK;go_wp2;go_loopw [13,14] (λf i wr=>∃j:Nat,j<=n/\i=J j/\Ow wr V.heap.size 3 1 .i64 f j (λj=>IntKind.i64.wrap (tz j))/\Gb V wr) (λ_ i _=>n-(intOf i).toNat)
   case atStart=>exact⟨0,fV _,rfl,Ow.lit V _ _ _ _,kg⟩
   case round=>
    obtain⟨i,hi,rfl,jv,Ir⟩:=hrel;have aRc:=Ir.size;by_cases fJ:i<n
    .have iV:(i:Int)<(n:Int):=om;have HIj:Hid _:=HI i fJ;have x0:aB wr bc i (Y (cs i)):=Ir.old (HCC i om);obtain⟨y,hy⟩:=dP (IntKind.i64.wrap (tz i));have e0:Hid ((λj=>IntKind.i64.wrap (tz j)) (i*1+0)=y):=by show _=_;rw[kW,Nat.add_zero];exact hy
     have Au:Hid (∀w2,Gb wr w2->Ow w2 V.heap.size 3 1 .i64 _ i (λj=>IntKind.i64.wrap (tz j))):=λw2 hg=>Ow.gb jv hg;clear jv;go_wp2_with (first|(go_at_call 69;refine(HIj _).mono ?_;rintro e w2 ⟨fl,rfl,aC⟩)|(at_builtin;refine nC rfl _ _ 80 rfl 3 (J 0) 1 8 .i64 underlying80 aOK rfl de de V.heap.size i 1 (λj=>IntKind.i64.wrap (tz j)) _ w2.heap.size rfl (Au _ kg) rfl (CS (g:=λj=>IntKind.i64.wrap (tz j)) (m:=i*1) j_ e0.out) om om (by have:=aC.size;rw[dV];omega) ?_;intro v' w3 nM nO _ _))
     go_roundw
     case rel=>exact⟨i+1,om,jS,nM,Gb.below kg nO (dJ _)⟩
     case measure=>exact qL
    .obtain rfl:i=n:=om;have iV:¬(i:Int)<(i:Int):=om;have ZG:=Ow.mono jv aTs;have hgE:Gb w wr:=hgV.trans Ir;clear jv;go_wp2;go_returns;exact⟨_,rfl,ZG,hgE⟩
