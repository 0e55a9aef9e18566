import Derived.Test.YthoelefkjpjhfaaGreatDoorK3
import Derived.Test.YthoelefkjpjhfaaGreatDoorN3
set_option linter.all false
set_option maxRecDepth 1000000
set_option maxHeartbeats 40000000
open Go.Proofs.YthoelefkjpjhfaaGreatDoor renaming vI → J, vU → Y
open Go.Ending renaming returned → Z
open Go.Proofs.Tryz
namespace Go.Proofs.YthoelefkjpjhfaaGreatDoor
open Go.RowKit
attribute [local go_sem] aA
variable{w w':World}{o:Ops}{a1 a2 b1 b2 wr wi x0 x1 x2 x3:Int}{v cv:Value}{n base L size b m:Nat}{f g cs:Nat->Int}{e:TypeId}{xs:List Value}{ops:Array Oper}{rest:List Oper}{op:Oper}{a:Act}{Q:Exit->Act->World->Prop}{k:IntKind}
def aBx(H:o.I)(jo:Wd a1)(qo:Wd a2)(gU:Wd b1)(lC:Wd b2)(hw:Fm w):
  QR 331 #[aN a1 a2,aN b1 b2] w (aN (o.add a1 b1) (o.add a2 b2)):=by
 have HP:Hid (∀a b,Wd a->Wd b->∀w',Gr w w'->QR 268 #[Y a,Y b] w' (Y (o.add a b))):=λa b ha hb w' hg=>RY H ha hb (hw.gr hg);clear H hw;go_enter func331,ntmps331;go_wp2;go_region_held3 (λw'=>kM w' w.heap.size 0 1 (Y a1) (Y a2)/\kM w' (w.heap.size+1) 0 1 (Y b1) (Y b2))(exact nX)(first|(go_at_call 268;with_reducible refine ku (HP.out _ _ (by assumption) (by assumption) _ kr) λw1 ak=>?_;have:=ak.Ap w;have:=ak.QS w;have oM:=ak.TW w))
 all_goals
  go_wp2;exact bW (by simp[results,Tryz.results331,go_sem,oM])
def Xw(H:o.I)(jo:Wd a1)(qo:Wd a2)(gU:Wd b1)(lC:Wd b2)(hw:Fm w):
  QR 332 #[aN a1 a2,aN b1 b2] w (aN (o.sub a1 b1) (o.sub a2 b2)):=by
 have HP:Hid (∀a b,Wd a->Wd b->∀w',Gr w w'->QR 200 #[Y a,Y b] w' (Y (o.sub a b))):=λa b ha hb w' hg=>aBh H ha hb (hw.gr hg);clear H hw;go_enter func332,ntmps332;go_wp2;go_region_held3 (λw'=>kM w' w.heap.size 0 1 (Y a1) (Y a2)/\kM w' (w.heap.size+1) 0 1 (Y b1) (Y b2))(exact nX)(first|(go_at_call 200;with_reducible refine ku (HP.out _ _ (by assumption) (by assumption) _ kr) λw1 ak=>?_;have:=ak.Ap w;have:=ak.QS w;have oM:=ak.TW w))
 all_goals
  go_wp2;exact bW (by simp[results,Tryz.results332,go_sem,oM])
def QD(H:o.I)(jo:Wd a1)(qo:Wd a2)(hw:Fm w):
  QR 333 #[aN a1 a2] w (aN (o.mul a1 4602678819172646912) (o.mul a2 4602678819172646912)):=by
 have hh:=uI;have HP:Hid (∀a b,Wd a->Wd b->∀w',Gr w w'->QR 201 #[Y a,Y b] w' (Y (o.mul a b))):=λa b ha hb w' hg=>Rx H ha hb (hw.gr hg);clear H hw;go_enter func333,ntmps333;go_wp2;go_region_held3 (λw'=>kM w' w.heap.size 0 1 (Y a1) (Y a2))(exact nX)(first|(go_at_call 201;with_reducible refine ku (HP.out _ _ (by assumption) (by assumption) _ kr) λw1 ak=>?_;have:=ak.Ap w;have oM:=ak.Y21 w))
 all_goals
  go_wp2;exact bW (by simp[results,Tryz.results333,go_sem,oM])
def aNK(jo:Wd a1)(qo:Wd a2)(hw:Fm w):
  QR 263 #[aN a1 a2] w (aN (vM a1) (vM a2)):=by
 have HP:Hid (∀a,Wd a->∀w',Gr w w'->QR 314 #[Y a] w' (Y (vM a))):=λa ha w' hg=>Dw ha (hw.gr hg);clear hw;go_enter func263,ntmps263;go_wp2;go_region_held3 (λw'=>kM w' w.heap.size 0 1 (Y a1) (Y a2))(exact nX)(first|(go_at_call 314;with_reducible refine ku (HP.out _ (by assumption) _ kr) λw1 ak=>?_;have:=ak.Ap w;have oM:=ak.Y21 w))
 all_goals
  go_wp2;exact bW (by simp[results,Tryz.results263,go_sem,oM])
def aJX(jo:Wd a1)(qo:Wd a2)(hw:Fm w):
  QR 334 #[aN a1 a2] w (aN a1 (vM a2)):=by
 have HP:Hid (∀a,Wd a->∀w',Gr w w'->QR 314 #[Y a] w' (Y (vM a))):=λa ha w' hg=>Dw ha (hw.gr hg);clear hw;go_enter func334,ntmps334;go_wp2;go_region_held3 (λw'=>kM w' w.heap.size 0 1 (Y a1) (Y a2))(exact nX)(first|(go_at_call 314;with_reducible refine ku (HP.out _ (by assumption) _ kr) λw1 ak=>?_;have:=ak.Ap w;have oM:=ak.Y21 w))
 all_goals
  go_wp2;exact bW (by simp[results,Tryz.results334,go_sem,oM])
def aJP(H:o.I)(HI:o.In)(jo:Wd a1)(qo:Wd a2)(hw:Fm w):
  QR 262 #[aN a1 a2] w (aN (o.sQ (a1,a2)) (o.div a2 (o.add (o.sQ (a1,a2)) (o.sQ (a1,a2))))):=by
 have hr:=HI.sQ (show rU (a1,a2) from ⟨jo,qo⟩);have HA:Hid (∀w',Gr w w'->QR 268 #[Y 4607182418800017408,Y a1] w' (Y (o.add O_ a1))):=λw' hg=>RY H BO jo (hw.gr hg);have HM:Hid (∀w',Gr w w'->QR 201 #[Y (o.add O_ a1),Y 4602678819172646912] w' (Y (o.mul (o.add O_ a1) Jc))):=λw' hg=>Rx H (HI.add BO jo) uI (hw.gr hg);have HQ:Hid (∀w',Gr w w'->QR 312 #[Y (o.mul (o.add O_ a1) Jc)] w' (Y (o.sQ (a1,a2)))):=λw' hg=>aFy H (HI.mul (HI.add BO jo) uI) (hw.gr hg);generalize o.sQ (a1,a2)=r at*
 generalize o.mul (o.add O_ a1) Jc=m at*
 generalize o.add O_ a1=s at*
 have HB:Hid (∀w',Gr w w'->QR 268 #[Y r,Y r] w' (Y (o.add r r))):=λw' hg=>RY H hr hr (hw.gr hg);have HD:Hid (∀w',Gr w w'->QR 313 #[Y a2,Y (o.add r r)] w' (Y (o.div a2 (o.add r r)))):=λw' hg=>aBU H qo (HI.add hr hr) (hw.gr hg);clear H HI hw hr;go_enter func262,ntmps262;go_wp2_with (first|(go_at_call 268;with_reducible refine ku (HA.out _ kr) λw1 ak=>?_;have:=ak.Ap w;have oM:=ak.Y21 w)|(go_at_call 201;with_reducible refine ku (HM.out _ kr) λw1 ak=>?_;have:=ak.Ap w;have oM:=ak.Y21 w)|(go_at_call 312;with_reducible refine ku (HQ.out _ kr) λw1 ak=>?_;have:=ak.Ap w;have oM:=ak.Y21 w))
 go_region_held3 (λw'=>kM w' w.heap.size 0 1 (Y a1) (Y a2))(exact nX)(first|(go_at_call 268;with_reducible refine ku (HB.out _ kr) λw1 ak=>?_;have:=ak.Ap w;have oM:=ak.Y21 w)|(go_at_call 313;with_reducible refine ku (HD.out _ kr) λw1 ak=>?_;have:=ak.Ap w;have oM:=ak.Y21 w))
 all_goals
  go_wp2;exact bW (by simp[results,Tryz.results262,go_sem,oM])
def aDM(H:o.I)(HI:o.In)(hwr:Wd wr)(Tc:Wd wi)(jo:Wd a1)(qo:Wd a2)(gU:Wd b1)(lC:Wd b2)(hw:Fm w)(t:Int × Int)(ht:o.cMul (wr,wi) (b1,b2)=t):
  QR 316 #[aN wr wi,aN a1 a2,aN b1 b2] w (.tuple #[aN (o.add a1 t.1) (o.add a2 t.2),aN (o.sub a1 t.1) (o.sub a2 t.2)]):=by
 have hT:=HI.cMul (show rU (wr,wi) from ⟨hwr,Tc⟩) (show rU (b1,b2) from ⟨gU,lC⟩);have HT:Hid (∀w',Gr w w'->QR 197 #[aN wr wi,aN b1 b2] w' (aN t.1 t.2)):=λw' hg=>by rw[<-ht];exact NW H HI hwr Tc gU lC (hw.gr hg)
 rw[ht]at hT;obtain⟨t1,t2⟩:=t;have HA:Hid (∀w',Gr w w'->QR 331 #[aN a1 a2,aN t1 t2] w' (aN (o.add a1 t1) (o.add a2 t2))):=λw' hg=>aBx H jo qo hT.1 hT.2 (hw.gr hg);have HS:Hid (∀w',Gr w w'->QR 332 #[aN a1 a2,aN t1 t2] w' (aN (o.sub a1 t1) (o.sub a2 t2))):=λw' hg=>Xw H jo qo hT.1 hT.2 (hw.gr hg);dsimp only at HT;clear H HI hw hT ht;show Calls _ _ _ _ (λe w'=>e=Z (.tuple #[aN (o.add a1 t1) (o.add a2 t2),aN (o.sub a1 t1) (o.sub a2 t2)])/\Gr w w');generalize o.add a1 t1=x1 at*
 generalize o.add a2 t2=x2 at*
 generalize o.sub a1 t1=y1 at*
 generalize o.sub a2 t2=y2 at*
 go_enter func316,ntmps316;go_wp2_with (first|(go_at_call 197;with_reducible refine ku (HT.out _ kr) λwt WW=>?_;have:=WW.Ap w;have:=WW.QS w;have:=WW.C22 w;have oM:=WW.Y23 w;have pq0:=WW.Y2 (w.heap.size+1+1+1+1);have hz:=au pq0.1))
 go_region_held3 (λw'=>kM w' (w.heap.size+1) 0 1 (Y a1) (Y a2)/\kM w' wt.heap.size 0 1 (Y t1) (Y t2))(exact nX)(first|(go_at_call 331;with_reducible refine ku (HA.out _ kr) λw1 ak=>?_;have:=ak.QS w;have:=ak.C22 w;have oM:=ak.Y23 w;have pq0:=ak.Y2 (w.heap.size+1+1+1+1);have:=ak.Ap wt)|(go_at_call 332;with_reducible refine ku (HS.out _ kr) λw1 ak=>?_;have:=ak.QS w;have:=ak.C22 w;have oM:=ak.Y23 w;have pq0:=ak.Y2 (w.heap.size+1+1+1+1);have:=ak.Ap wt))
 all_goals
  go_wp2;exact bW (by simp[results,Tryz.results316,go_sem,oM,pq0])
def aDQ(H:o.I)(HI:o.In)(hwr:Wd wr)(Tc:Wd wi)(jo:Wd a1)(qo:Wd a2)(gU:Wd b1)(lC:Wd b2)(hw:Fm w)(x y:Int × Int)(hx:o.rP (o.cAdd (a1,a2) (b1,b2))=x)(hy:o.rP (o.cMul (o.cSub (a1,a2) (b1,b2)) (XA (wr,wi)))=y):
  QR 317 #[aN wr wi,aN a1 a2,aN b1 b2] w (.tuple #[aN x.1 x.2,aN y.1 y.2]):=by
 obtain⟨p,hp⟩:=dK (o.cAdd (a1,a2) (b1,b2));obtain⟨q,hq⟩:=dK (o.cSub (a1,a2) (b1,b2));obtain⟨r,hr⟩:=dK (o.cMul q (XA (wr,wi)));have wp:=HI.cAdd (show rU (a1,a2) from ⟨jo,qo⟩) (show rU (b1,b2) from ⟨gU,lC⟩);have wq:=HI.cSub (show rU (a1,a2) from ⟨jo,qo⟩) (show rU (b1,b2) from ⟨gU,lC⟩);rw[hp]at wp hx;rw[hq]at wq hy;have wr':=HI.cMul wq (Xz (show rU (wr,wi) from ⟨hwr,Tc⟩));rw[hr]at wr' hy;have HA:Hid (∀w',Gr w w'->QR 331 #[aN a1 a2,aN b1 b2] w' (aN p.1 p.2)):=λw' hg=>by rw[<-hp];exact aBx H jo qo gU lC (hw.gr hg)
 have HS:Hid (∀w',Gr w w'->QR 332 #[aN a1 a2,aN b1 b2] w' (aN q.1 q.2)):=λw' hg=>by rw[<-hq];exact Xw H jo qo gU lC (hw.gr hg)
 have HC:Hid (∀w',Gr w w'->QR 334 #[aN wr wi] w' (aN wr (vM wi))):=λw' hg=>aJX hwr Tc (hw.gr hg);have HT:Hid (∀w',Gr w w'->QR 197 #[aN q.1 q.2,aN wr (vM wi)] w' (aN r.1 r.2)):=λw' hg=>by rw[<-hr];exact NW H HI wq.1 wq.2 hwr (EW Tc) (hw.gr hg)
 have HH:Hid (∀w',Gr w w'->QR 333 #[aN p.1 p.2] w' (aN x.1 x.2)):=λw' hg=>by rw[<-hx];exact QD H wp.1 wp.2 (hw.gr hg)
 have HL:Hid (∀w',Gr w w'->QR 333 #[aN r.1 r.2] w' (aN y.1 y.2)):=λw' hg=>by rw[<-hy];exact QD H wr'.1 wr'.2 (hw.gr hg)
 clear H HI hw wp wq wr' hp hq hr hx hy hwr Tc jo qo gU lC;obtain⟨x1,x2⟩:=x;obtain⟨y1,y2⟩:=y;obtain⟨p1,p2⟩:=p;obtain⟨q1,q2⟩:=q;obtain⟨r1,r2⟩:=r;generalize vM wi=wj at*
 dsimp only at*
 go_enter func317,ntmps317;go_wp2;go_region_held3 (λw'=>kM w' w.heap.size 0 1 (Y wr) (Y wi)/\kM w' (w.heap.size+1) 0 1 (Y a1) (Y a2)/\kM w' (w.heap.size+1+1) 0 1 (Y b1) (Y b2))(exact nX)(first|(go_at_call 331;with_reducible refine ku (HA.out _ kr) λw1 ak=>?_;have:=ak.Ap w;have:=ak.QS w;have:=ak.C22 w;have oM:=ak.Y23 w;have pq0:=ak.Y2 (w.heap.size+1+1+1+1))|(go_at_call 332;with_reducible refine ku (HS.out _ kr) λw1 ak=>?_;have:=ak.Ap w;have:=ak.QS w;have:=ak.C22 w;have oM:=ak.Y23 w;have pq0:=ak.Y2 (w.heap.size+1+1+1+1))|(go_at_call 334;with_reducible refine ku (HC.out _ kr) λw1 ak=>?_;have:=ak.Ap w;have:=ak.QS w;have:=ak.C22 w;have oM:=ak.Y23 w;have pq0:=ak.Y2 (w.heap.size+1+1+1+1))|(go_at_call 197;with_reducible refine ku (HT.out _ kr) λw1 ak=>?_;have:=ak.Ap w;have:=ak.QS w;have:=ak.C22 w;have oM:=ak.Y23 w;have pq0:=ak.Y2 (w.heap.size+1+1+1+1))|(go_at_call 333;first|(with_reducible refine ku (HH.out _ kr) λw1 ak=>?_;have:=ak.Ap w;have:=ak.QS w;have:=ak.C22 w;have oM:=ak.Y23 w;have pq0:=ak.Y2 (w.heap.size+1+1+1+1))|(with_reducible refine ku (HL.out _ kr) λw1 ak=>?_;have:=ak.Ap w;have:=ak.QS w;have:=ak.C22 w;have oM:=ak.Y23 w;have pq0:=ak.Y2 (w.heap.size+1+1+1+1))))
 all_goals
  go_wp2;exact bW (by simp[results,Tryz.results317,go_sem,oM,pq0])
def aGB:(Tryz.prog.info? 123).map (λi=>(i.zero,i.size,i.bytes))=some (some (aN 0 0),2,16):=by kernel_rfl
def aPp:(Tryz.prog.info? 119).map (λi=>(i.zero,i.size,i.bytes))=some (some (.slice none 0 0),1,24):=by kernel_rfl
def PO(o:Ops)(w:World)(base:Nat)(v:Value)(n:Nat):Prop:=
 ∃xs:List Value,w.ownsRow base 119 1 v n xs/\∀i,1<=i->i<n->∃u,xs[i]?=some u/\Ow w base 123 2 .u64 u (2^(i-1)) (flat (o.rt i))
def aMs(h:w.ownsRow base e size v n xs)(hg:Gb w w'):w'.ownsRow base e size v n xs:=by
 refine⟨h.1,?_⟩;rcases h.2 with hn|⟨b,cap,cur,rfl,hb,hh,rest⟩
 .exact .inl hn
 .refine .inr ⟨b,cap,cur,rfl,hb,?_,rest⟩;rw[Below.block hg b (Array.getElem?_eq_some_iff.1 hh).1];exact hh
def PO.gb(h:PO o w base v n)(hg:Gb w w'):PO o w' base v n:=by
 obtain⟨xs,h1,h2⟩:=h;refine⟨xs,aMs h1 hg,λi hi hn=>?_⟩;obtain⟨u,hu,ho⟩:=h2 i hi hn;exact⟨u,hu,ho.gb hg⟩
def Un(Z8:op.guard=none)(s x:Operand)
  (ho:op.op=.call {callee:=.builtin .append,args:=#[s,x],argTypes:=#[215,215]})
  (base n:Nat) (v u:Value) (b:Nat) (hs:a.eval s=v) (gZ:PO o w base v n) (hx:a.eval x=aC b 1 1) (hu:aA w b 0 u)
  (hru:Ow w base 123 2 .u64 u (2^(n-1)) (flat (o.rt n))) (hn:n<=100) (nN:base<=w.heap.size)
  (h:∀v' w',PO o w' base v' (n+1)->Below base w w'->wpList Tryz.prog ops Q rest (a.put op.dst v') w'):wpList Tryz.prog ops Q (op::rest) a w:=by
 obtain⟨i0,hi,lF,iR,lu⟩:=info_parts aPp;obtain⟨xs,h1,h2⟩:=gZ;have hu1:u.oneCell'=true:=by
  obtain⟨_,_,rfl,_⟩:=hru.len;rfl
 have oG:xs.length=n:=by have:=h1.1;omega
 refine wpList_append_own _ Z8 s x 215 ho base 119 i0 (.slice none 0 0) 1 24 Tryz.underlying215 hi lF iR lu rfl de v n xs hs h1 ⟨b,0,none⟩ 1 1 [u] hx rfl ?_ ?_ (by unfold maxLen;omega) om nN ?_
 .intro j y hj
  match j,hj with
  |0,hj=>simp at hj;subst hj;simpa[Addr.add]using hu
 .intro y hy;simp at hy;subst hy;exact hu1
 .intro v' w' tX kY _;have keep:∀(y:Value) (m:Nat) (g:Nat->Int),Ow w base 123 2 .u64 y m g->Ow w' base 123 2 .u64 y m g:=by
   intro y m g hy;refine World.ownsRow.kept hy kY ?_;rcases hy.2 with⟨rfl,_⟩|⟨g',cap',cur',rfl,_,hh',_⟩
   .exact .inl rfl
   .refine .inr λe=>?_;rcases h1.2 with⟨rfl,_⟩|⟨g,cap,cur,rfl,_,hh,_⟩
    .simp[Value.ownBlock]at e
    .simp only[Value.ownBlock,Option.some.injEq]at e;subst e;rw[hh]at hh';simp at hh'
  refine h v' w' ⟨xs++[u],tX,λi hi hin=>?_⟩ ?_
  .rcases Nat.lt_or_ge i n with c|c
   .obtain⟨y,hy,hoy⟩:=h2 i hi c;exact⟨y,by rw[List.getElem?_append_left (by omega)];exact hy,keep _ _ _ hoy⟩
   .obtain rfl:i=n:=om;exact⟨u,by rw[<-oG];simp,keep _ _ _ hru⟩
  .refine(Below.refl base w).grown kY nN ?_;intro q hq;exact(World.ownsRow.lt h1 q hq).1
def lenV:Value->Nat
 | .slice _ n _=>n
 |_=>0
def cells4(h0:aA w b 0 (.int k x0))(h1:aA w b 1 (.int k x1))(h2:aA w b 2 (.int k x2))(h3:aA w b 3 (.int k x3))
  (e0:g (m+0)=x0) (e1:g (m+1)=x1) (e2:g (m+2)=x2) (e3:g (m+3)=x3):∀j,j<2*2->aA w b j (.int k (g (m+j))):=by
 intro j hj
 match j,hj with
 |0,_=>rw[e0];exact h0
 |1,_=>rw[e1];exact h1
 |2,_=>rw[e2];exact h2
 |3,_=>rw[e3];exact h3
def aAm(H:o.I)(HI:o.In)(k:Nat)(jB:1<=k)(Z7:k<=6)(hw:Fm w):
  CT 195 #[J k] w λe w'=>∃v,e=Z v/\PO o w' w.heap.size v (k+1)/\Gb w w':=by
 have HR:Hid (∀a1 a2,Wd a1->Wd a2->∀w',Gb w w'->QR 262 #[aN a1 a2] w' (aN ((o.root (a1,a2)).1) ((o.root (a1,a2)).2))):=λa1 a2 h1 h2 w' hg=>aJP H HI h1 h2 (hw.gb hg);have HN:Hid (∀a1 a2,Wd a1->Wd a2->∀w',Gb w w'->QR 263 #[aN a1 a2] w' (aN (vM a1) (vM a2))):=λa1 a2 h1 h2 w' hg=>aNK h1 h2 (hw.gb hg);have HW:Hid _:=HI;clear H HI hw;go_enter func195,ntmps195;go_wp2;go_loopw [3] (λv wr=>∃n g aAc,2<=n/\n<=k+1/\v=aC g n aAc/\PO o wr w.heap.size (aC g n aAc) n/\Gb w wr) (λv _=>k+1-lenV v)
 case atStart=>
  refine⟨2,w.heap.size+1,2,Nat.le_refl _,om,rfl,⟨[.slice none 0 0,aC w.heap.size 1 1],?_,?_⟩,kg⟩
  .have:=World.ownsRow_lit (base:=w.heap.size) (e:=119) (size:=1) (w.alloc (.cells #[Y 0,Y 4607182418800017408] 123)) #[.slice none 0 0,aC w.heap.size 1 1] 2 (by simp[go_sem]) de rfl
   simpa[go_sem]using this
  .intro i hi1 hi2;obtain rfl:i=1:=om;refine⟨_,rfl,Ow.alloc ?_ _⟩;have:=World.ownsRow_lit (base:=w.heap.size) (e:=123) (size:=2) w #[Y 0,Y 4607182418800017408] 1 (Nat.le_refl _) de rfl;exact this
 case round=>
  rename World=>W
  obtain⟨n,g,aAc,hn2,hnk,rfl,hc,dH⟩:=hrel;obtain⟨n',rfl⟩:∃n',n=n'+2:=⟨n-2,om⟩;have W_:=hc;obtain⟨xs,hx1,ZW⟩:=hc;obtain⟨u,hu,hou⟩:=ZW (n'+1) om om;obtain⟨b,cap,rfl,qV,gU,lC,qm,hbc⟩:=hou.at (Nat.pow_pos de);have hcu:=(World.ownsRow.cellAt hx1 (n'+1) om).trans hu;clear hou ZW hx1 hu;by_cases rG:n'+2<=k
  .have aGK:((n'+2:Nat):Int)<=(k:Int):=om;have hjj:((n'+2:Nat):Int)-1=((n'+1:Nat):Int):=om;obtain⟨m,hm⟩:=x_n (2^n');rw[(om:n'+1-1=n'),<-hm]at hcu;have AU:0<m:=by rw[hm];exact Nat.pow_pos de
   have JI:m<=64:=by
    rw[hm];have:=Nat.pow_le_pow_right (show 0<2 by decide) (om:n'<=6);omega
   rw[(om:n'+1-1=n'),<-hm]at hbc;have HC0:Hid _:=W_;have HBC:Hid _:=hbc;have HM:Hid _:=hm;clear W_ hbc lC hm;go_wp2;have aGP:decide ((n':Int)+2<=(k:Int))=true:=jl;have aR4:n'+2-1=n'+1:=om;simp only[aGP,aR4];go_loopw [4,22] (λf i wr=>∃j:Nat,j<=m/\i=J j/\Ow wr W.heap.size 123 2 .u64 f (2*j) (flat (o.rt (n'+2)))/\Gb W wr) (λ_ i _=>m-(intOf i).toNat)
   case atStart=>exact⟨0,Nat.zero_le _,rfl,Ow.nil _ _ _ _ _ _,Gb.refl _⟩
   case round=>
    obtain⟨j,hj,rfl,iU,hgq⟩:=hrel;by_cases hjm:j<m
    .have D6:(j:Int)<(m:Int):=om;have HO:Hid _:=iU;obtain⟨a1,jo⟩:=x_n ((o.rt (n'+1) j).1);obtain⟨a2,qo⟩:=x_n ((o.rt (n'+1) j).2);have q0:wr.cell? ⟨b,j*2,none⟩=some (Y a1):=by rw[jo,<-eP,Nat.mul_comm];exact hgq.old (HBC (2*j) om).1
     have q1:wr.cell? ⟨b,j*2+1,none⟩=some (Y a2):=by rw[qo,<-eU,Nat.mul_comm];exact hgq.old (HBC (2*j+1) om).1
     have wa1:Wd a1:=by rw[jo];exact(HW.out.rt _ _).1
     have wa2:Wd a2:=by rw[qo];exact(HW.out.rt _ _).2
     have hs:=HW.out.root (show rU (a1,a2) from ⟨wa1,wa2⟩);have HR1:=HR a1 a2 wa1 wa2;obtain⟨s1,EN⟩:=dK ((o.root (a1,a2)).1);obtain⟨s2,hs2⟩:=dK ((o.root (a1,a2)).2);unfold rU at hs;rw[EN,hs2]at hs HR1;obtain⟨ws1,ws2⟩:=hs;have HN1:Hid _:=HN s1 s2 ws1 ws2;have HR2:Hid _:=HR1;have ert:(o.rt (n'+1) j)=(a1,a2):=by rw[jo,qo]
     have r0:o.rt (n'+2) (2*j)=(s1,s2):=by
      simp only[Ops.rt];rw[if_pos om,(om:2*j/2=j),ert,<-EN,<-hs2]
     have r1:o.rt (n'+2) (2*j+1)=(vM s1,vM s2):=by
      simp only[Ops.rt];rw[if_neg om,(om:(2*j+1)/2=j),ert,<-EN,<-hs2];rfl
     have e0:Hid (flat (o.rt (n'+2)) (2*j*2+0)=s1):=by show _=_;rw[(om:2*j*2+0=2*(2*j)),eP,r0]
     have e1:Hid (flat (o.rt (n'+2)) (2*j*2+1)=s2):=by show _=_;rw[(om:2*j*2+1=2*(2*j)+1),eU,r0]
     have e2:Hid (flat (o.rt (n'+2)) (2*j*2+2)=vM s1):=by show _=_;rw[(om:2*j*2+2=2*(2*j+1)),eP,r1]
     have e3:Hid (flat (o.rt (n'+2)) (2*j*2+3)=vM s2):=by show _=_;rw[(om:2*j*2+3=2*(2*j+1)+1),eU,r1]
     have hGB:Gb w wr:=dH.trans hgq;have hzq:=hgq.size;generalize vM s1=t1 at*
     generalize vM s2=t2 at*
     clear iU HR1 ert r0 r1 EN hs2 ws1 ws2 wa1 wa2 jo qo;go_wp2_with (first|(go_at_call 262;refine ku (HR2 _ kg) λw2 aB=>?_;have lu:=aB.size;(try simp only[World.size_alloc,World.size_drew,World.size_setCell]at lu)))
     go_region_held3 (λw'=>kM w' w2.heap.size 0 1 (Y s1) (Y s2))(exact nX)(first|(go_at_call 263;refine ku (HN1 _ kg) λw3 aK=>?_;have Pq:=aK.size;(try simp only[World.size_alloc,World.size_drew,World.size_setCell]at Pq))|(refine step_more rfl _ _ 119 rfl 123 (.agg #[Y 0,Y 0]) 2 16 .u64 Tryz.underlying119 aGB rfl de de W.heap.size (2*j) 2 (flat (o.rt (n'+2))) _ w3.heap.size rfl (Ow.gb HO.out kg) rfl (cells4 (by simp[go_sem]) (by simp[go_sem]) (by simp[go_sem]) (by simp[go_sem]) e0.out e1.out e2.out e3.out) om om (by simp[go_sem]at*;omega) ?_;intro v' w4 Ba pz ug _;have t40:aA w4 w2.heap.size 0 (Y s1):=ug _ _ _ kb (Ow.ne HO.out om);have t41:aA w4 w2.heap.size 1 (Y s2):=ug _ _ _ kb (Ow.ne HO.out om)))
     all_goals
      go_wp2;go_roundw
      case rel=>exact⟨j+1,om,by go_num,Ba,Gb.below kg pz (Nat.le_refl _)⟩
      case measure=>exact uz
    .obtain rfl:j=m:=om;have D6:¬(j:Int)<(j:Int):=om;obtain⟨ad,fc,rfl,_,_⟩:=iU.len;have hzq:=hgq.size;have hGB:Gb w wr:=dH.trans hgq;have hzw:=dH.size;have e2m:2*j=2^(n'+2-1):=by have:=HM.out;rw[(om:n'+2-1=n'+1),Nat.pow_succ];omega
     have HO:Hid (Ow wr W.heap.size 123 2 .u64 (.slice ad (2*j) fc) (2^(n'+2-1)) (flat (o.rt (n'+2)))):=by show Ow _ _ _ _ _ _ _ _;rw[<-e2m];exact iU
     clear iU e2m;go_wp2_with (at_builtin;refine Un (o:=o) rfl _ _ rfl w.heap.size (n'+2) _ _ wr.heap.size rfl (PO.gb HC0.out kg) rfl (by simp[go_sem]) (Ow.alloc (Ow.mono HO.out om) _) om (by simp[go_sem];omega) ?_;intro v' w5 hc5 hb5);obtain⟨g5,cap5,rfl⟩:∃g5 cap5,v'=aC g5 (n'+3) cap5:=by
      obtain⟨_,hx1,_⟩:=hc5;rcases hx1.2 with⟨_,h⟩|⟨g,aAc,_,rfl,_⟩
      .omega
      .exact⟨g,aAc,rfl⟩
     refine⟨⟨n'+3,g5,cap5,om,om,rfl,hc5,Gb.below kg hb5 (Nat.le_refl _)⟩,?_⟩;simp only[lenV];omega
  .have aGK:¬((n'+2:Nat):Int)<=(k:Int):=om;obtain rfl:k=n'+1:=om;have HC0:Hid _:=W_;clear W_ hbc;go_wp2;go_returns;exact⟨_,rfl,HC0.out,dH⟩
def aBj:(Tryz.prog.info? 71).map (λi=>(i.zero,i.size,i.bytes))=some (some (Y 0),1,8):=by kernel_rfl
def CR(o:Ops)(w:World)(cv:Value)(n:Nat):Prop:=
 ∃g cap,cv=aC g n cap/\∀i,1<=i->i<n->∃b cp,aA w g i (aC b (2^(i-1)) cp)/\∀q,q<2^(i-1)*2->aA w b q (Y (flat (o.rt i) q))
def PO.cr(h:PO o w base v n)(hn:0<n):CR o w v n:=by
 obtain⟨xs,h1,h2⟩:=h;obtain⟨g,cap,rfl⟩:∃g cap,v=aC g n cap:=by
  rcases h1.2 with⟨_,h⟩|⟨g,aAc,_,rfl,_⟩
  .omega
  .exact⟨g,aAc,rfl⟩
 refine⟨g,cap,rfl,λi hi hin=>?_⟩;obtain⟨u,hu,ho⟩:=h2 i hi hin;obtain⟨b,cp,rfl,_,_,_,_,hc⟩:=ho.at (Nat.pow_pos de);exact⟨b,cp,(World.ownsRow.cellAt h1 i om).trans hu,λq hq=>(hc q hq).1⟩
def CR.gb(h:CR o w cv n)(hg:Gb w w'):CR o w' cv n:=by
 obtain⟨g,cap,rfl,h2⟩:=h;refine⟨g,cap,rfl,λi hi hin=>?_⟩;obtain⟨b,cp,h3,h4⟩:=h2 i hi hin;exact⟨b,cp,hg.old h3,λq hq=>hg.old (h4 q hq)⟩
def aBP(hr:Rd w .u64 v 2 2 cs):
  CT 266 #[v] w λe w'=>∃v',e=Z v'/\Ow w' w.heap.size 123 2 .u64 v' 1 (flat (o.tr 1 cs))/\Gb w w':=by
 obtain⟨b,cap,rfl,h1,h2,hc⟩:=hr.at om;have c0:aA w b 0 (Y (cs 0)):=hc 0 om;have c1:aA w b 1 (Y (cs 1)):=hc 1 om;have e0:flat (o.tr 1 cs) 0=cs 0:=rfl;have e1:flat (o.tr 1 cs) 1=cs 1:=rfl;generalize flat (o.tr 1 cs)=f at*
 generalize cs 0=x at*
 generalize cs 1=y at*
 clear hr hc;go_enter func266,ntmps266;go_wp2;go_region;all_goals go_wp2<;>go_returns
 all_goals
  refine⟨_,rfl,?_,kg⟩;have:=World.ownsRow_lit (base:=w.heap.size) (e:=123) (size:=2) w.drew #[Y x,Y y] 1 (Nat.le_refl _) de rfl;refine Ow.congr (g:=λj=>if j=0 then x else y) this (λj hj=>?_)
  match j,hj with
  |0,_=>exact e0.symm
  |1,_=>exact e1.symm
def aGr(k j:Int)(w:World):QW 265 #[J k,J j] w (.func (.func 315) #[] #[]):=by
 go_enter func265,ntmps265;go_wp2;go_returns;exact⟨rfl,rfl⟩
def aBi(x y:Int)(w:World):QW 315 #[Y x,Y y] w (.tuple #[Y x,Y y]):=by
 go_enter func315,ntmps315;go_wp2;go_returns;exact⟨rfl,rfl⟩
def YB(hc:CR o w cv n)(k j:Nat)(jB:1<=k)(hk:k<n)(hn:n<=7)(hj:2*j<2^(k-1))(x y:Int)(hx:o.rt k (2*j)=(x,y)):
  QW 267 #[cv,J k,J j] w (.func (.func 316) #[aN x y] #[]):=by
 obtain⟨g,cap,rfl,h2⟩:=hc;obtain⟨b,cp,h3,h4⟩:=h2 k jB hk;obtain⟨m,hm⟩:=dK (2^(k-1));rw[hm]at h3 h4 hj;have hmm:m<=64:=by
  rw[<-hm];have:=Nat.pow_le_pow_right (show 0<2 by decide) (om:k-1<=6);omega
 have c0:w.cell? ⟨b,2*j*2,none⟩=some (Y x):=by rw[h4 _ om,Nat.mul_comm,eP,hx]
 have c1:w.cell? ⟨b,2*j*2+1,none⟩=some (Y y):=by rw[h4 _ om,(om:2*j*2+1=2*(2*j)+1),eU,hx]
 have C_:(k:Int)<(n:Int):=om;have hj':2*(j:Int)<(m:Int):=om;clear h2 h4 hm hx;go_enter func267,ntmps267;go_wp2;go_returns;exact⟨rfl,rfl⟩
def aKz{P:Prop}(h:P:=by
 have jc:(j:Int)<(L:Int):=om;have HWj:Hid _:=HW j fF;have hbj:=HB j fF;obtain⟨bb,cap',e,_,_,_,_,ND⟩:=iU.at om;simp only[Value.slice.injEq,Option.some.injEq,Addr.mk.injEq,and_true,true_and]at e;obtain⟨rfl,rfl⟩:=e;obtain⟨c0,z0⟩:=ND j om;rw[if_neg (by omega)]at c0;have x0:aA wr b (q0+j) (J (f j)):=dH.old (HC j om);obtain⟨z,hz⟩:=dK (o.int (f j));obtain⟨x,hx⟩:=dK (f j);rw[hz,hx]at HWj;rw[hx]at x0 hbj;have hu:IntKind.u64.wrap x=x%18446744073709551616:=IntKind.wrap_u64 x;have HWk:Hid _:=HWj _ rfl;generalize x%18446744073709551616=u at*
 have y0:¬x< -2047:=by have:=hbj.1;omega
 have y1:¬2047<x:=by have:=hbj.2;omega
 have Hz:Hid _:=hz;clear iU ND hx hz hbj HWj;go_wp2_with (go_at_call 92;refine(HWk _ dH).mono ?_;rintro e w2 ⟨fl,rfl,aB⟩;have c1:aA w2 w.heap.size j (Y 0):=aB.gb.old c0;have z1:=aB.z z0);go_roundw
 case rel=>
  refine⟨j+1,om,by go_num,?_,kg⟩;refine Ow.congr (Ow.store (Ow.gb HF.out aB.gb) j z) (λq hq=>?_);by_cases e1:q=j
  .rw[if_pos e1,if_pos om,e1,Hz.out]
  .by_cases e2:q<j
   .rw[if_neg e1,if_pos e2,if_pos (by omega)]
   .rw[if_neg e1,if_neg e2,if_neg (by omega)]
 case measure=>simp[intOf]<;>omega):P:=h
def aDU(o:Ops):Prop:=∀n u:Int,-2047<=n->n<=2047->u=n%18446744073709551616->Hid (∀w,Fm w->CT 92 #[J 1,J 0,J 1,Y u] w λe w'=>∃fl:Int,e=Z (aP (o.int n) fl)/\Gr w w')
def aMc(hr:iD w v L f)(n:Int)(hn:(L:Int)≠n):
  QB 194 #[J n,v] w (.tuple #[.slice none 0 0,.bool false]):=by
 obtain⟨a,ca,rfl,_⟩:=hr;go_enter func194,ntmps194;go_wp2;go_returns;exact⟨rfl,Gb.refl _⟩
def Yh(HP:aDU o)(hw:Fm w)(hr:iD w v L f)(jm:0<L)(hL:L<=2000000)(h:∀i,i<L->Ul (f i))(n:Int)(hn:(L:Int)=n):
  CT 194 #[J n,v] w λe w'=>∃v',e=Z (.tuple #[v',.bool true])/\Ow w' w.heap.size 71 1 .u64 v' L (λj=>o.int (f j))/\Gb w w':=by
 subst hn;have hf:=xH;obtain⟨b,q0,cap,rfl,_,_,hc⟩:=hr.at jm;have HC:Hid _:=hc;have HW:Hid (∀j,j<L->∀u,u=(f j)%18446744073709551616->∀w',Gb w w'->CT 92 #[J 1,J 0,J 1,Y u] w' λe aT=>∃fl:Int,e=Z (aP (o.int (f j)) fl)/\Gr w' aT):=λj hj u hu w' hg=>(HP (f j) u (h j hj).1 (h j hj).2 hu).out w' (hw.gb hg);have HB:Hid _:=h;have hb:=au (hc 0 om);have hmk:∀w,(Instr.makeSlice 47 (J (L:Int)) (J (L:Int))).run Tryz.prog w=.ok (aC w.heap.size L L) (w.alloc (.cells (madeCells #[Y 0] (L*1)) 71)):=λw=>qR 47 71 (Y 0) 1 8 Tryz.underlying47 aBj de L om w;have HMd:Hid (Ow (w.alloc (.cells (madeCells #[Y 0] L) 71)) w.heap.size 71 1 .u64 (aC w.heap.size L L) L (λ_=>0)):=by have:=Ow.made w 71 1 #[Y 0] .u64 (z1 _) L (by omega);rw[Nat.mul_one]at this;exact this
 clear hr hc h HP hw;go_enter func194,ntmps194;go_wp2;go_loopw [17] (λi wr=>∃j:Nat,j<=L/\i=J j/\Ow wr w.heap.size 71 1 .u64 (aC w.heap.size L L) L (λq=>if q<j then o.int (f q)else 0)/\Gb w wr) (λi _=>L-(intOf i).toNat)
 case atStart=>exact⟨0,Nat.zero_le _,rfl,Ow.congr HMd.out (λq hq=>by rw[if_neg (by omega)]),kg⟩
 case round=>
  obtain⟨j,hj,rfl,iU,dH⟩:=hrel;have HF:Hid _:=iU;by_cases fF:j<L
  .exact aKz
  .obtain rfl:j=L:=om;have D6:¬(j:Int)<(j:Int):=om;clear iU;go_wp2;go_returns;exact⟨_,rfl,Ow.congr HF.out (λq hq=>by rw[if_pos (by omega)]),dH⟩
def aOg(HP:aDU o)(hw:Fm w)(hr:iD w v L f)(jm:0<L)(hL:L<=2000000)(m:Nat)(hm:m<L)(h:∀i,i<m->Ul (f i))(CP:¬Ul (f m))(n:Int)(hn:(L:Int)=n):
  QB 194 #[J n,v] w (.tuple #[.slice none 0 0,.bool false]):=by
 subst hn;have hf:=xH;obtain⟨b,q0,cap,rfl,_,_,hc⟩:=hr.at jm;have HC:Hid _:=hc;have HW:Hid (∀j,j<m->∀u,u=(f j)%18446744073709551616->∀w',Gb w w'->CT 92 #[J 1,J 0,J 1,Y u] w' λe aT=>∃fl:Int,e=Z (aP (o.int (f j)) fl)/\Gr w' aT):=λj hj u hu w' hg=>(HP (f j) u (h j hj).1 (h j hj).2 hu).out w' (hw.gb hg);have HB:Hid _:=h;have HN:Hid _:=CP;have hb:=au (hc 0 om);have hmk:∀w,(Instr.makeSlice 47 (J (L:Int)) (J (L:Int))).run Tryz.prog w=.ok (aC w.heap.size L L) (w.alloc (.cells (madeCells #[Y 0] (L*1)) 71)):=λw=>qR 47 71 (Y 0) 1 8 Tryz.underlying47 aBj de L om w;have HMd:Hid (Ow (w.alloc (.cells (madeCells #[Y 0] L) 71)) w.heap.size 71 1 .u64 (aC w.heap.size L L) L (λ_=>0)):=by have:=Ow.made w 71 1 #[Y 0] .u64 (z1 _) L (by omega);rw[Nat.mul_one]at this;exact this
 clear hr hc h HP hw CP;go_enter func194,ntmps194;go_wp2;go_loopw [17] (λi wr=>∃j:Nat,j<=m/\i=J j/\Ow wr w.heap.size 71 1 .u64 (aC w.heap.size L L) L (λq=>if q<j then o.int (f q)else 0)/\Gb w wr) (λi _=>L-(intOf i).toNat)
 case atStart=>exact⟨0,Nat.zero_le _,rfl,Ow.congr HMd.out (λq hq=>by rw[if_neg (by omega)]),kg⟩
 case round=>
  obtain⟨j,hj,rfl,iU,dH⟩:=hrel;have HF:Hid _:=iU;by_cases fF:j<m
  .exact aKz
  .obtain rfl:j=m:=om;have jc:(j:Int)<(L:Int):=om;have x0:aA wr b (q0+j) (J (f j)):=dH.old (HC j om);have hb:f j< -2047\/¬f j< -2047/\2047<f j:=by
    rcases(om:f j< -2047\/(¬f j< -2047/\2047<f j)\/(-2047<=f j/\f j<=2047))with h|h|h
    .exact .inl h
    .exact .inr h
    .exact absurd h HN.out
   clear iU HF HW HB HN HC HMd;generalize f j=x at*
   rcases hb with x1|⟨x1,x2⟩
   .go_wp2;go_returns;exact⟨rfl,dH⟩
   .go_wp2;go_returns;exact⟨rfl,dH⟩
def KN(K N:Int):Prop:=K=1/\N=2\/K=2/\N=4\/K=3/\N=8\/K=4/\N=16\/K=5/\N=32\/K=6/\N=64
def aJo(K:Int)(vf vg:Value)(w:World)(HL:KW 193 #[J K] (.bool false)):CW 103 K vf vg w:=by
 go_enter func103,ntmps103;go_wp2_with (go_at_call 193;refine kw (HL _) ?_);go_returns;exact⟨_,rfl,Ow.nil _ _ _ _ _ _,Gb.refl w⟩
def aGy(K N:Int)(hkn:KN K N)(vf vg:Value)(w:World)(HL:KW 193 #[J K] (.bool true))(p q:Bool)(hpq:p=false\/p=true/\q=false)
  (HF:Hid (∀w',Gb w w'->CT 194 #[J N,vf] w' λe aT=>∃v,e=Z (.tuple #[v,.bool p])/\Gb w' aT))
  (HG:Hid (∀w',Gb w w'->CT 194 #[J N,vg] w' λe aT=>∃v,e=Z (.tuple #[v,.bool q])/\Gb w' aT)):CW 103 K vf vg w:=by
 rcases hkn with⟨rfl,rfl⟩|⟨rfl,rfl⟩|⟨rfl,rfl⟩|⟨rfl,rfl⟩|⟨rfl,rfl⟩|⟨rfl,rfl⟩<;>rcases hpq with rfl|⟨rfl,rfl⟩
 all_goals
  go_enter func103,ntmps103;go_upto_region 4 with(first|(go_at_call 193;refine kw (HL _) ?_)|(go_at_call 194;refine(HF _ kg).mono ?_;rintro e w1 ⟨u1,rfl,ak⟩))
  go_wp2_with (go_at_call 194;refine(HG _ kg).mono ?_;rintro e w2 ⟨u2,rfl,aB⟩);go_returns;exact⟨_,rfl,Ow.nil _ _ _ _ _ _,kg⟩
