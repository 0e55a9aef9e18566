import Derived.Test.YtmiekgjgpmfekaaGreatDoorK3
import Derived.Test.YtmiekgjgpmfekaaGreatDoorN3
set_option linter.all false
set_option maxRecDepth 1000000
set_option maxHeartbeats 40000000
open Go.Proofs.YtmiekgjgpmfekaaGreatDoor renaming vI → J, vU → Y
open Go.Ending renaming returned → Z
open Go.Proofs.Tryz
namespace Go.Proofs.YtmiekgjgpmfekaaGreatDoor
open Go.RowKit
attribute [local go_sem] aj
variable{w w':World}{o:Ops}{a1 a2 b1 b2 wr wi x0 x1 x2 x3:Int}{v cv:Value}{n base L size b m:Nat}{f g cs:Nat->Int}{e:TypeId}{xs:List Value}{ops:Array Oper}{rest:List Oper}{op:Oper}{a:Act}{Q:Exit->Act->World->Prop}{k:IntKind}
theorem TT(H:o.I)(ha1:Wd a1)(ha2:Wd a2)(hb1:Wd b1)(hb2:Wd b2)(hw:Fm w):
  QR 207 #[aG a1 a2,aG b1 b2] w (aG (o.add a1 b1) (o.add a2 b2)):=by
 have HP:Hid (∀a b,Wd a->Wd b->∀w',Gr w w'->QR 146 #[Y a,Y b] w' (Y (o.add a b))):=fun a b ha hb w' hg=>I_ H ha hb (hw.gr hg);clear H hw;go_enter func207,ntmps207;go_wp2;go_region_held3 (fun w'=>aj w' w.heap.size 0 (Y a1)/\aj w' w.heap.size 1 (Y a2)/\aj w' (w.heap.size+1) 0 (Y b1)/\aj w' (w.heap.size+1) 1 (Y b2))
  (exact kZ)
  (first
   |(go_at_call 146;with_reducible refine ku (HP.out _ _ (by assumption) (by assumption) _ kr) fun w1 ak=>?_;have:=ak.yF w;have:=ak.Iu w;have kK:=ak.JV w))
 all_goals
  go_wp2;exact bI (by simp[results,Tryz.results207,go_sem,kK])
theorem NY(H:o.I)(ha1:Wd a1)(ha2:Wd a2)(hb1:Wd b1)(hb2:Wd b2)(hw:Fm w):
  QR 208 #[aG a1 a2,aG b1 b2] w (aG (o.sub a1 b1) (o.sub a2 b2)):=by
 have HP:Hid (∀a b,Wd a->Wd b->∀w',Gr w w'->QR 66 #[Y a,Y b] w' (Y (o.sub a b))):=fun a b ha hb w' hg=>Tz H ha hb (hw.gr hg);clear H hw;go_enter func208,ntmps208;go_wp2;go_region_held3 (fun w'=>aj w' w.heap.size 0 (Y a1)/\aj w' w.heap.size 1 (Y a2)/\aj w' (w.heap.size+1) 0 (Y b1)/\aj w' (w.heap.size+1) 1 (Y b2))
  (exact kZ)
  (first
   |(go_at_call 66;with_reducible refine ku (HP.out _ _ (by assumption) (by assumption) _ kr) fun w1 ak=>?_;have:=ak.yF w;have:=ak.Iu w;have kK:=ak.JV w))
 all_goals
  go_wp2;exact bI (by simp[results,Tryz.results208,go_sem,kK])
theorem Ig(H:o.I)(ha1:Wd a1)(ha2:Wd a2)(hw:Fm w):
  QR 213 #[aG a1 a2] w (aG (o.mul a1 4602678819172646912) (o.mul a2 4602678819172646912)):=by
 have hh:=pJ;have HP:Hid (∀a b,Wd a->Wd b->∀w',Gr w w'->QR 67 #[Y a,Y b] w' (Y (o.mul a b))):=fun a b ha hb w' hg=>IV H ha hb (hw.gr hg);clear H hw;go_enter func213,ntmps213;go_wp2;go_region_held3 (fun w'=>aj w' w.heap.size 0 (Y a1)/\aj w' w.heap.size 1 (Y a2))
  (exact kZ)
  (first
   |(go_at_call 67;with_reducible refine ku (HP.out _ _ (by assumption) (by assumption) _ kr) fun w1 ak=>?_;have:=ak.yF w;have kK:=ak.Wy w))
 all_goals
  go_wp2;exact bI (by simp[results,Tryz.results213,go_sem,kK])
theorem aFt(ha1:Wd a1)(ha2:Wd a2)(hw:Fm w):
  QR 111 #[aG a1 a2] w (aG (nO a1) (nO a2)):=by
 have HP:Hid (∀a,Wd a->∀w',Gr w w'->QR 170 #[Y a] w' (Y (nO a))):=fun a ha w' hg=>yY ha (hw.gr hg);clear hw;go_enter func111,ntmps111;go_wp2;go_region_held3 (fun w'=>aj w' w.heap.size 0 (Y a1)/\aj w' w.heap.size 1 (Y a2))
  (exact kZ)
  (first
   |(go_at_call 170;with_reducible refine ku (HP.out _ (by assumption) _ kr) fun w1 ak=>?_;have:=ak.yF w;have kK:=ak.Wy w))
 all_goals
  go_wp2;exact bI (by simp[results,Tryz.results111,go_sem,kK])
theorem aCh(ha1:Wd a1)(ha2:Wd a2)(hw:Fm w):
  QR 214 #[aG a1 a2] w (aG a1 (nO a2)):=by
 have HP:Hid (∀a,Wd a->∀w',Gr w w'->QR 170 #[Y a] w' (Y (nO a))):=fun a ha w' hg=>yY ha (hw.gr hg);clear hw;go_enter func214,ntmps214;go_wp2;go_region_held3 (fun w'=>aj w' w.heap.size 0 (Y a1)/\aj w' w.heap.size 1 (Y a2))
  (exact kZ)
  (first
   |(go_at_call 170;with_reducible refine ku (HP.out _ (by assumption) _ kr) fun w1 ak=>?_;have:=ak.yF w;have kK:=ak.Wy w))
 all_goals
  go_wp2;exact bI (by simp[results,Tryz.results214,go_sem,kK])
theorem aCc(H:o.I)(HI:o.In)(ha1:Wd a1)(ha2:Wd a2)(hw:Fm w):
  QR 110 #[aG a1 a2] w (aG (o.kJ (a1,a2)) (o.div a2 (o.add (o.kJ (a1,a2)) (o.kJ (a1,a2))))):=by
 have hr:=HI.kJ (show mY (a1,a2) from ⟨ha1,ha2⟩);have HA:Hid (∀w',Gr w w'->QR 146 #[Y 4607182418800017408,Y a1] w' (Y (o.add zh a1))):=fun w' hg=>I_ H xY ha1 (hw.gr hg);have HM:Hid (∀w',Gr w w'->QR 67 #[Y (o.add zh a1),Y 4602678819172646912] w' (Y (o.mul (o.add zh a1) jo))):=fun w' hg=>IV H (HI.add xY ha1) pJ (hw.gr hg);have HQ:Hid (∀w',Gr w w'->QR 168 #[Y (o.mul (o.add zh a1) jo)] w' (Y (o.kJ (a1,a2)))):=fun w' hg=>Yp H (HI.mul (HI.add xY ha1) pJ) (hw.gr hg);generalize o.kJ (a1,a2)=r at*
 generalize o.mul (o.add zh a1) jo=m at*
 generalize o.add zh a1=s at*
 have HB:Hid (∀w',Gr w w'->QR 146 #[Y r,Y r] w' (Y (o.add r r))):=fun w' hg=>I_ H hr hr (hw.gr hg);have HD:Hid (∀w',Gr w w'->QR 169 #[Y a2,Y (o.add r r)] w' (Y (o.div a2 (o.add r r)))):=fun w' hg=>Ut H ha2 (HI.add hr hr) (hw.gr hg);clear H HI hw hr;go_enter func110,ntmps110;go_wp2_with (first
  |(go_at_call 146;with_reducible refine ku (HA.out _ kr) fun w1 ak=>?_;have:=ak.yF w;have kK:=ak.Wy w)
  |(go_at_call 67;with_reducible refine ku (HM.out _ kr) fun w1 ak=>?_;have:=ak.yF w;have kK:=ak.Wy w)
  |(go_at_call 168;with_reducible refine ku (HQ.out _ kr) fun w1 ak=>?_;have:=ak.yF w;have kK:=ak.Wy w))
 go_region_held3 (fun w'=>aj w' w.heap.size 0 (Y a1)/\aj w' w.heap.size 1 (Y a2))
  (exact kZ)
  (first
   |(go_at_call 146;with_reducible refine ku (HB.out _ kr) fun w1 ak=>?_;have:=ak.yF w;have kK:=ak.Wy w)
   |(go_at_call 169;with_reducible refine ku (HD.out _ kr) fun w1 ak=>?_;have:=ak.yF w;have kK:=ak.Wy w))
 all_goals
  go_wp2;exact bI (by simp[results,Tryz.results110,go_sem,kK])
theorem Wj(H:o.I)(HI:o.In)(hwr:Wd wr)(hwi:Wd wi)(ha1:Wd a1)(ha2:Wd a2)(hb1:Wd b1)(hb2:Wd b2)(hw:Fm w)(t:Int × Int)(ht:o.cMul (wr,wi) (b1,b2)=t):
  QR 172 #[aG wr wi,aG a1 a2,aG b1 b2] w (.tuple #[aG (o.add a1 t.1) (o.add a2 t.2),aG (o.sub a1 t.1) (o.sub a2 t.2)]):=by
 have hT:=HI.cMul (show mY (wr,wi) from ⟨hwr,hwi⟩) (show mY (b1,b2) from ⟨hb1,hb2⟩);have HT:Hid (∀w',Gr w w'->QR 79 #[aG wr wi,aG b1 b2] w' (aG t.1 t.2)):=fun w' hg=>by rw[<-ht];exact Fq H HI hwr hwi hb1 hb2 (hw.gr hg)
 rw[ht]at hT;obtain⟨t1,t2⟩:=t;have HA:Hid (∀w',Gr w w'->QR 207 #[aG a1 a2,aG t1 t2] w' (aG (o.add a1 t1) (o.add a2 t2))):=fun w' hg=>TT H ha1 ha2 hT.1 hT.2 (hw.gr hg);have HS:Hid (∀w',Gr w w'->QR 208 #[aG a1 a2,aG t1 t2] w' (aG (o.sub a1 t1) (o.sub a2 t2))):=fun w' hg=>NY H ha1 ha2 hT.1 hT.2 (hw.gr hg);dsimp only at HT;clear H HI hw hT ht;show Calls _ _ _ _ (fun e w'=>e=Z (.tuple #[aG (o.add a1 t1) (o.add a2 t2),aG (o.sub a1 t1) (o.sub a2 t2)])/\Gr w w');generalize o.add a1 t1=x1 at*
 generalize o.add a2 t2=x2 at*
 generalize o.sub a1 t1=y1 at*
 generalize o.sub a2 t2=y2 at*
 go_enter func172,ntmps172;go_wp2_with (first
  |(go_at_call 79;with_reducible refine ku (HT.out _ kr) fun wt Nv=>?_;have:=Nv.yF w;have:=Nv.Iu w;have:=Nv.C22 w;have kK:=Nv.Y23 w;have YI:=Nv.Y2 (w.heap.size+1+1+1+1);have hz:=au YI.1))
 go_region_held3 (fun w'=>aj w' (w.heap.size+1) 0 (Y a1)/\aj w' (w.heap.size+1) 1 (Y a2)/\aj w' wt.heap.size 0 (Y t1)/\aj w' wt.heap.size 1 (Y t2))
  (exact kZ)
  (first
   |(go_at_call 207;with_reducible refine ku (HA.out _ kr) fun w1 ak=>?_;have:=ak.Iu w;have:=ak.C22 w;have kK:=ak.Y23 w;have YI:=ak.Y2 (w.heap.size+1+1+1+1);have:=ak.yF wt)
   |(go_at_call 208;with_reducible refine ku (HS.out _ kr) fun w1 ak=>?_;have:=ak.Iu w;have:=ak.C22 w;have kK:=ak.Y23 w;have YI:=ak.Y2 (w.heap.size+1+1+1+1);have:=ak.yF wt))
 all_goals
  go_wp2;exact bI (by simp[results,Tryz.results172,go_sem,kK,YI])
theorem Wn(H:o.I)(HI:o.In)(hwr:Wd wr)(hwi:Wd wi)(ha1:Wd a1)(ha2:Wd a2)(hb1:Wd b1)(hb2:Wd b2)(hw:Fm w)(x y:Int × Int)(hx:o.lC (o.cAdd (a1,a2) (b1,b2))=x)(hy:o.lC (o.cMul (o.cSub (a1,a2) (b1,b2)) (xI (wr,wi)))=y):
  QR 184 #[aG wr wi,aG a1 a2,aG b1 b2] w (.tuple #[aG x.1 x.2,aG y.1 y.2]):=by
 obtain⟨p,hp⟩:∃p,o.cAdd (a1,a2) (b1,b2)=p:=⟨_,rfl⟩;obtain⟨q,hq⟩:∃q,o.cSub (a1,a2) (b1,b2)=q:=⟨_,rfl⟩;obtain⟨r,hr⟩:∃r,o.cMul q (xI (wr,wi))=r:=⟨_,rfl⟩;have wp:=HI.cAdd (show mY (a1,a2) from ⟨ha1,ha2⟩) (show mY (b1,b2) from ⟨hb1,hb2⟩);have wq:=HI.cSub (show mY (a1,a2) from ⟨ha1,ha2⟩) (show mY (b1,b2) from ⟨hb1,hb2⟩);rw[hp]at wp hx;rw[hq]at wq hy;have wr':=HI.cMul wq (N7 (show mY (wr,wi) from ⟨hwr,hwi⟩));rw[hr]at wr' hy;have HA:Hid (∀w',Gr w w'->QR 207 #[aG a1 a2,aG b1 b2] w' (aG p.1 p.2)):=fun w' hg=>by rw[<-hp];exact TT H ha1 ha2 hb1 hb2 (hw.gr hg)
 have HS:Hid (∀w',Gr w w'->QR 208 #[aG a1 a2,aG b1 b2] w' (aG q.1 q.2)):=fun w' hg=>by rw[<-hq];exact NY H ha1 ha2 hb1 hb2 (hw.gr hg)
 have HC:Hid (∀w',Gr w w'->QR 214 #[aG wr wi] w' (aG wr (nO wi))):=fun w' hg=>aCh hwr hwi (hw.gr hg);have HT:Hid (∀w',Gr w w'->QR 79 #[aG q.1 q.2,aG wr (nO wi)] w' (aG r.1 r.2)):=fun w' hg=>by rw[<-hr];exact Fq H HI wq.1 wq.2 hwr (xW hwi) (hw.gr hg)
 have HH:Hid (∀w',Gr w w'->QR 213 #[aG p.1 p.2] w' (aG x.1 x.2)):=fun w' hg=>by rw[<-hx];exact Ig H wp.1 wp.2 (hw.gr hg)
 have HL:Hid (∀w',Gr w w'->QR 213 #[aG r.1 r.2] w' (aG y.1 y.2)):=fun w' hg=>by rw[<-hy];exact Ig H wr'.1 wr'.2 (hw.gr hg)
 clear H HI hw wp wq wr' hp hq hr hx hy hwr hwi ha1 ha2 hb1 hb2;obtain⟨x1,x2⟩:=x;obtain⟨y1,y2⟩:=y;obtain⟨p1,p2⟩:=p;obtain⟨q1,q2⟩:=q;obtain⟨r1,r2⟩:=r;generalize nO wi=wj at*
 dsimp only at*
 go_enter func184,ntmps184;go_wp2;go_region_held3 (fun w'=>aj w' w.heap.size 0 (Y wr)/\aj w' w.heap.size 1 (Y wi)/\aj w' (w.heap.size+1) 0 (Y a1)/\aj w' (w.heap.size+1) 1 (Y a2)/\aj w' (w.heap.size+1+1) 0 (Y b1)/\aj w' (w.heap.size+1+1) 1 (Y b2))
  (exact kZ)
  (first
   |(go_at_call 207;with_reducible refine ku (HA.out _ kr) fun w1 ak=>?_;have:=ak.yF w;have:=ak.Iu w;have:=ak.C22 w;have kK:=ak.Y23 w;have YI:=ak.Y2 (w.heap.size+1+1+1+1))
   |(go_at_call 208;with_reducible refine ku (HS.out _ kr) fun w1 ak=>?_;have:=ak.yF w;have:=ak.Iu w;have:=ak.C22 w;have kK:=ak.Y23 w;have YI:=ak.Y2 (w.heap.size+1+1+1+1))
   |(go_at_call 214;with_reducible refine ku (HC.out _ kr) fun w1 ak=>?_;have:=ak.yF w;have:=ak.Iu w;have:=ak.C22 w;have kK:=ak.Y23 w;have YI:=ak.Y2 (w.heap.size+1+1+1+1))
   |(go_at_call 79;with_reducible refine ku (HT.out _ kr) fun w1 ak=>?_;have:=ak.yF w;have:=ak.Iu w;have:=ak.C22 w;have kK:=ak.Y23 w;have YI:=ak.Y2 (w.heap.size+1+1+1+1))
   |(go_at_call 213;first|(with_reducible refine ku (HH.out _ kr) fun w1 ak=>?_;have:=ak.yF w;have:=ak.Iu w;have:=ak.C22 w;have kK:=ak.Y23 w;have YI:=ak.Y2 (w.heap.size+1+1+1+1))|(with_reducible refine ku (HL.out _ kr) fun w1 ak=>?_;have:=ak.yF w;have:=ak.Iu w;have:=ak.C22 w;have kK:=ak.Y23 w;have YI:=ak.Y2 (w.heap.size+1+1+1+1))))
 all_goals
  go_wp2;exact bI (by simp[results,Tryz.results184,go_sem,kK,YI])
theorem Zm:(Tryz.prog.info? 59).map (fun i=>(i.zero,i.size,i.bytes))=some (some (aG 0 0),2,16):=by kernel_rfl
theorem aGw:(Tryz.prog.info? 22).map (fun i=>(i.zero,i.size,i.bytes))=some (some (.slice none 0 0),1,24):=by kernel_rfl
def Gz(o:Ops)(w:World)(base:Nat)(v:Value)(n:Nat):Prop:=
 ∃xs:List Value,w.ownsRow base 22 1 v n xs/\∀i,1<=i->i<n->∃u,xs[i]?=some u/\Ow w base 59 2 .u64 u (2^(i-1)) (flat (o.rt i))
theorem aEz(h:w.ownsRow base e size v n xs)(hg:Gb w w'):w'.ownsRow base e size v n xs:=by
 refine⟨h.1,?_⟩;rcases h.2 with hn|⟨b,cap,cur,rfl,hb,hh,rest⟩
 ·exact .inl hn
 ·refine .inr ⟨b,cap,cur,rfl,hb,?_,rest⟩;rw[Below.block hg b (Array.getElem?_eq_some_iff.1 hh).1];exact hh
theorem Gz.gb(h:Gz o w base v n)(hg:Gb w w'):Gz o w' base v n:=by
 obtain⟨xs,h1,h2⟩:=h;refine⟨xs,aEz h1 hg,fun i hi hn=>?_⟩;obtain⟨u,hu,ho⟩:=h2 i hi hn;exact⟨u,hu,ho.gb hg⟩
theorem KA(hgd:op.guard=none)(s x:Operand)
  (ho:op.op=.call {callee:=.builtin .append,args:=#[s,x],argTypes:=#[71,71]})
  (base n:Nat) (v u:Value) (b:Nat) (hs:a.eval s=v) (hown:Gz o w base v n) (hx:a.eval x=aB b 1 1) (hu:aj w b 0 u)
  (hru:Ow w base 59 2 .u64 u (2^(n-1)) (flat (o.rt n))) (hn:n<=100) (hbase:base<=w.heap.size)
  (h:∀v' w',Gz o w' base v' (n+1)->Below base w w'->wpList Tryz.prog ops Q rest (a.put op.dst v') w'):wpList Tryz.prog ops Q (op::rest) a w:=by
 obtain⟨i0,hi,hz0,hz1,hz2⟩:=info_parts aGw;obtain⟨xs,h1,h2⟩:=hown;have hu1:u.oneCell'=true:=by
  obtain⟨_,_,rfl,_⟩:=hru.len;rfl
 have hlen:xs.length=n:=by have:=h1.1;omega
 refine wpList_append_own _ hgd s x 71 ho base 22 i0 (.slice none 0 0) 1 24 Tryz.underlying71 hi hz0 hz1 hz2 rfl de v n xs hs h1 ⟨b,0,none⟩ 1 1 [u] hx rfl ?_ ?_ (by unfold maxLen;omega) om hbase ?_
 ·intro j y hj
  match j,hj with
  |0,hj=>simp at hj;subst hj;simpa[Addr.add]using hu
 ·intro y hy;simp at hy;subst hy;exact hu1
 ·intro v' w' hown' hgrow _;have keep:∀(y:Value) (m:Nat) (g:Nat->Int),Ow w base 59 2 .u64 y m g->Ow w' base 59 2 .u64 y m g:=by
   intro y m g hy;refine World.ownsRow.kept hy hgrow ?_;rcases hy.2 with⟨rfl,_⟩|⟨g',cap',cur',rfl,_,hh',_⟩
   ·exact .inl rfl
   ·refine .inr fun e=>?_;rcases h1.2 with⟨rfl,_⟩|⟨g,cap,cur,rfl,_,hh,_⟩
    ·simp[Value.ownBlock]at e
    ·simp only[Value.ownBlock,Option.some.injEq]at e;subst e;rw[hh]at hh';simp at hh'
  refine h v' w' ⟨xs++[u],hown',fun i hi hin=>?_⟩ ?_
  ·rcases Nat.lt_or_ge i n with c|c
   ·obtain⟨y,hy,hoy⟩:=h2 i hi c;exact⟨y,by rw[List.getElem?_append_left (by omega)];exact hy,keep _ _ _ hoy⟩
   ·obtain rfl:i=n:=om;exact⟨u,by rw[<-hlen];simp,keep _ _ _ hru⟩
  ·refine(Below.refl base w).grown hgrow hbase ?_;intro q hq;exact(World.ownsRow.lt h1 q hq).1
def lenV:Value->Nat
 | .slice _ n _=>n
 |_=>0
theorem cells4(h0:aj w b 0 (.int k x0))(h1:aj w b 1 (.int k x1))(h2:aj w b 2 (.int k x2))(h3:aj w b 3 (.int k x3))
  (e0:g (m+0)=x0) (e1:g (m+1)=x1) (e2:g (m+2)=x2) (e3:g (m+3)=x3):∀j,j<2*2->aj w b j (.int k (g (m+j))):=by
 intro j hj
 match j,hj with
 |0,_=>rw[e0];exact h0
 |1,_=>rw[e1];exact h1
 |2,_=>rw[e2];exact h2
 |3,_=>rw[e3];exact h3
theorem Fv(H:o.I)(HI:o.In)(k:Nat)(hk1:1<=k)(hk6:k<=6)(hw:Fm w):
  CT 48 #[J k] w fun e w'=>∃v,e=Z v/\Gz o w' w.heap.size v (k+1)/\Gb w w':=by
 have HR:Hid (∀a1 a2,Wd a1->Wd a2->∀w',Gb w w'->QR 110 #[aG a1 a2] w' (aG ((o.root (a1,a2)).1) ((o.root (a1,a2)).2))):=fun a1 a2 h1 h2 w' hg=>aCc H HI h1 h2 (hw.gb hg);have HN:Hid (∀a1 a2,Wd a1->Wd a2->∀w',Gb w w'->QR 111 #[aG a1 a2] w' (aG (nO a1) (nO a2))):=fun a1 a2 h1 h2 w' hg=>aFt h1 h2 (hw.gb hg);have HW:Hid _:=HI;clear H HI hw;go_enter func48,ntmps48;go_wp2;go_loopw [3] (fun v wr=>∃n g Rh,2<=n/\n<=k+1/\v=aB g n Rh/\Gz o wr w.heap.size (aB g n Rh) n/\Gb w wr) (fun v _=>k+1-lenV v)
 case atStart=>
  refine⟨2,w.heap.size+1,2,Nat.le_refl _,om,rfl,⟨[.slice none 0 0,aB w.heap.size 1 1],?_,?_⟩,kg⟩
  ·have:=World.ownsRow_lit (base:=w.heap.size) (e:=22) (size:=1) (w.alloc (.cells #[Y 0,Y 4607182418800017408] 59)) #[.slice none 0 0,aB w.heap.size 1 1] 2 (by simp[go_sem]) de rfl
   simpa[go_sem]using this
  ·intro i hi1 hi2;obtain rfl:i=1:=om;refine⟨_,rfl,Ow.alloc ?_ _⟩;have:=World.ownsRow_lit (base:=w.heap.size) (e:=59) (size:=2) w #[Y 0,Y 4607182418800017408] 1 (Nat.le_refl _) de rfl;exact this
 case round=>
  rename World=>W
  obtain⟨n,g,Rh,hn2,hnk,rfl,hc,hgb⟩:=hrel;obtain⟨n',rfl⟩:∃n',n=n'+2:=⟨n-2,om⟩;have hc0:=hc;obtain⟨xs,hx1,hx2⟩:=hc;obtain⟨u,hu,hou⟩:=hx2 (n'+1) om om;obtain⟨b,cap,rfl,hb0,hb1,hb2,hb3,hbc⟩:=hou.at (Nat.pow_pos de);have hcu:=(World.ownsRow.cellAt hx1 (n'+1) om).trans hu;clear hou hx2 hx1 hu;by_cases hle:n'+2<=k
  ·have hle':((n'+2:Nat):Int)<=(k:Int):=om;have hjj:((n'+2:Nat):Int)-1=((n'+1:Nat):Int):=om;obtain⟨m,hm⟩:∃m,m=2^n':=⟨_,rfl⟩;rw[show n'+1-1=n' by omega,<-hm]at hcu;have hm1:0<m:=by rw[hm];exact Nat.pow_pos de
   have hm2:m<=64:=by
    rw[hm];have:=Nat.pow_le_pow_right (show 0<2 by decide) (show n'<=6 by omega);omega
   rw[show n'+1-1=n' by omega,<-hm]at hbc;have HC0:Hid _:=hc0;have HBC:Hid _:=hbc;have HM:Hid _:=hm;clear hc0 hbc hb2 hm;go_wp2;have hdec:decide ((n':Int)+2<=(k:Int))=true:=by simp;omega
   have hoff:n'+2-1=n'+1:=om;simp only[hdec,hoff];go_loopw [4,22] (fun f i wr=>∃j:Nat,j<=m/\i=J j/\Ow wr W.heap.size 59 2 .u64 f (2*j) (flat (o.rt (n'+2)))/\Gb W wr) (fun _ i _=>m-(intOf i).toNat)
   case atStart=>exact⟨0,Nat.zero_le _,rfl,Ow.nil _ _ _ _ _ _,Gb.refl _⟩
   case round=>
    obtain⟨j,hj,rfl,hof,hgq⟩:=hrel;by_cases hjm:j<m
    ·have uf:(j:Int)<(m:Int):=om;have HO:Hid _:=hof;obtain⟨a1,ha1⟩:∃a1,a1=(o.rt (n'+1) j).1 :=⟨_,rfl⟩;obtain⟨a2,ha2⟩:∃a2,a2=(o.rt (n'+1) j).2 :=⟨_,rfl⟩;have q0:wr.cell? ⟨b,j*2,none⟩=some (Y a1):=by rw[ha1,<-dh,Nat.mul_comm];exact hgq.old (HBC (2*j) om).1
     have q1:wr.cell? ⟨b,j*2+1,none⟩=some (Y a2):=by rw[ha2,<-dn,Nat.mul_comm];exact hgq.old (HBC (2*j+1) om).1
     have wa1:Wd a1:=by rw[ha1];exact(HW.out.rt _ _).1
     have wa2:Wd a2:=by rw[ha2];exact(HW.out.rt _ _).2
     have hs:=HW.out.root (show mY (a1,a2) from ⟨wa1,wa2⟩);have HR1:=HR a1 a2 wa1 wa2;obtain⟨s1,hs1⟩:∃s1,(o.root (a1,a2)).1 =s1:=⟨_,rfl⟩;obtain⟨s2,hs2⟩:∃s2,(o.root (a1,a2)).2 =s2:=⟨_,rfl⟩;unfold mY at hs;rw[hs1,hs2]at hs HR1;obtain⟨ws1,ws2⟩:=hs;have HN1:Hid _:=HN s1 s2 ws1 ws2;have HR2:Hid _:=HR1;have ert:(o.rt (n'+1) j)=(a1,a2):=by rw[ha1,ha2]
     have r0:o.rt (n'+2) (2*j)=(s1,s2):=by
      simp only[Ops.rt];rw[if_pos om,show 2*j/2=j by omega,ert,<-hs1,<-hs2]
     have r1:o.rt (n'+2) (2*j+1)=(nO s1,nO s2):=by
      simp only[Ops.rt];rw[if_neg om,show(2*j+1)/2=j by omega,ert,<-hs1,<-hs2];rfl
     have e0:Hid (flat (o.rt (n'+2)) (2*j*2+0)=s1):=by show _=_;rw[show 2*j*2+0=2*(2*j) by omega,dh,r0]
     have e1:Hid (flat (o.rt (n'+2)) (2*j*2+1)=s2):=by show _=_;rw[show 2*j*2+1=2*(2*j)+1 by omega,dn,r0]
     have e2:Hid (flat (o.rt (n'+2)) (2*j*2+2)=nO s1):=by show _=_;rw[show 2*j*2+2=2*(2*j+1) by omega,dh,r1]
     have e3:Hid (flat (o.rt (n'+2)) (2*j*2+3)=nO s2):=by show _=_;rw[show 2*j*2+3=2*(2*j+1)+1 by omega,dn,r1]
     have hGB:Gb w wr:=hgb.trans hgq;have hzq:=hgq.size;generalize nO s1=t1 at*
     generalize nO s2=t2 at*
     clear hof HR1 ert r0 r1 hs1 hs2 ws1 ws2 wa1 wa2 ha1 ha2;go_wp2_with (first
      |(go_at_call 110;refine ku (HR2 _ kg) fun w2 aA=>?_;have hz2:=aA.size;(try simp only[World.size_alloc,World.size_drew,World.size_setCell]at hz2)))
     go_region_held3 (fun w'=>aj w' w2.heap.size 0 (Y s1)/\aj w' w2.heap.size 1 (Y s2))
      (exact kZ)
      (first
       |(go_at_call 111;refine ku (HN1 _ kg) fun w3 aF=>?_;have hz3:=aF.size;(try simp only[World.size_alloc,World.size_drew,World.size_setCell]at hz3))
       |(refine step_more rfl _ _ 22 rfl 59 (.agg #[Y 0,Y 0]) 2 16 .u64 Tryz.underlying22 Zm rfl de de W.heap.size (2*j) 2 (flat (o.rt (n'+2))) _ w3.heap.size rfl (Ow.gb HO.out kg) rfl (cells4 (by simp[go_sem]) (by simp[go_sem]) (by simp[go_sem]) (by simp[go_sem]) e0.out e1.out e2.out e3.out) om om (by simp[go_sem]at*;omega) ?_;intro v' w4 hown4 hb4 hk4 _;have t40:aj w4 w2.heap.size 0 (Y s1):=hk4 _ _ _ kb (Ow.ne HO.out om);have t41:aj w4 w2.heap.size 1 (Y s2):=hk4 _ _ _ kb (Ow.ne HO.out om)))
     all_goals
      go_wp2;go_roundw
      case rel=>exact⟨j+1,om,by go_num,hown4,Gb.below kg hb4 (Nat.le_refl _)⟩
      case measure=>simp[intOf]<;>omega
    ·obtain rfl:j=m:=om;have uf:¬(j:Int)<(j:Int):=om;obtain⟨ad,fc,rfl,_,_⟩:=hof.len;have hzq:=hgq.size;have hGB:Gb w wr:=hgb.trans hgq;have hzw:=hgb.size;have e2m:2*j=2^(n'+2-1):=by have:=HM.out;rw[show n'+2-1=n'+1 by omega,Nat.pow_succ];omega
     have HO:Hid (Ow wr W.heap.size 59 2 .u64 (.slice ad (2*j) fc) (2^(n'+2-1)) (flat (o.rt (n'+2)))):=by show Ow _ _ _ _ _ _ _ _;rw[<-e2m];exact hof
     clear hof e2m;go_wp2_with (at_builtin;refine KA (o:=o) rfl _ _ rfl w.heap.size (n'+2) _ _ wr.heap.size rfl (Gz.gb HC0.out kg) rfl (by simp[go_sem]) (Ow.alloc (Ow.mono HO.out om) _) om (by simp[go_sem];omega) ?_;intro v' w5 hc5 hb5);obtain⟨g5,cap5,rfl⟩:∃g5 cap5,v'=aB g5 (n'+3) cap5:=by
      obtain⟨_,hx1,_⟩:=hc5;rcases hx1.2 with⟨_,h⟩|⟨g,Rh,_,rfl,_⟩
      ·omega
      ·exact⟨g,Rh,rfl⟩
     refine⟨⟨n'+3,g5,cap5,om,om,rfl,hc5,Gb.below kg hb5 (Nat.le_refl _)⟩,?_⟩;simp only[lenV];omega
  ·have hle':¬((n'+2:Nat):Int)<=(k:Int):=om;obtain rfl:k=n'+1:=om;have HC0:Hid _:=hc0;clear hc0 hbc;go_wp2;go_returns;exact⟨_,rfl,HC0.out,hgb⟩
theorem TD:(Tryz.prog.info? 33).map (fun i=>(i.zero,i.size,i.bytes))=some (some (Y 0),1,8):=by kernel_rfl
def CR(o:Ops)(w:World)(cv:Value)(n:Nat):Prop:=
 ∃g cap,cv=aB g n cap/\∀i,1<=i->i<n->∃b cp,aj w g i (aB b (2^(i-1)) cp)/\∀q,q<2^(i-1)*2->aj w b q (Y (flat (o.rt i) q))
theorem Gz.cr(h:Gz o w base v n)(hn:0<n):CR o w v n:=by
 obtain⟨xs,h1,h2⟩:=h;obtain⟨g,cap,rfl⟩:∃g cap,v=aB g n cap:=by
  rcases h1.2 with⟨_,h⟩|⟨g,Rh,_,rfl,_⟩
  ·omega
  ·exact⟨g,Rh,rfl⟩
 refine⟨g,cap,rfl,fun i hi hin=>?_⟩;obtain⟨u,hu,ho⟩:=h2 i hi hin;obtain⟨b,cp,rfl,_,_,_,_,hc⟩:=ho.at (Nat.pow_pos de);exact⟨b,cp,(World.ownsRow.cellAt h1 i om).trans hu,fun q hq=>(hc q hq).1⟩
theorem CR.gb(h:CR o w cv n)(hg:Gb w w'):CR o w' cv n:=by
 obtain⟨g,cap,rfl,h2⟩:=h;refine⟨g,cap,rfl,fun i hi hin=>?_⟩;obtain⟨b,cp,h3,h4⟩:=h2 i hi hin;exact⟨b,cp,hg.old h3,fun q hq=>hg.old (h4 q hq)⟩
theorem Un(hr:Rd w .u64 v 2 2 cs):
  CT 114 #[v] w fun e w'=>∃v',e=Z v'/\Ow w' w.heap.size 59 2 .u64 v' 1 (flat (o.tr 1 cs))/\Gb w w':=by
 obtain⟨b,cap,rfl,h1,h2,hc⟩:=hr.at om;have c0:aj w b 0 (Y (cs 0)):=hc 0 om;have c1:aj w b 1 (Y (cs 1)):=hc 1 om;have e0:flat (o.tr 1 cs) 0=cs 0:=rfl;have e1:flat (o.tr 1 cs) 1=cs 1:=rfl;generalize flat (o.tr 1 cs)=f at*
 generalize cs 0=x at*
 generalize cs 1=y at*
 clear hr hc;go_enter func114,ntmps114;go_wp2;go_region;all_goals go_wp2
 all_goals go_returns
 all_goals
  refine⟨_,rfl,?_,kg⟩;have:=World.ownsRow_lit (base:=w.heap.size) (e:=59) (size:=2) w.drew #[Y x,Y y] 1 (Nat.le_refl _) de rfl;refine Ow.congr (g:=fun j=>if j=0 then x else y) this (fun j hj=>?_)
  match j,hj with
  |0,_=>exact e0.symm
  |1,_=>exact e1.symm
theorem Zg(k j:Int)(w:World):QW 113 #[J k,J j] w (.func (.func 171) #[] #[]):=by
 go_enter func113,ntmps113;go_wp2;go_returns;exact⟨rfl,rfl⟩
theorem TB(x y:Int)(w:World):QW 171 #[Y x,Y y] w (.tuple #[Y x,Y y]):=by
 go_enter func171,ntmps171;go_wp2;go_returns;exact⟨rfl,rfl⟩
theorem O5(hc:CR o w cv n)(k j:Nat)(hk1:1<=k)(hk:k<n)(hn:n<=7)(hj:2*j<2^(k-1))(x y:Int)(hx:o.rt k (2*j)=(x,y)):
  QW 115 #[cv,J k,J j] w (.func (.func 172) #[aG x y] #[]):=by
 obtain⟨g,cap,rfl,h2⟩:=hc;obtain⟨b,cp,h3,h4⟩:=h2 k hk1 hk;obtain⟨m,hm⟩:∃m,2^(k-1)=m:=⟨_,rfl⟩;rw[hm]at h3 h4 hj;have hmm:m<=64:=by
  rw[<-hm];have:=Nat.pow_le_pow_right (show 0<2 by decide) (show k-1<=6 by omega);omega
 have c0:w.cell? ⟨b,2*j*2,none⟩=some (Y x):=by rw[h4 _ om,Nat.mul_comm,dh,hx]
 have c1:w.cell? ⟨b,2*j*2+1,none⟩=some (Y y):=by rw[h4 _ om,show 2*j*2+1=2*(2*j)+1 by omega,dn,hx]
 have hk':(k:Int)<(n:Int):=om;have hj':2*(j:Int)<(m:Int):=om;clear h2 h4 hm hx;go_enter func115,ntmps115;go_wp2;go_returns;exact⟨rfl,rfl⟩
theorem aCZ{P:Prop}(h:P:=by
 have hlt':(j:Int)<(L:Int):=om;have HWj:Hid _:=HW j hlt;have hbj:=HB j hlt;obtain⟨bb,cap',e,_,_,_,_,hcz⟩:=hof.at om;simp only[Value.slice.injEq,Option.some.injEq,Addr.mk.injEq,and_true,true_and]at e;obtain⟨rfl,rfl⟩:=e;obtain⟨c0,z0⟩:=hcz j om;rw[if_neg (by omega)]at c0;have x0:aj wr b (q0+j) (J (f j)):=hgb.old (HC j om);obtain⟨z,hz⟩:∃z,o.int (f j)=z:=⟨_,rfl⟩;obtain⟨x,hx⟩:∃x,f j=x:=⟨_,rfl⟩;rw[hz,hx]at HWj;rw[hx]at x0 hbj;have hu:IntKind.u64.wrap x=x%18446744073709551616:=IntKind.wrap_u64 x;have HWk:Hid _:=HWj _ rfl;generalize x%18446744073709551616=u at*
 have y0:¬x< -2047:=by have:=hbj.1;omega
 have y1:¬2047<x:=by have:=hbj.2;omega
 have Hz:Hid _:=hz;clear hof hcz hx hz hbj HWj;go_wp2_with (go_at_call 145;refine(HWk _ hgb).mono ?_;rintro e w2 ⟨fl,rfl,aA⟩;have c1:aj w2 w.heap.size j (Y 0):=aA.gb.old c0;have z1:=aA.z z0);go_roundw
 case rel=>
  refine⟨j+1,om,by go_num,?_,kg⟩;refine Ow.congr (Ow.store (Ow.gb HF.out aA.gb) j z) (fun q hq=>?_);by_cases e1:q=j
  ·rw[if_pos e1,if_pos om,e1,Hz.out]
  ·by_cases e2:q<j
   ·rw[if_neg e1,if_pos e2,if_pos (by omega)]
   ·rw[if_neg e1,if_neg e2,if_neg (by omega)]
 case measure=>simp[intOf]<;>omega):P:=h
def RQ(o:Ops):Prop:=∀n u:Int,-2047<=n->n<=2047->u=n%18446744073709551616->Hid (∀w,Fm w->CT 145 #[J 1,J 0,J 1,Y u] w fun e w'=>∃fl:Int,e=Z (aK (o.int n) fl)/\Gr w w')
theorem aEh(hr:lg w v L f)(n:Int)(hn:(L:Int)≠n):
  QB 78 #[J n,v] w (.tuple #[.slice none 0 0,.bool false]):=by
 obtain⟨a,ca,rfl,_⟩:=hr;go_enter func78,ntmps78;go_wp2;go_returns;exact⟨rfl,Gb.refl _⟩
theorem OT(HP:RQ o)(hw:Fm w)(hr:lg w v L f)(hpos:0<L)(hL:L<=2000000)(h:∀i,i<L->zX (f i))(n:Int)(hn:(L:Int)=n):
  CT 78 #[J n,v] w fun e w'=>∃v',e=Z (.tuple #[v',.bool true])/\Ow w' w.heap.size 33 1 .u64 v' L (fun j=>o.int (f j))/\Gb w w':=by
 subst hn;have hf:=sK;obtain⟨b,q0,cap,rfl,_,_,hc⟩:=hr.at hpos;have HC:Hid _:=hc;have HW:Hid (∀j,j<L->∀u,u=(f j)%18446744073709551616->∀w',Gb w w'->CT 145 #[J 1,J 0,J 1,Y u] w' fun e w''=>∃fl:Int,e=Z (aK (o.int (f j)) fl)/\Gr w' w''):=fun j hj u hu w' hg=>(HP (f j) u (h j hj).1 (h j hj).2 hu).out w' (hw.gb hg);have HB:Hid _:=h;have hb:=au (hc 0 om);have hmk:∀w,(Instr.makeSlice 27 (J (L:Int)) (J (L:Int))).run Tryz.prog w=.ok (aB w.heap.size L L) (w.alloc (.cells (madeCells #[Y 0] (L*1)) 33)):=fun w=>mO 27 33 (Y 0) 1 8 Tryz.underlying27 TD de L om w;have OB:Hid (Ow (w.alloc (.cells (madeCells #[Y 0] L) 33)) w.heap.size 33 1 .u64 (aB w.heap.size L L) L (fun _=>0)):=by have:=Ow.made w 33 1 #[Y 0] .u64 (z1 _) L (by omega);rw[Nat.mul_one]at this;exact this
 clear hr hc h HP hw;go_enter func78,ntmps78;go_wp2;go_loopw [17] (fun i wr=>∃j:Nat,j<=L/\i=J j/\Ow wr w.heap.size 33 1 .u64 (aB w.heap.size L L) L (fun q=>if q<j then o.int (f q)else 0)/\Gb w wr) (fun i _=>L-(intOf i).toNat)
 case atStart=>exact⟨0,Nat.zero_le _,rfl,Ow.congr OB.out (fun q hq=>by rw[if_neg (by omega)]),kg⟩
 case round=>
  obtain⟨j,hj,rfl,hof,hgb⟩:=hrel;have HF:Hid _:=hof;by_cases hlt:j<L
  ·exact aCZ
  ·obtain rfl:j=L:=om;have uf:¬(j:Int)<(j:Int):=om;clear hof;go_wp2;go_returns;exact⟨_,rfl,Ow.congr HF.out (fun q hq=>by rw[if_pos (by omega)]),hgb⟩
theorem aFW(HP:RQ o)(hw:Fm w)(hr:lg w v L f)(hpos:0<L)(hL:L<=2000000)(m:Nat)(hm:m<L)(h:∀i,i<m->zX (f i))(hbad:¬zX (f m))(n:Int)(hn:(L:Int)=n):
  QB 78 #[J n,v] w (.tuple #[.slice none 0 0,.bool false]):=by
 subst hn;have hf:=sK;obtain⟨b,q0,cap,rfl,_,_,hc⟩:=hr.at hpos;have HC:Hid _:=hc;have HW:Hid (∀j,j<m->∀u,u=(f j)%18446744073709551616->∀w',Gb w w'->CT 145 #[J 1,J 0,J 1,Y u] w' fun e w''=>∃fl:Int,e=Z (aK (o.int (f j)) fl)/\Gr w' w''):=fun j hj u hu w' hg=>(HP (f j) u (h j hj).1 (h j hj).2 hu).out w' (hw.gb hg);have HB:Hid _:=h;have HN:Hid _:=hbad;have hb:=au (hc 0 om);have hmk:∀w,(Instr.makeSlice 27 (J (L:Int)) (J (L:Int))).run Tryz.prog w=.ok (aB w.heap.size L L) (w.alloc (.cells (madeCells #[Y 0] (L*1)) 33)):=fun w=>mO 27 33 (Y 0) 1 8 Tryz.underlying27 TD de L om w;have OB:Hid (Ow (w.alloc (.cells (madeCells #[Y 0] L) 33)) w.heap.size 33 1 .u64 (aB w.heap.size L L) L (fun _=>0)):=by have:=Ow.made w 33 1 #[Y 0] .u64 (z1 _) L (by omega);rw[Nat.mul_one]at this;exact this
 clear hr hc h HP hw hbad;go_enter func78,ntmps78;go_wp2;go_loopw [17] (fun i wr=>∃j:Nat,j<=m/\i=J j/\Ow wr w.heap.size 33 1 .u64 (aB w.heap.size L L) L (fun q=>if q<j then o.int (f q)else 0)/\Gb w wr) (fun i _=>L-(intOf i).toNat)
 case atStart=>exact⟨0,Nat.zero_le _,rfl,Ow.congr OB.out (fun q hq=>by rw[if_neg (by omega)]),kg⟩
 case round=>
  obtain⟨j,hj,rfl,hof,hgb⟩:=hrel;have HF:Hid _:=hof;by_cases hlt:j<m
  ·exact aCZ
  ·obtain rfl:j=m:=om;have hlt':(j:Int)<(L:Int):=om;have x0:aj wr b (q0+j) (J (f j)):=hgb.old (HC j om);have hb:f j< -2047\/¬f j< -2047/\2047<f j:=by
    rcases(show f j< -2047\/(¬f j< -2047/\2047<f j)\/(-2047<=f j/\f j<=2047) by omega)with h|h|h
    ·exact .inl h
    ·exact .inr h
    ·exact absurd h HN.out
   clear hof HF HW HB HN HC OB;generalize f j=x at*
   rcases hb with x1|⟨x1,x2⟩
   ·go_wp2;go_returns;exact⟨rfl,hgb⟩
   ·go_wp2;go_returns;exact⟨rfl,hgb⟩
def KN(K N:Int):Prop:=K=1/\N=2\/K=2/\N=4\/K=3/\N=8\/K=4/\N=16\/K=5/\N=32\/K=6/\N=64
theorem aBR(K:Int)(vf vg:Value)(w:World)(HL:KW 47 #[J K] (.bool false)):oK 31 K vf vg w:=by
 go_enter func31,ntmps31;go_wp2_with (go_at_call 47;refine kw (HL _) ?_);go_returns;exact⟨_,rfl,Ow.nil _ _ _ _ _ _,Gb.refl w⟩
theorem Zi(K N:Int)(hkn:KN K N)(vf vg:Value)(w:World)(HL:KW 47 #[J K] (.bool true))(p q:Bool)(hpq:p=false\/p=true/\q=false)
  (HF:Hid (∀w',Gb w w'->CT 78 #[J N,vf] w' fun e w''=>∃v,e=Z (.tuple #[v,.bool p])/\Gb w' w''))
  (HG:Hid (∀w',Gb w w'->CT 78 #[J N,vg] w' fun e w''=>∃v,e=Z (.tuple #[v,.bool q])/\Gb w' w'')):oK 31 K vf vg w:=by
 rcases hkn with⟨rfl,rfl⟩|⟨rfl,rfl⟩|⟨rfl,rfl⟩|⟨rfl,rfl⟩|⟨rfl,rfl⟩|⟨rfl,rfl⟩<;>rcases hpq with rfl|⟨rfl,rfl⟩
 all_goals
  go_enter func31,ntmps31;go_upto_region 4 with(first
   |(go_at_call 47;refine kw (HL _) ?_)
   |(go_at_call 78;refine(HF _ kg).mono ?_;rintro e w1 ⟨u1,rfl,ak⟩))
  go_wp2_with (go_at_call 78;refine(HG _ kg).mono ?_;rintro e w2 ⟨u2,rfl,aA⟩);go_returns;exact⟨_,rfl,Ow.nil _ _ _ _ _ _,kg⟩
