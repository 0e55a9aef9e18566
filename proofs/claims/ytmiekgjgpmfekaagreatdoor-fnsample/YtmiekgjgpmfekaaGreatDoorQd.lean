import Derived.Test.YtmiekgjgpmfekaaGreatDoorQb
import Derived.Test.YtmiekgjgpmfekaaGreatDoorQc
set_option linter.all false
set_option maxRecDepth 1000000
set_option maxHeartbeats 40000000
open Option renaming none → Z
open Go.Proofs.YtmiekgjgpmfekaaGreatDoor renaming vI → J, vU → Y
open Go.Proofs.Tryz
namespace Go.Proofs.YtmiekgjgpmfekaaGreatDoor
open Go.RowKit
attribute [local go_sem] aj bK
variable{w w' W:World}{t s:ByteArray}{b lb m kb o g:Nat}{u k r h e z x y mu inv scale a:Int}
theorem LQ(hm:Wo mu)(hi:Wo inv)(hs:Wo scale)(s:ByteArray)(hz:s.size<=1048576)(hn:¬(s.size<=20000/\isC mu inv scale=true))(hw:Fm w):
  QR 22 #[Y mu,Y inv,Y scale,.string s] w (tY ⟨1,0,0,0⟩):=by
 have HC:Hid (∀w',Gr w w'->QR 64 #[Y mu,Y inv,Y scale] w' (.bool (isC mu inv scale))):=fun w' hg=>Hr hm hi hs (hw.gr hg);generalize isC mu inv scale=b at*
 clear hm hi hs hw;rcases(show(20000:Int)<s.size\/(¬(20000:Int)<s.size/\b=false) by
  rcases(show(20000:Int)<s.size\/¬(20000:Int)<s.size by omega)with h|h
  ·exact .inl h
  ·refine .inr ⟨h,?_⟩;cases b
   ·rfl
   ·exact absurd ⟨om,rfl⟩ hn)with h|⟨h,rfl⟩
 ·clear hn;go_enter func22,ntmps22;go_wp2;go_returns;exact⟨rfl,kr⟩
 ·clear hn;go_enter func22,ntmps22;go_wp2_with (go_at_call 64;refine ku (HC _ kr) fun w1 ak=>?_;have kK:=ak.FW w);exact bI (by simp[results,Tryz.results22,go_sem,kK])
def Tail(s:ByteArray)(k:Nat)(t:ByteArray):Prop:=t.size+17*k=s.size/\∀i,j_ t i=j_ s (17*k+i)
theorem Tail.next{k:Nat}(h:Tail s k t)(ht:17<=t.size):Tail s (k+1) (t.extract 17 t.size):=by
 refine⟨by rw[ByteArray.size_extract];have:=h.1;omega,fun i=>?_⟩;rw[wI _ _ _ _ (Nat.le_refl _)];split
 ·rw[h.2];congr 1;omega
 ·unfold j_;rw[dif_neg (by have:=h.1;omega)]
theorem Tail.num{k:Nat}(h:Tail s k t)(p n:Nat):num t p n=num s (17*k+p) n:=qP n fun i _=>by rw[h.2];congr 1;omega
def tU(t:ByteArray):Int:=if 17<=t.size then num t 0 8 else 0
def tC(t:ByteArray):Int:=if 17<=t.size then j_ t 8 else 0
def tV(t:ByteArray):Int:=if 17<=t.size then num t 9 8 else 0
def tL(t:ByteArray):ByteArray:=if 17<=t.size then t.extract 17 t.size else t
def Nx(lb:Nat)(t:ByteArray)(w w':World):Prop:=Gr (w.setCell ⟨lb,0,Z⟩ (.string (tL t))) w'\/(tL t=t/\Gr w w')
theorem Y3(t:ByteArray)(lb:Nat)(hs:t.size<=1048576)(hc:aj w lb 0 (.string t))(hz:bK w lb 0):
  CT 136 #[.pointer (some ⟨lb,0,Z⟩)] w fun e w'=>e=.returned (.tuple #[O1 (tU t) (tC t) (tV t),.bool (decide (17<=t.size))])/\Nx lb t w w':=by
 unfold tU tC tV Nx tL;by_cases h:17<=t.size
 ·rw[if_pos h,if_pos h,if_pos h,if_pos h,decide_eq_true h];exact(YZ t lb h hs hc hz).mono fun e w' hh=>⟨hh.1,.inl hh.2⟩
 ·rw[if_neg h,if_neg h,if_neg h,if_neg h,decide_eq_false h];exact(aBD t lb om hc).mono fun e w' hh=>⟨hh.1,.inr ⟨rfl,hh.2⟩⟩
structure Md (w:World) (b kb m lb:Nat) (r h e u k:Int) (t:ByteArray):Prop where
 rs:Rs w b
 k0:aj w kb 0 (Y r)
 k1:aj w kb 1 (Y h)
 k2:aj w kb 2 (Y e)
 m0:aj w m 0 (J 2)
 m1:aj w m 1 (J 0)
 m2:aj w m 2 (J u)
 m3:aj w m 3 (J k)
 z0:bK w m 0
 z1:bK w m 1
 z2:bK w m 2
 z3:bK w m 3
 l0:aj w lb 0 (.string t)
 lz:bK w lb 0
structure On (w:World) (o:Nat) (x y z:Int):Prop where
 o0:aj w o 0 (Y x)
 o1:aj w o 1 (.int .u8 y)
 o2:aj w o 2 (Y z)
 z0:bK w o 0
 z1:bK w o 1
 z2:bK w o 2
theorem Rs.set(h:Rs w b)(hb:g≠b)(o:Nat)(v:Value):Rs (w.setCell ⟨g,o,Z⟩ v) b:=
 ⟨aH hb h.r0,aH hb h.r1,aH hb h.r2,aH hb h.r3,bD h.y0,bD h.y1,bD h.y2,bD h.y3⟩
theorem Md.gr(H:Md w b kb m lb r h e u k t)(g:Gr w w'):Md w' b kb m lb r h e u k t:=
 ⟨H.rs.gb g.gb,g.old H.k0,g.old H.k1,g.old H.k2,g.old H.m0,g.old H.m1,g.old H.m2,g.old H.m3,gZ g H.z0,gZ g H.z1,gZ g H.z2,gZ g H.z3,g.old H.l0,gZ g H.lz⟩
theorem On.gr(H:On w o x y z)(g:Gr w w'):On w' o x y z:=
 ⟨g.old H.o0,g.old H.o1,g.old H.o2,gZ g H.z0,gZ g H.z1,gZ g H.z2⟩
theorem Md.off(H:Md w b kb m lb r h e u k t)(i:Nat)(v:Value)(h1:o≠b)(h2:o≠kb)(h3:o≠m)(h4:o≠lb):Md (w.setCell ⟨o,i,Z⟩ v) b kb m lb r h e u k t:=
 ⟨H.rs.set h1 _ _,aH h2 H.k0,aH h2 H.k1,aH h2 H.k2,aH h3 H.m0,aH h3 H.m1,aH h3 H.m2,aH h3 H.m3,bD H.z0,bD H.z1,bD H.z2,bD H.z3,aH h4 H.l0,bD H.lz⟩
theorem Md.adv(H:Md w b kb m lb r h e u k t)(h1:m≠b)(h2:m≠kb)(h3:m≠lb)(u' k':Int):Md ((w.setCell ⟨m,2,Z⟩ (J u')).setCell ⟨m,3,Z⟩ (J k')) b kb m lb r h e u' k' t:=
 ⟨(H.rs.set h1 _ _).set h1 _ _,aH h2 (aH h2 H.k0),aH h2 (aH h2 H.k1),aH h2 (aH h2 H.k2),aQ de (aQ de H.m0),aQ de (aQ de H.m1),aQ de (bU (iG H.m2)),bU (has_set (iG H.m3)),bD (bD H.z0),bD (bD H.z1),bD (bD H.z2),bD (bD H.z3),aH h3 (aH h3 H.l0),bD (bD H.lz)⟩
theorem Md.left(H:Md w b kb m lb r h e u k t)(h1:lb≠b)(h2:lb≠kb)(h3:lb≠m)(t':ByteArray):Md (w.setCell ⟨lb,0,Z⟩ (.string t')) b kb m lb r h e u k t':=
 ⟨H.rs.set h1 _ _,aH h2 H.k0,aH h2 H.k1,aH h2 H.k2,aH h3 H.m0,aH h3 H.m1,aH h3 H.m2,aH h3 H.m3,bD H.z0,bD H.z1,bD H.z2,bD H.z3,bU (iG H.l0),bD H.lz⟩
theorem Md.nx(H:Md w b kb m lb r h e u k t)(h1:lb≠b)(h2:lb≠kb)(h3:lb≠m)(hn:Nx lb t w w'):Md w' b kb m lb r h e u k (tL t):=by
 rcases hn with g|⟨e1,g⟩
 ·exact(H.left h1 h2 h3 _).gr g
 ·rw[e1];exact H.gr g
theorem On.off(H:On w o x y z)(h:g≠o)(i:Nat)(v:Value):On (w.setCell ⟨g,i,Z⟩ v) o x y z:=
 ⟨aH h H.o0,aH h H.o1,aH h H.o2,bD H.z0,bD H.z1,bD H.z2⟩
theorem On.nx(H:On w o x y z)(h:lb≠o)(hn:Nx lb t w w'):On w' o x y z:=by
 rcases hn with g|⟨_,g⟩
 ·exact(H.off h _ _).gr g
 ·exact H.gr g
theorem On.put(H:On w o x y z)(x' y' z':Int):On (((w.setCell ⟨o,0,Z⟩ (Y x')).setCell ⟨o,1,Z⟩ (.int .u8 y')).setCell ⟨o,2,Z⟩ (Y z')) o x' y' z':=
 ⟨aQ de (aQ de (bU (iG H.o0))),aQ de (bU (has_set (iG H.o1))),bU (has_set (has_set (iG H.o2))),bD (bD (bD H.z0)),bD (bD (bD H.z1)),bD (bD (bD H.z2))⟩
theorem Nx.gr(hn:Nx lb t w w')(g:Gr W w)(h:W.heap.size<=lb):Gr W w':=by
 rcases hn with k|⟨_,k⟩
 ·exact(g.setCell h _).trans k
 ·exact g.trans k
theorem Nx.size(hn:Nx lb t w w'):w.heap.size<=w'.heap.size:=by
 rcases hn with k|⟨_,k⟩
 ·have:=k.size;rw[World.size_setCell]at this;exact this
 ·exact k.size
theorem YU(w:World)(x y z:Int):On (w.alloc (.cells #[Y x,.int .u8 y,Y z] 92)) w.heap.size x y z:=
 ⟨kb,kb,kb,kb,kb,kb⟩
theorem aE6(h:Rs w b)(r n e:Int)(s:ByteArray):Md (((w.alloc (.cells #[Y r,Y n,Y e] 88)).alloc (.cells #[J 2,J 0,J 0,J 0] 35)).alloc (.cells #[.string s] 9)) b w.heap.size (w.heap.size+1) (w.heap.size+1+1) r n e 0 0 s:=by
 obtain⟨r0,r1,r2,r3,y0,y1,y2,y3⟩:=h;exact⟨⟨kb,kb,kb,kb,kb,kb,kb,kb⟩,kb,kb,kb,kb,kb,kb,kb,kb,kb,kb,kb,kb,kb⟩
structure Mk7 (w:World) (m:Nat) (a z u k:Int):Prop where
 c0:aj w m 0 (J a)
 c1:aj w m 1 (J z)
 c2:aj w m 2 (J u)
 c3:aj w m 3 (J k)
 z1:bK w m 1
theorem Mk7.gr(H:Mk7 w m a z u k)(g:Gr w w'):Mk7 w' m a z u k:=
 ⟨g.old H.c0,g.old H.c1,g.old H.c2,g.old H.c3,gZ g H.z1⟩
theorem Md.mk0(H:Md w b kb m lb r h e u k t):Mk7 (w.setCell ⟨m,0,Z⟩ (J 0)) m 0 0 u k:=
 ⟨bU (iG H.m0),aQ de H.m1,aQ de H.m2,aQ de H.m3,bD H.z1⟩
theorem ZH{x:World}(h:Gr w x)(hb:w.heap.size<=b)(v0 v1 v2 v3:Value):Gr w ((((x.setCell ⟨b,0,Z⟩ v0).setCell ⟨b,1,Z⟩ v1).setCell ⟨b,2,Z⟩ v2).setCell ⟨b,3,Z⟩ v3):=
 (((h.setCell hb _).setCell hb _).setCell hb _).setCell hb _
theorem I5{o:O7}(H:o.I)(HI:o.In)(hm:Wo mu)(hi:Wo inv)(hs:Wo scale)(s:ByteArray)(hz:s.size<=20000)(hn:isC mu inv scale=true)(hw:Fm w)(hT:Tl w)(hD:Dc w):
  CT 22 #[Y mu,Y inv,Y scale,.string s] w fun e w'=>∃r,Tried (o.oH mu inv scale s) (o.OH mu s) s.size r/\e=.returned (tY r)/\Gr w w':=by
 have hf:∀(z fl:Int) (w:World),(Instr.field 56 (aK z fl) 0).run Tryz.prog w=.ok (Y z) w:=fun z fl w=>by kernel_rfl
 have HC:Hid (∀w',Gr w w'->QR 64 #[Y mu,Y inv,Y scale] w' (.bool true)):=fun w' hg=>by have:=Hr hm hi hs (hw.gr hg);rw[hn]at this;exact this
 have hrm:=HI.iT hm;have hab:=HI.sub hm hrm;have hii:=HI.mul hi hi;have hnw:=HI.mul hii (Wo.c qo);have hsc:=HI.mul hs (Wo.c c63);have hsh:=HI.fix hsc;have HR:Hid (∀w',Gr w w'->CT 65 #[J 1,J 4,Y mu,.bool false] w' fun e w''=>∃fl:Int,e=.returned (aK (o.iT mu) fl)/\Gr w' w''):=fun w' hg=>H.iT.out mu hm w' (hw.gr hg);have HA:Hid (∀w',Gr w w'->QR 66 #[Y mu,Y (o.iT mu)] w' (Y (o.above mu))):=fun w' hg=>H.minus.out _ _ hm hrm w' (hw.gr hg);have OD:Hid (∀w',Gr w w'->QR 67 #[Y inv,Y inv] w' (Y (o.mul inv inv))):=fun w' hg=>H.times.out _ _ hi hi w' (hw.gr hg);have OC:Hid (∀w',Gr w w'->QR 67 #[Y (o.mul inv inv),Y 4602678819172646912] w' (Y (o.narrow inv))):=fun w' hg=>H.times.out _ _ hii (Wo.c _) w' (hw.gr hg);have HM3:Hid (∀w',Gr w w'->QR 67 #[Y scale,Y 4890909195324358656] w' (Y (o.mul scale c63))):=fun w' hg=>H.times.out _ _ hs (Wo.c _) w' (hw.gr hg);have HF:Hid (∀w',Gr w w'->QR 68 #[Y (o.mul scale c63)] w' (Y (o.shr scale))):=fun w' hg=>H.fix.out _ hsc w' (hw.gr hg);have HT:Hid (∀w',Gr w w'->CT 37 #[J 1,J 2,J 1,Y (o.iT mu)] w' fun e w''=>∃fl:Int,e=.returned (aK (o.whole (o.iT mu)) fl)/\Gr w' w''):=fun w' hg=>H.whole.out _ hm (of_decide_eq_true (Ht hn).1) w' (hw.gr hg);have HX:Hid (∀k,∀w',Gr w w'->QR 70 #[aHc (o.above mu) (o.narrow inv) (o.shr scale),O1 (num s (17*k) 8) (j_ s (17*k+8)) (num s (17*k+9) 8)] w' (.tuple #[J (OG (iO (num s (17*k) 8)) (j_ s (17*k+8))),.bool (o.oH mu inv scale s k)])):=fun k w' hg=>
  Wx H HI hab hnw hsh (GY s _) (yw s _).1 (yw s _).2 (GY s _) (hw.gr hg) (hT.below hg.below) (hD.below hg.below)
 have HZ:Hid (∀k,o.OH mu s k=wrap64 (OG (iO (num s (17*k) 8)) (j_ s (17*k+8))+wrap64 (o.whole (o.iT mu)))):=fun k=>rfl;have hsz:¬(20000:Int)<s.size:=om;generalize o.whole (o.iT mu)=T at*
 generalize o.oH mu inv scale s=acc at*
 generalize o.OH mu s=zz at*
 generalize o.shr scale=sh at*
 generalize o.mul scale c63=sc at*
 generalize o.narrow inv=nw at*
 generalize o.above mu=ab at*
 generalize o.mul inv inv=ii at*
 generalize o.iT mu=rm at*
 clear H HI hn hm hi hs hw hT hD hrm hab hii hnw hsc hsh;go_enter func22,ntmps22;go_upto_region 3 with(go_at_call 64;refine ku (HC _ kr) fun w1 ak=>?_);go_upto_region 4 with(go_at_call 65;refine(HR _ kr).mono ?_;rintro e w2 ⟨f2,rfl,aA⟩);go_upto_region 5 with(first
  |(go_at_call 66;refine ku (HA _ kr) fun w3 aF=>?_)
  |(go_at_call 67;first|(with_reducible refine ku (OD.out _ kr) fun w4 aI=>?_)|(with_reducible refine ku (OC.out _ kr) fun w5 aT=>?_)|(with_reducible refine ku (HM3.out _ kr) fun w6 b_=>?_))
  |(go_at_call 68;refine ku (HF _ kr) fun w7 fQ=>?_))
 have G7:Hid (Gr (w.alloc (.cells #[J 0,J 0,J 0,J 0] 35)) w7):=(show Gr _ w7 from kr);clear ak aA aF aI aT b_ fQ HC HR HA OD OC HM3 HF;go_upto_region 7 with(go_at_call 69;refine(Ur _ _).mono ?_;rintro e w8 ⟨rfl,hw8⟩);have hM8:=aE6 ((Yi w).gb G7.out.gb) ab nw sh s;have G8:Hid (Gr w w8):=(show Gr w w8 from by subst hw8;have:=G7.out;exact kr);have hb7:w.heap.size<w7.heap.size:=by have:=G7.out.size;simp only[World.size_alloc]at this;omega
 have hs8:w8.heap.size=w7.heap.size+1+1+1:=by subst hw8;simp only[World.size_alloc]
 rw[<-hw8]at hM8⊢
 have HM8:Hid _:=hM8;have HN8:Hid (CT 136 #[.pointer (some ⟨w7.heap.size+1+1,0,Z⟩)] w8 fun e w'=>e=.returned (.tuple #[O1 (tU s) (tC s) (tV s),.bool (decide (17<=s.size))])/\Nx (w7.heap.size+1+1) s w8 w'):=Y3 s _ om hM8.l0 hM8.lz;clear hM8 hw8 G7;obtain⟨b,hb⟩:∃b,w.heap.size=b:=⟨_,rfl⟩;obtain⟨kb,hkb⟩:∃b,w7.heap.size=b:=⟨_,rfl⟩;obtain⟨m,hm⟩:∃b,kb+1=b:=⟨_,rfl⟩;obtain⟨lb,hlb⟩:∃b,m+1=b:=⟨_,rfl⟩;rw[hkb]at HN8 HM8 hb7 hs8⊢
 rw[hb]at HM8 hb7⊢
 rw[hm]at HN8 HM8 hs8⊢
 rw[hlb]at HN8 HM8 hs8⊢
 go_wp2_with (go_at_call 136;refine HN8.out.mono ?_;rintro e w9 ⟨rfl,hnx⟩);have hM9:=HM8.out.nx (show lb≠b by omega) (show lb≠kb by omega) (show lb≠m by omega) hnx;have hG9:Gr w w9:=hnx.gr G8.out om;have hs9:=hnx.size;have WZ:Hid (Md (w9.alloc (.cells #[Y (tU s),.int .u8 (tC s),Y (tV s)] 92)) b kb m lb ab nw sh 0 0 (tL s)):=hM9.gr kr;have HO0:Hid _:=YU w9 (tU s) (tC s) (tV s);have HG0:Hid (Gr w (w9.alloc (.cells #[Y (tU s),.int .u8 (tC s),Y (tV s)] 92))):=(show Gr w _ from kr);clear hM9 hG9 HM8 HN8 hnx G8;go_loopw [13,14] (fun s13 s14 wr=>∃(k:Nat) (t:ByteArray) (ob:Nat),Tail s k t/\lb<ob/\s13=.pointer (some ⟨ob,0,Z⟩)/\s14=.bool (decide (17<=t.size))/\(∀j,j<k->acc j=false)/\Md wr b kb m lb ab nw sh (17*(k:Int)) k (tL t)/\On wr ob (tU t) (tC t) (tV t)/\Gr w wr) (fun _ _ wr=>s.size+17-lG wr m)
 case atStart=>exact⟨0,s,w9.heap.size,⟨om,fun i=>by congr 1;omega⟩,om,rfl,rfl,fun j hj=>absurd hj om,WZ.out,HO0.out,HG0.out⟩
 case round=>
  obtain⟨k,t,ob,ht,hob,rfl,rfl,ha,hM,hO,hG⟩:=hrel
  rename_i wr
  have HA:Hid (∀j,j<k->acc j=false):=ha;have HG:Hid (Gr w wr):=hG;obtain⟨u,hu⟩:∃u:Int,17*(k:Int)=u:=⟨_,rfl⟩;rw[hu]at hM;have HMr:Hid (Md wr b kb m lb ab nw sh u k (tL t)):=hM;have HOr:Hid (On wr ob (tU t) (tC t) (tV t)):=hO;have p2:=hM.m2;have HU:Hid (lG wr m=u.toNat):=by show _=_;simp only[lG,p2]
  have hsz:=ht.1;clear ha hG WZ HO0 HG0;by_cases hle:17<=t.size
  ·have hen:decide (17<=t.size)=true:=decide_eq_true hle;rw[hen];have hnext:=ht.next hle;have hL:tL t=t.extract 17 t.size:=if_pos hle;have hU:tU t=num s (17*k) 8:=(if_pos hle).trans (ht.num 0 8);have hC:tC t=j_ s (17*k+8):=(if_pos hle).trans (ht.2 8);have hV:tV t=num s (17*k+9) 8:=(if_pos hle).trans (ht.num 9 8);rw[hU,hC,hV]at HOr;have HXk:=HX k;have HZk:=HZ k;have hzn:=OM _ (j_ s (17*k+8)) (zM (num s (17*k) 8));have hn8:=GY s (17*k);have hb8:=yw s (17*k+8);have hv8:=GY s (17*k+9);generalize OG (iO (num s (17*k) 8)) (j_ s (17*k+8))=zv at*
   generalize num s (17*k) 8=xu at*
   generalize num s (17*k+9) 8=xv at*
   generalize j_ s (17*k+8)=xc at*
   have HXX:Hid _:=HXk;have HZZ:Hid _:=HZk;have HTL:Hid (Tail s (k+1) (tL t)):=by show Tail _ _ _;rw[hL];exact hnext
   have hTs:(tL t).size <=1048576:=by have:=HTL.out.1;omega
   generalize tL t=t' at*
   have p3:=hM.m3;have z2:=hM.z2;have z3:=hM.z3;have u0:0<=u:=om;have u1:u<=20000:=om;have k1:(k:Int)<=20000:=om;clear HXk HZk HX HZ hen hnext hL hU hC hV hM hO;go_upto_region 12 with fail;obtain⟨wa,hwa⟩:∃x,(wr.setCell ⟨m,2,Z⟩ (J (u+17))).setCell ⟨m,3,Z⟩ (J ((k:Int)+1))=x:=⟨_,rfl⟩;have WE:Hid (Md wa b kb m lb ab nw sh (u+17) ((k:Int)+1) t'):=by rw[<-hwa];exact HMr.out.adv om om om _ _
   have HOa:Hid (On wa ob xu xc xv):=by rw[<-hwa];exact(HOr.out.off om _ _).off om _ _
   have HGa:Hid (Gr w wa):=by rw[<-hwa];exact(HG.out.setCell (show w.heap.size<=m by omega) _).setCell (show w.heap.size<=m by omega) _
   rw[hwa];clear hwa p2 p3 z2 z3 HMr HOr HG;have k0:=WE.out.k0;have k1':=WE.out.k1;have k2:=WE.out.k2;have o0:=HOa.out.o0;have o1:=HOa.out.o1;have o2:=HOa.out.o2;go_upto_region 13 with(go_at_call 70;refine ku (HXX _ HGa.out) fun wb oG=>?_);have WC:Hid (Md wb b kb m lb ab nw sh (u+17) ((k:Int)+1) t'):=WE.out.gr oG;have HOb:Hid (On wb ob xu xc xv):=HOa.out.gr oG;have HGb:Hid (Gr w wb):=HGa.out.trans oG;clear WE HOa HGa k0 k1' k2 o0 o1 o2 oG HXX;cases hacc:acc k
   ·have o0:=HOb.out.o0;have o1:=HOb.out.o1;have o2:=HOb.out.o2;have hlo:=au WC.out.l0;have HNx:Hid (∀wc,Gr wb wc->CT 136 #[.pointer (some ⟨lb,0,Z⟩)] wc fun e w'=>e=.returned (.tuple #[O1 (tU t') (tC t') (tV t'),.bool (decide (17<=t'.size))])/\Nx lb t' wc w'):=fun wc hg=>Y3 t' lb hTs (WC.out.gr hg).l0 (WC.out.gr hg).lz;have HMc:Hid (Md (wb.alloc (.cells #[Y xu,.int .u8 xc,Y xv] 92)) b kb m lb ab nw sh (u+17) ((k:Int)+1) t'):=WC.out.gr kr;have HOc:Hid _:=YU wb xu xc xv;have HGc:Hid (Gr w (wb.alloc (.cells #[Y xu,.int .u8 xc,Y xv] 92))):=(show Gr w _ from by have:=HGb.out;exact kr);clear WC HOb HT;go_wp2_with (go_at_call 136;refine(HNx _ kr).mono ?_;rintro e wd ⟨rfl,hnx⟩;have OB:Hid _:=HMc.out.nx (show lb≠b by omega) (show lb≠kb by omega) (show lb≠m by omega) hnx;have HOd:Hid _:=HOc.out.nx (show lb≠wb.heap.size by omega) hnx;have HGd:Hid (Gr w wd):=hnx.gr HGc.out (by omega);have d0:=HOd.out.o0;have d1:=HOd.out.o1;have d2:=HOd.out.o2;have e0:=HOd.out.z0;have e1:=HOd.out.z1;have e2:=HOd.out.z2);go_roundw
    case rel=>
     refine⟨k+1,t',wb.heap.size,HTL.out,hlo,rfl,rfl,fun j hj=>?_,?_,HOd.out.put _ _ _,?_⟩
     ·rcases Nat.lt_or_ge j k with h|h
      ·exact HA j h
      ·obtain rfl:j=k:=om;exact hacc
     ·rw[show 17*((k+1:Nat):Int)=u+17 by omega];exact((OB.out.off 0 _ om om om om).off 1 _ om om om om).off 2 _ om om om om
     ·exact((HGd.out.setCell (show w.heap.size<=wb.heap.size by omega) _).setCell (show w.heap.size<=wb.heap.size by omega) _).setCell (show w.heap.size<=wb.heap.size by omega) _
    case measure=>
     have h1:=HU.out;have p2:=(((OB.out.off 0 (Y (tU t')) (show wb.heap.size≠b by omega) (show wb.heap.size≠kb by omega) (show wb.heap.size≠m by omega) (show wb.heap.size≠lb by omega)).off 1 (.int .u8 (tC t')) (show wb.heap.size≠b by omega) (show wb.heap.size≠kb by omega) (show wb.heap.size≠m by omega) (show wb.heap.size≠lb by omega)).off 2 (Y (tV t')) (show wb.heap.size≠b by omega) (show wb.heap.size≠kb by omega) (show wb.heap.size≠m by omega) (show wb.heap.size≠lb by omega)).m2;show s.size+17-lG _ m<s.size+17-lG wr m;simp only[lG]at h1⊢
     rw[p2,h1];show s.size+17-(u+17).toNat <_;omega
   ·have m0:=WC.out.m0;have y0:=WC.out.z0;go_upto_region 15 with fail;obtain⟨wx,hwx⟩:∃x,wb.setCell ⟨m,0,Z⟩ (J 0)=x:=⟨_,rfl⟩;have HK:Hid (Mk7 wx m 0 0 (u+17) ((k:Int)+1)):=by rw[<-hwx];exact WC.out.mk0
    have HRs:Hid (Rs wx b):=by rw[<-hwx];exact WC.out.rs.set om _ _
    have HGx:Hid (Gr w wx):=by rw[<-hwx];exact HGb.out.setCell (show w.heap.size<=m by omega) _
    rw[hwx];clear hwx m0 y0 WC HOb HGb;go_upto_region 16 with(go_at_call 37;refine(HT _ HGx.out).mono ?_;rintro e wy ⟨f6,rfl,TG⟩;have hK:=HK.out.gr TG;have c0:=hK.c0;have c1:=hK.c1;have c2:=hK.c2;have c3:=hK.c3;have z1:=hK.z1);obtain⟨r0,r1,r2,r3,y0,y1,y2,y3⟩:=HRs.out.gb TG.gb;have HRy:Hid (Rs wy b):=HRs.out.gb TG.gb;have hmb:m≠b:=om;clear hK;go_wp2;have hw:zz k=wrap64 (zv+wrap64 T):=HZZ.out;rw[<-hw];obtain⟨e0,e1,e2,e3⟩:=aB2 (HRy.out.set hmb 1 (J (zz k))) (J 0) (J (zz k)) (J (u+17)) (J ((k:Int)+1));refine bodyPost_ret (v:=tY ⟨0,zz k,u+17,(k:Int)+1⟩) (by simp[results,Tryz.results22,go_sem,e0,e1,e2,e3]) rfl ⟨_,.inl ⟨k,by have:=HTL.out.1;omega,hacc,HA.out,by rw[<-hu]⟩,rfl,?_⟩;exact ZH ((HGx.out.trans TG).setCell (show w.heap.size<=m by omega) _) om _ _ _ _
  ·have hen:decide (17<=t.size)=false:=decide_eq_false hle;rw[hen];obtain⟨⟨r0,r1,r2,r3,y0,y1,y2,y3⟩,_,_,_,m0,m1,m2,m3,_,_,_,_,_,_⟩:=hM;clear HX HZ HT hO HOr;go_wp2;obtain⟨e0,e1,e2,e3⟩:=aB2 HMr.out.rs (J 2) (J 0) (J u) (J k);refine bodyPost_ret (v:=tY ⟨2,0,u,(k:Int)⟩) (by simp[results,Tryz.results22,go_sem,e0,e1,e2,e3]) rfl ⟨_,.inr ⟨k,om,om,HA.out,by rw[<-hu]⟩,rfl,?_⟩;exact ZH HG.out om _ _ _ _
