import Derived.Test.YtnbbfeknbfohhaaGreatDoorB5
import Derived.Deep.DeepCutAuto
import Derived.Test.YtnbbfeknbfohhaaGreatDoorC2
import Derived.Test.YtnbbfeknbfohhaaGreatDoorU1
import Derived.Test.YtnbbfeknbfohhaaGreatDoorB0
set_option linter.unusedVariables false
set_option linter.unusedSimpArgs false
set_option maxRecDepth 1000000
set_option maxHeartbeats 40000000
open Go.Value renaming int → J, agg → X, bool → E
open Go.IntKind renaming i64 → Y, u64 → O
open Go.Ending renaming returned → V
open Go.Proofs.Tryz
namespace Go.Proofs.YtnbbfeknbfohhaaGreatDoor
open Go.RowKit
theorem Ak(p mn mx md:Int)(k:Nat)(sx ex cx xh xl sy ey cy yh yl:Int)(tx ty:Bool)(z:Int)(hz:bits .xor Y sy 1=z)(Q:Int→Int→Int→Int→Int→Bool→Prop)(HT:Hid (∀w,CT 169 #[X #[J Y p,J Y mn,J Y mx,J Y md,.func (.func k) #[] #[]],X #[J Y sx,J Y ex,J Y cx,J O xh,J O xl,E tx,J Y 0],X #[J Y z,J Y ey,J Y cy,J O yh,J O yl,E ty,J Y 0]] w fun e w'=>∃os oe oc oh ol ot,Q os oe oc oh ol ot∧e=V (X #[J Y os,J Y oe,J Y oc,J O oh,J O ol,E ot,J Y 0])∧Gr w w'))(w:World):
  CT 171 #[X #[J Y p,J Y mn,J Y mx,J Y md,.func (.func k) #[] #[]],X #[J Y sx,J Y ex,J Y cx,J O xh,J O xl,E tx,J Y 0],X #[J Y sy,J Y ey,J Y cy,J O yh,J O yl,E ty,J Y 0]] w fun e w'=>∃os oe oc oh ol ot,Q os oe oc oh ol ot∧e=V (X #[J Y os,J Y oe,J Y oc,J O oh,J O ol,E ot,J Y 0])∧Gr w w':=by
 go_enter func171,ntmps171
 go_wp2_with (go_at_call 169;refine(HT.out _).mono ?_;rintro e w1 ⟨os,oe,oc,oh,ol,ot,hq,rfl,aj⟩;obtain⟨bG,bK,cO,bJ,iW,d_,ar3,dZ,lW,gV,mX,iM,mW,iK⟩:=aj.y7 (w.heap.size+1+1+1) 0 1 2 3 4 5 6 (J Y 0) (J Y 0) (J Y 0) (J O 0) (J O 0) (E false) (J Y 0))
 refine bodyPost_ret (v:=X #[J Y os,J Y oe,J Y oc,J O oh,J O ol,E ot,J Y 0]) (by simp[results,Tryz.results171,go_sem,bG,cO,iW,ar3,lW,mX,mW]) rfl ⟨os,oe,oc,oh,ol,ot,hq,rfl,?_⟩
 exact Gr.g
theorem uf(p mn mx md:Int)(k:Nat)(sx ex cx xh xl sy ey cy yh yl:Int)(tx ty:Bool)(m:Int)(hm:max cx cy=m)(h3:m<3)(Q:Int→Int→Int→Int→Int→Bool→Prop)(HO:Hid (∀w,CT 171 #[X #[J Y p,J Y mn,J Y mx,J Y md,.func (.func k) #[] #[]],X #[J Y sx,J Y ex,J Y cx,J O xh,J O xl,E tx,J Y 0],X #[J Y sy,J Y ey,J Y cy,J O yh,J O yl,E ty,J Y 0]] w fun e w'=>∃os oe oc oh ol ot,Q os oe oc oh ol ot∧e=V (X #[J Y os,J Y oe,J Y oc,J O oh,J O ol,E ot,J Y 0])∧Gr w w'))(w:World):
  CT 74 #[X #[J Y p,J Y mn,J Y mx,J Y md,.func (.func k) #[] #[]],.func (.func 171) #[] #[],X #[J Y sx,J Y ex,J Y cx,J O xh,J O xl,E tx,J Y 0],X #[J Y sy,J Y ey,J Y cy,J O yh,J O yl,E ty,J Y 0]] w fun e w'=>∃os oe oc oh ol ot,Q os oe oc oh ol ot∧e=V (X #[J Y os,J Y oe,J Y oc,J O oh,J O ol,E ot,J Y 0])∧Gr w w':=by
 go_enter func74,ntmps74
 go_wp2_with (go_at_call 171;refine(HO.out _).mono ?_;rintro e w1 ⟨os,oe,oc,oh,ol,ot,hq,rfl,aj⟩;obtain⟨bG,bK,cO,bJ,iW,d_,ar3,dZ,lW,gV,mX,iM,mW,iK⟩:=aj.y7 (w.heap.size+1+1+1) 0 1 2 3 4 5 6 (J Y 0) (J Y 0) (J Y 0) (J O 0) (J O 0) (E false) (J Y 0))
 refine bodyPost_ret (v:=X #[J Y os,J Y oe,J Y oc,J O oh,J O ol,E ot,J Y 0]) (by simp[results,Tryz.results74,go_sem,bG,cO,iW,ar3,lW,mX,mW]) rfl ⟨os,oe,oc,oh,ol,ot,hq,rfl,?_⟩
 exact Gr.g
theorem Kw(f mode a b:Int)(R:Int→Int→Prop){w:World}(HC:Hid (∀w',Gr w w'→CT 130 #[J Y f,J Y mode,.func (.func 171) #[] #[],J O a,J O b] w' fun e w''=>∃z fl,R z fl∧e=V (X #[J O z,J Y fl])∧Gr w' w'')):
  CT 83 #[J Y f,J Y mode,J O a,J O b] w fun e w'=>∃z fl,R z fl∧e=V (X #[J O z,J Y fl])∧Gr w w':=by
 go_enter func83,ntmps83
 go_wp2_with (go_at_call 130;refine(HC.out _ Gr.g).mono ?_;rintro e w1 ⟨z,fl,hr,rfl,aj⟩;obtain⟨bG,bK,cO,bJ⟩:=aj.y2 w.heap.size 0 1 (J O 0) (J Y 0))
 refine bodyPost_ret (v:=X #[J O z,J Y fl]) (by simp[results,Tryz.results83,go_sem,bG,cO]) rfl ⟨z,fl,hr,rfl,?_⟩
 exact Gr.g
theorem Aj(p mn mx md:Int)(k:Nat)(x y:bI)(hx:VO x)(hy:VO y)(h2:max x.c y.c<3)(w:World):
  CT 171 #[X #[J Y p,J Y mn,J Y mx,J Y md,.func (.func k) #[] #[]],X #[J Y x.s,J Y x.e,J Y x.c,J O (((x.M/18446744073709551616:Nat):Int)),J O (((x.M%18446744073709551616:Nat):Int)),E false,J Y 0],X #[J Y y.s,J Y y.e,J Y y.c,J O (((y.M/18446744073709551616:Nat):Int)),J O (((y.M%18446744073709551616:Nat):Int)),E false,J Y 0]] w fun e w'=>∃os oe oc oh ol ot,rC (fM md x (jZ y)) os oe oc oh ol ot∧e=V (X #[J Y os,J Y oe,J Y oc,J O oh,J O ol,E ot,J Y 0])∧Gr w w':=
 Ak p mn mx md k _ _ _ _ _ _ _ _ _ _ _ _ (1-y.s) (by rcases hy.nN with e|e<;>rw[e]<;>decide+kernel) _ (fun w=>sum_any p mn mx md k x (jZ y) hx hy.turn h2 w) w
theorem pI(p mn mx md:Int)(k:Nat)(x y:bI)(hx:VO x)(hy:VO y)(w:World):
  CT 74 #[X #[J Y p,J Y mn,J Y mx,J Y md,.func (.func k) #[] #[]],.func (.func 171) #[] #[],X #[J Y x.s,J Y x.e,J Y x.c,J O (((x.M/18446744073709551616:Nat):Int)),J O (((x.M%18446744073709551616:Nat):Int)),E false,J Y 0],X #[J Y y.s,J Y y.e,J Y y.c,J O (((y.M/18446744073709551616:Nat):Int)),J O (((y.M%18446744073709551616:Nat):Int)),E false,J Y 0]] w fun e w'=>∃os oe oc oh ol ot,rC (fM md x (jZ y)) os oe oc oh ol ot∧e=V (X #[J Y os,J Y oe,J Y oc,J O oh,J O ol,E ot,J Y 0])∧Gr w w':=by
 by_cases h:3≤max x.c y.c
 ·refine(jV p mn mx md k _ _ _ _ _ _ _ _ _ _ _ _ 171 _ rfl h w).mono ?_
  rintro r w' ⟨rfl,hg⟩
  have:=hx.c4
  have:=hy.c4
  rw[oz md x (jZ y) h]
  exact⟨_,_,_,_,_,_,F6 _ h (show max x.c y.c≤4 by omega),rfl,hg⟩
 ·exact uf p mn mx md k _ _ _ _ _ _ _ _ _ _ _ _ _ rfl om _ (fun w=>Aj p mn mx md k x y hx hy om w) w
def vV(mode:Int)(x y:bI):bI:=fM mode x (jZ y)
theorem Gu(f mode a b:Int)(a0:0≤a)(a1:a<18446744073709551616)(b0:0≤b)(b1:b<18446744073709551616)(w:World)(hw:Fm w):
  CT 83 #[J Y f,J Y mode,J O a,J O b] w fun e w'=>∃Z fl,qm vV f mode a b Z fl∧e=V (X #[J O Z,J Y fl])∧Gr w w':=by
 refine Kw f mode a b (qm vV f mode a b) (fun w' hg=>?_)
 have hw':=hw.gr hg
 by_cases hf:f=0∨f=1
 ·obtain⟨p,mx,one,inf,sg,nan,hF⟩:=kF f hf
  obtain⟨mn,fb,sp,hM,hmn,hfb⟩:=hF.m
  by_cases hm:0≤mode∧mode≤4
  ·obtain⟨k,hk⟩:=o9 mode hm.1 hm.2
   obtain⟨x,hx,HA⟩:=ny hF hM a a0 a1
   obtain⟨y,hy,HB⟩:=ny hF hM b b0 b1
   obtain⟨v1,v2,v3,v4,v5,v6⟩:=dA hF hx
   obtain⟨u1,u2,u3,u4,u5,u6⟩:=dA hF hy
   refine(Ej p mn mx mode f k 171 a b _ _ _ _ _ _ _ _ _ _ _ _ (fun w'' hg'=>gK hF hM mode k (fun w=>jQ mode k hk w) (hw'.gr hg')) HA HB (rC (vV mode x y)) (fun w=>pI p mn mx mode k x y v1 u1 w) (bV p mn mx one inf sg nan mode (vV mode x y)) (fun os oe oc oh ol ot w hq=>zH hM mode k hk _ os oe oc oh ol ot hq w)).mono ?_
   rintro e w'' ⟨Z,fl,hp,rfl,hg'⟩
   rw[hmn]at hp
   exact⟨_,_,.inl ⟨p,mx,one,inf,sg,nan,x,y,hF,hm,hx,hy,hp⟩,rfl,hg'⟩
  ·refine(lG p mn mx mode nan f mode a b (fun w'' hg'=>jm hF hM mode (fun w=>oC mode om w) (hw'.gr hg')) (fun w=>dI hM w) 171).mono ?_
   rintro e w'' ⟨rfl,hg'⟩
   exact⟨_,_,.inr (.inl ⟨p,mx,one,inf,sg,nan,hF,om,rfl,rfl⟩),rfl,hg'⟩
 ·refine(lG _ _ _ _ _ f mode a b (fun w'' hg'=>je f mode hf (hw'.gr hg')) (fun w=>dI m64 w) 171).mono ?_
  rintro e w'' ⟨rfl,hg'⟩
  exact⟨_,_,.inr (.inr ⟨hf,rfl,rfl⟩),rfl,hg'⟩
theorem yQ{f p mx one inf sg nan:Int}(h:aI f p mx one inf sg nan)(b z:Int)(b0:0≤b)(hb:b<2*sg)(hz:b<sg∧z=b+sg∨sg≤b∧z=b-sg){y:bI}(hy:bZ p mx one inf sg nan b y):0≤z∧z<2*sg∧bZ p mx one inf sg nan z (jZ y):=by
 have hbd:=h.bounds
 rcases hy with⟨_,v,hs,hc⟩|⟨c,_⟩
 ·refine⟨om,om,.inl ⟨om,v,?_,hc⟩⟩
  unfold jZ
  dsimp only
  rcases hs with⟨s0,rfl,s1⟩|⟨s0,rfl,s1⟩
  ·rw[s0];exact .inr ⟨om,om,om⟩
  ·rw[s0];exact .inl ⟨om,om,om⟩
 ·exfalso;omega
theorem y8(f mode a b:Int)(HF:KW 117 #[J Y f,J Y mode,J O a,J O b] (E false))(z fl:Int)(HL:KR 63 #[J Y f] (X #[J O z,J Y fl]))(w:World):
  QB 82 #[J Y f,J Y mode,J O a,J O b] w (X #[J O z,J Y fl]):=by
 go_enter func82,ntmps82
 go_wp2_with (first
  |(go_at_call 117;refine kw (HF.out _) ?_)
  |(go_at_call 63;refine(HL.out _).mono ?_;rintro e w9 ⟨rfl,aP⟩;obtain⟨fP,fU,fO,fQ⟩:=aP.y2 w.heap.size 0 1 (J O 0) (J Y 0)))
 refine bodyPost_ret (v:=X #[J O z,J Y fl]) (by simp[results,Tryz.results82,go_sem,fP,fO]) rfl ⟨rfl,?_⟩
 exact Gb.g
theorem Xn(f mode a b b':Int)(HF:KW 117 #[J Y f,J Y mode,J O a,J O b] (E true))(HT:KW 170 #[J Y f,J O b] (J O b'))(Q:Int→Int→Prop)(HA:Hid (∀w,CT 79 #[J Y f,J Y mode,J O a,J O b'] w fun e w'=>∃z fl,Q z fl∧e=V (X #[J O z,J Y fl])∧Gb w w'))(w:World):
  CT 82 #[J Y f,J Y mode,J O a,J O b] w fun e w'=>∃z fl,Q z fl∧e=V (X #[J O z,J Y fl])∧Gb w w':=by
 go_enter func82,ntmps82
 go_wp2_with (first
  |(go_at_call 117;refine kw (HF.out _) ?_)
  |(go_at_call 170;refine kw (HT.out _) ?_)
  |(go_at_call 79;refine(HA.out _).mono ?_;rintro e w9 ⟨z,fl,hq,rfl,aP⟩;obtain⟨fP,fU,fO,fQ⟩:=aP.y2 w.heap.size 0 1 (J O 0) (J Y 0)))
 refine bodyPost_ret (v:=X #[J O z,J Y fl]) (by simp[results,Tryz.results82,go_sem,fP,fO]) rfl ⟨z,fl,hq,rfl,?_⟩
 exact Gb.g
theorem Jd{f p mx one inf sg nan:Int}(h:aI f p mx one inf sg nan)(mode a b:Int)(hm:0≤mode∧mode≤4)(a0:0≤a)(a1:a<18446744073709551616)(b0:0≤b)(b1:b<18446744073709551616){x y:bI}(hx:bZ p mx one inf sg nan a x)(hy:bZ p mx one inf sg nan b y)(w:World):
  CT 82 #[J Y f,J Y mode,J O a,J O b] w fun e w'=>∃Z fl,bV p (1-mx) mx one inf sg nan mode (vV mode x y) Z fl∧e=V (X #[J O Z,J Y fl])∧Gb w w':=by
 have hbd:=h.bounds
 by_cases hfit:a<2*sg∧b<2*sg
 ·obtain⟨fa,RF⟩:=hfit
  obtain⟨z,hz⟩:∃z,b<sg∧z=b+sg∨sg≤b∧z=b-sg:=by
   by_cases c:b<sg
   ·exact⟨_,.inl ⟨c,rfl⟩⟩
   ·exact⟨_,.inr ⟨om,rfl⟩⟩
  obtain⟨z0,z1,hz2⟩:=yQ h b z b0 RF hz hy
  exact Xn f mode a b z (fun w=>nH h mode a b hm.1 hm.2 a0 fa b0 RF w) (fun w=>u_ h b z b0 RF hz w) _ (fun w=>yY h mode a z hm a0 a1 z0 om hx hz2 w) w
 ·refine(y8 f mode a b (fun w=>dY f mode a b a0 a1 b0 b1 (qK h a1 b1 om) w) nan 1 (fun w=>cZ h w) w).mono ?_
  rintro e w' ⟨rfl,hg⟩
  refine⟨_,_,?_,rfl,hg⟩
  obtain⟨v1,_⟩:=dA h hx
  obtain⟨u1,_⟩:=dA h hy
  have xc4:=v1.c4
  have yc4:=u1.c4
  have:max x.c (jZ y).c =4:=by
   show max x.c y.c=4
   rcases(show 2*sg≤a∨2*sg≤b by omega)with c|c
   ·have:=kD h hx c;subst this;dsimp only at*;omega
   ·have:=kD h hy c;subst this;dsimp only at*;omega
  unfold vV
  rw[oz mode x (jZ y) (by omega)]
  exact lH this
theorem EZ(f mode a b:Int)(a0:0≤a)(a1:a<18446744073709551616)(b0:0≤b)(b1:b<18446744073709551616)(w:World):
  CT 82 #[J Y f,J Y mode,J O a,J O b] w fun e w'=>∃Z fl,qm vV f mode a b Z fl∧e=V (X #[J O Z,J Y fl])∧Gb w w':=by
 by_cases hf:f=0∨f=1
 ·obtain⟨p,mx,one,inf,sg,nan,hF⟩:=kF f hf
  by_cases hm:0≤mode∧mode≤4
  ·obtain⟨x,hx⟩:=jk hF a a0 a1
   obtain⟨y,hy⟩:=jk hF b b0 b1
   refine(Jd hF mode a b hm a0 a1 b0 b1 hx hy w).mono ?_
   rintro e w' ⟨Z,fl,hp,rfl,hg⟩
   exact⟨_,_,.inl ⟨p,mx,one,inf,sg,nan,x,y,hF,hm,hx,hy,hp⟩,rfl,hg⟩
  ·refine(y8 f mode a b (fun w=>dY f mode a b a0 a1 b0 b1 (.inl om) w) nan 1 (fun w=>cZ hF w) w).mono ?_
   rintro e w' ⟨rfl,hg⟩
   exact⟨_,_,.inr (.inl ⟨p,mx,one,inf,sg,nan,hF,om,rfl,rfl⟩),rfl,hg⟩
 ·refine(y8 f mode a b (fun w=>dY f mode a b a0 a1 b0 b1 (.inr (.inl hf)) w) _ 1 (fun w=>oJ f hf w) w).mono ?_
  rintro e w' ⟨rfl,hg⟩
  exact⟨_,_,.inr (.inr ⟨hf,rfl,rfl⟩),rfl,hg⟩
theorem uF(f mode a b:Int)(a0:0≤a)(a1:a<18446744073709551616)(b0:0≤b)(b1:b<18446744073709551616):
  ∃Z fl:Int,qm vV f mode a b Z fl∧(∀w,QB 82 #[J Y f,J Y mode,J O a,J O b] w (X #[J O Z,J Y fl]))∧
   (∀w,Fm w→QR 83 #[J Y f,J Y mode,J O a,J O b] w (X #[J O Z,J Y fl])):=
 En vV 82 83 (fun mode x y hx hy _ _ _ _ _ _=>Tn mode x (jZ y) hx hy.turn) f mode a b a0 a1 b0 b1 (EZ f mode a b a0 a1 b0 b1) (Gu f mode a b a0 a1 b0 b1)
