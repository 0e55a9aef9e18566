import Derived.Test.YtnbbfeknbfohhaaGreatDoorB7
import Derived.Test.YtnbbfeknbfohhaaGreatDoorC0
import Derived.Test.YtnbbfeknbfohhaaGreatDoorH1
import Derived.Deep.RegionHeld3
set_option linter.unusedVariables false
set_option linter.unusedSimpArgs false
set_option maxRecDepth 1000000
set_option maxHeartbeats 40000000
open Go.Value renaming int → J, agg → X, bool → E
open Go.IntKind renaming i64 → Y, u64 → O
open Go.Ending renaming returned → V
open Go.Proofs.Tryz
namespace Go.Proofs.YtnbbfeknbfohhaaGreatDoor
open Go.RowKit
theorem Y9{P:Prop}(h:P:=by
 refine bodyPost_ret (v:=X #[J O z,J Y fl]) (by simp[results,Tryz.results130,go_sem,Iz,RH]) rfl ⟨z,fl,hr,rfl,?_⟩
 exact Gr.g):P:=h
theorem lG(p mn mx md nan f mode a b:Int){w:World}(HF:Hid (∀w',Gr w w'→QR 70 #[J Y f,J Y mode] w' (.tuple #[X #[J Y p,J Y mn,J Y mx,J Y md,Value.nilFunc],E false])))
  (HN:KR 176 #[X #[J Y p,J Y mn,J Y mx]] (X #[J O nan,J Y 1])) (own:Nat):
  QR 130 #[J Y f,J Y mode,.func (.func own) #[] #[],J O a,J O b] w (X #[J O nan,J Y 1]):=by
 go_enter func130,ntmps130
 go_wp2_with (first
  |(go_at_call 70;refine(HF.out _ Gr.g).mono ?_;rintro x w1 ⟨rfl,aj⟩;obtain⟨EF,D5,X8,DZ⟩:=aj.y2 w.heap.size 0 1 (J O 0) (J Y 0))
  |(go_at_call 176;refine(HN.out _).mono ?_;rintro x w2 ⟨rfl,ak⟩;obtain⟨iF,h_,jh,g_⟩:=ak.y2 w.heap.size 0 1 (J O 0) (J Y 0)))
 refine bodyPost_ret (v:=X #[J O nan,J Y 1]) (by simp[results,Tryz.results130,go_sem,iF,jh]) rfl ⟨rfl,?_⟩
 exact Gr.g
theorem Ej(p mn mx md f:Int)(k own:Nat)(a b sx ex cx xh xl sy ey cy yh yl:Int)(tx ty:Bool){w:World}(HF:Hid (∀w',Gr w w'→QR 70 #[J Y f,J Y md] w' (.tuple #[X #[J Y p,J Y mn,J Y mx,J Y md,.func (.func k) #[] #[]],E true])))
  (HA:KR 73 #[X #[J Y p,J Y mn,J Y mx],J O a] (X #[J Y sx,J Y ex,J Y cx,J O xh,J O xl,E tx,J Y 0])) (HB:KR 73 #[X #[J Y p,J Y mn,J Y mx],J O b] (X #[J Y sy,J Y ey,J Y cy,J O yh,J O yl,E ty,J Y 0])) (Q:Int→Int→Int→Int→Int→Bool→Prop) (HC:Hid (∀w,CT 74 #[X #[J Y p,J Y mn,J Y mx,J Y md,.func (.func k) #[] #[]],.func (.func own) #[] #[],X #[J Y sx,J Y ex,J Y cx,J O xh,J O xl,E tx,J Y 0],X #[J Y sy,J Y ey,J Y cy,J O yh,J O yl,E ty,J Y 0]] w fun e w'=>∃os oe oc oh ol ot,Q os oe oc oh ol ot∧e=V (X #[J Y os,J Y oe,J Y oc,J O oh,J O ol,E ot,J Y 0])∧Gr w w'))
  (R:Int→Int→Prop) (HP:Hid (∀os oe oc oh ol ot w,Q os oe oc oh ol ot→CT 177 #[X #[J Y p,J Y mn,J Y mx,J Y md,.func (.func k) #[] #[]],X #[J Y os,J Y oe,J Y oc,J O oh,J O ol,E ot,J Y 0]] w fun e w'=>∃z fl,R z fl∧e=V (X #[J O z,J Y fl])∧Gr w w')):
  CT 130 #[J Y f,J Y md,.func (.func own) #[] #[],J O a,J O b] w fun e w'=>∃z fl,R z fl∧e=V (X #[J O z,J Y fl])∧Gr w w':=by
 go_enter func130,ntmps130
 go_wp2_with (go_at_call 70;refine(HF.out _ Gr.g).mono ?_;rintro x w1 ⟨rfl,aj⟩;obtain⟨EF,D5,X8,DZ⟩:=aj.y2 w.heap.size 0 1 (J O 0) (J Y 0);have hz1:=au EF)
 go_region_held3 (fun w'=>w'.cell? ⟨w1.heap.size,0,none⟩=some (J Y p)∧w'.cell? ⟨w1.heap.size,1,none⟩=some (J Y mn)∧w'.cell? ⟨w1.heap.size,2,none⟩=some (J Y mx)∧w'.cell? ⟨w1.heap.size,3,none⟩=some (J Y md)∧w'.cell? ⟨w1.heap.size,4,none⟩=some (.func (.func k) #[] #[]))
  ((go_split_ands;(repeat' apply And.intro)<;>exact kl))
  (first
   |(go_at_call 73;first|(with_reducible refine(HA.out _).mono ?_;rintro e w2 ⟨rfl,ak⟩;obtain⟨lV,kZ,nX,kY⟩:=ak.y2 w.heap.size 0 1 (J O 0) (J Y 0))|(with_reducible refine(HB.out _).mono ?_;rintro e w2 ⟨rfl,ak⟩;obtain⟨lV,kZ,nX,kY⟩:=ak.y2 w.heap.size 0 1 (J O 0) (J Y 0)))
   |(go_at_call 74;refine(HC.out _).mono ?_;rintro e w3 ⟨os,oe,oc,oh,ol,ot,hq,rfl,aA⟩;obtain⟨vH,wK,vG,wJ⟩:=aA.y2 w.heap.size 0 1 (J O 0) (J Y 0))
   |(go_at_call 177;refine(HP.out _ _ _ _ _ _ _ hq).mono ?_;rintro e w4 ⟨z,fl,hr,rfl,aF⟩;obtain⟨Iz,KL,RH,KJ⟩:=aF.y2 w.heap.size 0 1 (J O 0) (J Y 0)))
 all_goals (try go_split_ands)
 all_goals go_wp2
 all_goals
  exact Y9
def ql(p mn mx one inf sg nan mode:Int)(o:bI)(Z fl:Int):Prop:=bV p mn mx one inf sg nan mode o Z fl∨o.c=5∧Z=sw o.s sg inf∧fl=2
theorem bV.c4{p mn mx one inf sg nan mode:Int}{o:bI}{Z fl:Int}(h:bV p mn mx one inf sg nan mode o Z fl):o.c≤4:=by
 rcases h with⟨h,_⟩|⟨h,_⟩|⟨h,_⟩|⟨h,_⟩|⟨h,_⟩<;>omega
theorem ql.one{p mn mx one inf sg nan mode:Int}{o:bI}{Z fl Z' qA:Int}(h:ql p mn mx one inf sg nan mode o Z fl)(h':ql p mn mx one inf sg nan mode o Z' qA):Z=Z'∧fl=qA:=by
 rcases h with h|⟨c,rfl,rfl⟩<;>rcases h' with h'|⟨c',rfl,rfl⟩
 ·exact bV.one h h'
 ·have:=h.c4;exfalso;omega
 ·have:=h'.c4;exfalso;omega
 ·exact⟨rfl,rfl⟩
def kH(R:Int→Int→bI→bI→bI)(f mode a b Z fl:Int):Prop:=
 (∃p mx one inf sg nan x y,aI f p mx one inf sg nan∧(0≤mode∧mode≤4)∧bZ p mx one inf sg nan a x∧bZ p mx one inf sg nan b y∧ql p (1-mx) mx one inf sg nan mode (R p mode x y) Z fl)∨
 (∃p mx one inf sg nan,aI f p mx one inf sg nan∧(mode<0∨4<mode)∧Z=nan∧fl=1)∨
 (¬(f=0∨f=1)∧Z=9221120237041090560∧fl=1)
theorem kH.one{R:Int→Int→bI→bI→bI}{f mode a b Z fl Z' qA:Int}(h:kH R f mode a b Z fl)(h':kH R f mode a b Z' qA):Z=Z'∧fl=qA:=by
 rcases h with⟨p,mx,one,inf,sg,nan,x,y,hF,hm,hx,hy,hp⟩|⟨p,mx,one,inf,sg,nan,hF,hm,rfl,rfl⟩|⟨hF,rfl,rfl⟩<;>
 rcases h' with⟨p',mx',one',inf',TI,nan',x',y',hF',hm',hx',hy',hp'⟩|⟨p',mx',one',inf',TI,nan',hF',hm',rfl,rfl⟩|⟨hF',rfl,rfl⟩
 ·obtain⟨rfl,rfl,rfl,rfl,rfl,rfl⟩:=hF.one hF'
  obtain rfl:=hx.one hF hx'
  obtain rfl:=hy.one hF hy'
  exact ql.one hp hp'
 ·exfalso;omega
 ·exact absurd hF.yes.symm (by simp[hF'])
 ·exfalso;omega
 ·obtain⟨rfl,rfl,rfl,rfl,rfl,rfl⟩:=hF.one hF'
  exact⟨rfl,rfl⟩
 ·exact absurd hF.yes.symm (by simp[hF'])
 ·exact absurd hF'.yes.symm (by simp[hF])
 ·exact absurd hF'.yes.symm (by simp[hF])
 ·exact⟨rfl,rfl⟩
theorem Ic(R:Int→Int→bI→bI→bI)(S I:Nat)(args:Array Value)(hR:∀p mode x y,VO x→VO y→0≤(R p mode x y).c ∧(R p mode x y).c ≤5)(f mode a b:Int)(a0:0≤a)(a1:a<18446744073709551616)(b0:0≤b)(b1:b<18446744073709551616)
  (hs:∀w,Calls Tryz.prog S args w fun e w'=>∃Z fl,kH R f mode a b Z fl∧e=V (X #[J O Z,J Y fl])∧Gb w w')
  (hi:∀w,Fm w→Calls Tryz.prog I args w fun e w'=>∃Z fl,kH R f mode a b Z fl∧e=V (X #[J O Z,J Y fl])∧Gr w w'):
  ∃Z fl:Int,kH R f mode a b Z fl∧(∀w,Calls Tryz.prog S args w fun e w'=>e=V (X #[J O Z,J Y fl])∧Gb w w')∧
   (∀w,Fm w→Calls Tryz.prog I args w fun e w'=>e=V (X #[J O Z,J Y fl])∧Gr w w'):=by
 have hex:∃Z fl:Int,kH R f mode a b Z fl:=by
  by_cases hf:f=0∨f=1
  ·obtain⟨p,mx,one,inf,sg,nan,hF⟩:=kF f hf
   by_cases hm:0≤mode∧mode≤4
   ·obtain⟨x,hx⟩:=jk hF a a0 a1
    obtain⟨y,hy⟩:=jk hF b b0 b1
    obtain⟨r1,r2⟩:=hR p mode x y (dA hF hx).1 (dA hF hy).1
    by_cases h5:(R p mode x y).c =5
    ·exact⟨_,_,.inl ⟨p,mx,one,inf,sg,nan,x,y,hF,hm,hx,hy,.inr ⟨h5,rfl,rfl⟩⟩⟩
    ·obtain⟨Z,fl,hp⟩:=Dw p (1-mx) mx one inf sg nan mode _ r1 om
     exact⟨Z,fl,.inl ⟨p,mx,one,inf,sg,nan,x,y,hF,hm,hx,hy,.inl hp⟩⟩
   ·exact⟨_,_,.inr (.inl ⟨p,mx,one,inf,sg,nan,hF,om,rfl,rfl⟩)⟩
  ·exact⟨_,_,.inr (.inr ⟨hf,rfl,rfl⟩)⟩
 obtain⟨Z,fl,h⟩:=hex
 refine⟨Z,fl,h,fun w=>(hs w).mono ?_,fun w hw=>(hi w hw).mono ?_⟩
 ·rintro e w' ⟨Z',qA,h',rfl,hg⟩
  obtain⟨rfl,rfl⟩:=kH.one h h'
  exact⟨rfl,hg⟩
 ·rintro e w' ⟨Z',qA,h',rfl,hg⟩
  obtain⟨rfl,rfl⟩:=kH.one h h'
  exact⟨rfl,hg⟩
def iY(p:Int)(o:bI)(os oe oc oh ol:Int)(ot:Bool)(of:Int):Prop:=
 (∃M:Nat,oh=((M/18446744073709551616:Nat):Int)∧ol=((M%18446744073709551616:Nat):Int)∧of=0∧o.c=oc∧0≤oc∧oc≤4∧(oc≤2→o.s=os∧(os=0∨os=1))∧
  (oc=1→0<M∧M<340282366920938463463374607431768211456∧(ot=true→p+2≤(nb M:Int))∧-100000≤oe∧oe≤100000∧∀mn mx one inf mode z fl,aH p mn mx one inf mode os M oe ot z fl↔aH p mn mx one inf mode os o.M o.e false z fl))∨
 (o.c=5∧oc=2∧o.s=os∧(os=0∨os=1)∧of=2)∨
 (o.c=0∧oc=1∧oh=0∧ol=0∧o.s=os∧(os=0∨os=1)∧of=0∧-100000≤oe∧oe≤100000)
theorem iY.nan(p m:Int)(h0:3≤m)(h1:m≤4):iY p ⟨m,0,0,0⟩ 0 0 m 0 0 false 0:=
 .inl ⟨0,rfl,rfl,rfl,rfl,om,h1,fun c=>⟨rfl,.inl rfl⟩,fun c=>om⟩
theorem iY.flat(p:Int)(o:bI)(os oe oc:Int)(ot:Bool)(hc:o.c=oc)(c0:0≤oc)(c4:oc≤4)(c1:oc≠1)(hs:oc≤2→o.s=os∧(os=0∨os=1)):iY p o os oe oc 0 0 ot 0:=
 .inl ⟨0,rfl,rfl,rfl,hc,c0,c4,hs,fun c=>absurd c c1⟩
theorem iY.self(p:Int){x:bI}(h:VO x):iY p x x.s x.e x.c ((x.M/18446744073709551616:Nat):Int) ((x.M%18446744073709551616:Nat):Int) false 0:=
 .inl ⟨x.M,rfl,rfl,rfl,rfl,h.c0,h.c4,fun _=>⟨rfl,h.nN⟩,fun c=>by
  obtain⟨a,b⟩:=h.fin c
  have:=h.e0
  have:=h.e1
  exact⟨a,Nl _ b,(fun t=>by cases t),om,om,fun _ _ _ _ _ _ _=>Iff.rfl⟩⟩
theorem Ce{p mn mx fb sp one inf sg nan:Int}(hm:og p mn mx fb sp one inf sg nan)(md:Int)(k:Nat)(hk:pU md k)(o:bI)(os oe oc oh ol:Int)(ot:Bool)(of:Int)(h:iY p o os oe oc oh ol ot of)(w:World):
  CT 177 #[X #[J Y p,J Y mn,J Y mx,J Y md,.func (.func k) #[] #[]],X #[J Y os,J Y oe,J Y oc,J O oh,J O ol,E ot,J Y of]] w fun e w'=>∃z fl,ql p mn mx one inf sg nan md o z fl∧e=V (X #[J O z,J Y fl])∧Gr w w':=by
 have hp:p≤53∧0≤p:=by rcases hm with h|h<;>omega
 rcases h with⟨M,rfl,rfl,rfl,hc,c0,c4,hs,h1⟩|⟨hc,rfl,hs,aA0,rfl⟩|⟨hc,rfl,rfl,rfl,hs,aA0,rfl,e0,e1⟩
 ·rcases(show oc=0∨oc=1∨oc=2∨oc=3∨oc=4 by omega)with rfl|rfl|rfl|rfl|rfl
  ·obtain⟨s1,s2⟩:=hs om
   refine(Uk p mn mx md k os oe _ _ ot (sw os sg 0) (fun w=>jX hm os _ ?_ w) w).mono ?_
   ·rcases s2 with rfl|rfl
    ·exact .inl ⟨rfl,by simp[sw]⟩
    ·exact .inr ⟨rfl,by simp[sw]⟩
   ·rintro r w' ⟨rfl,hg⟩
    exact⟨_,_,.inl (.inl ⟨hc,by rw[s1],rfl⟩),rfl,hg⟩
  ·obtain⟨s1,s2⟩:=hs om
   obtain⟨m0,m1,m2,e0,e1,m3⟩:=h1 rfl
   refine(JL p mn mx md k os oe _ _ ot (fun z fl=>∃z0,aH p mn mx one inf md os M oe ot z0 fl∧z=sw os sg z0) (fun z fl ⟨_,h,_⟩=>h.fl) (fun w=>?_) w).mono ?_
   ·refine(vY hm md md k hk os s2 oe e0 e1 M m0 m1 ot m2 w).mono ?_
    rintro r w' ⟨z,fl,hr,rfl,hg⟩
    exact⟨_,_,⟨z,hr,Tf _ _ _⟩,rfl,hg⟩
   ·rintro r w' ⟨z,fl,⟨z0,hr,rfl⟩,rfl,hg⟩
    refine⟨_,_,.inl (.inr (.inl ⟨hc,z0,?_,by rw[s1]⟩)),rfl,hg⟩
    rw[s1]
    exact(m3 mn mx one inf md z0 fl).1 hr
  ·obtain⟨s1,s2⟩:=hs om
   refine(Uj p mn mx md k os oe _ _ ot (sw os sg inf) (fun w=>gW hm os _ ?_ w) w).mono ?_
   ·rcases s2 with rfl|rfl
    ·exact .inl ⟨rfl,by simp[sw]⟩
    ·exact .inr ⟨rfl,by simp[sw];omega⟩
   ·rintro r w' ⟨rfl,hg⟩
    exact⟨_,_,.inl (.inr (.inr (.inl ⟨hc,by rw[s1],rfl⟩))),rfl,hg⟩
  ·refine(Ui p mn mx md k os oe _ _ ot nan (fun w=>yA hm w) w).mono ?_
   rintro r w' ⟨rfl,hg⟩
   exact⟨_,_,.inl (.inr (.inr (.inr (.inl ⟨hc,rfl,rfl⟩)))),rfl,hg⟩
  ·refine(Uh p mn mx md k os oe _ _ ot nan (fun w=>dI hm w) w).mono ?_
   rintro r w' ⟨rfl,hg⟩
   exact⟨_,_,.inl (.inr (.inr (.inr (.inr ⟨hc,rfl,rfl⟩)))),rfl,hg⟩
 ·refine(Np p mn mx md k os oe _ _ ot 2 (sw os sg inf) (fun w=>gW hm os _ ?_ w) w).mono ?_
  ·rcases aA0 with rfl|rfl
   ·exact .inl ⟨rfl,by simp[sw]⟩
   ·exact .inr ⟨rfl,by simp[sw];omega⟩
  ·rintro r w' ⟨rfl,hg⟩
   exact⟨_,_,.inr ⟨hc,by rw[hs],rfl⟩,rfl,hg⟩
 ·refine(JL p mn mx md k os oe _ _ ot (fun z fl=>z=sw os sg 0∧fl=0) (fun z fl h=>.inl h.2) (fun w=>?_) w).mono ?_
  ·refine(Nh hm md k os oe ot om om (sw os sg 0) (fun w=>jX hm os _ ?_ w) w).mono ?_
   ·rcases aA0 with rfl|rfl
    ·exact .inl ⟨rfl,by simp[sw]⟩
    ·exact .inr ⟨rfl,by simp[sw]⟩
   ·rintro r w' ⟨rfl,hg⟩
    exact⟨_,_,⟨rfl,rfl⟩,rfl,hg⟩
  ·rintro r w' ⟨z,fl,⟨rfl,rfl⟩,rfl,hg⟩
   exact⟨_,_,.inl (.inl ⟨hc,by rw[hs],rfl⟩),rfl,hg⟩
theorem rH{f p mx one inf sg nan a:Int}(h:aI f p mx one inf sg nan){x:bI}(hx:bZ p mx one inf sg nan a x)(hc:x.c=1):∃P:Nat,(P:Int)=p∧1≤P∧P≤53∧2^(P-1)≤x.M∧x.M<2^P:=by
 rcases hx with⟨_,hu⟩|⟨_,rfl⟩
 ·obtain⟨h1,h2,h3,h4,h5,h6,h7,h8,h9⟩:=lq h hu
  have h10:=h8 hc
  rcases h with⟨rfl,rfl,rfl,rfl,rfl,rfl,rfl⟩|⟨rfl,rfl,rfl,rfl,rfl,rfl,rfl⟩
  ·have q1:2^(24-1)=8388608:=de
   have q2:2^24=16777216:=de
   exact⟨24,rfl,de,de,om,om⟩
  ·have q1:2^(53-1)=4503599627370496:=de
   have q2:2^53=9007199254740992:=de
   exact⟨53,rfl,de,de,om,om⟩
 ·cases hc
theorem B_{f p mx one inf sg nan:Int}(h:aI f p mx one inf sg nan)(mode:Int)(m0:0≤mode)(m1:mode≤4)(o:bI)(ho:o.c=1)(hs:o.s=0∨o.s=1)(m:Nat)(hM:0<m)(e:Int)(e0:-5000≤e)(e1:e≤5000)(t:Bool)(hn:p+2≤(nb m:Int))(heq:∀mn mx one inf mode z fl,aH p mn mx one inf mode o.s m e t z fl↔aH p mn mx one inf mode o.s o.M o.e false z fl)(K:Nat)(hK:K≤100000)(v:Value)(w:World)(hB:aB K w v m):
  CT 65 #[J Y f,J Y mode,X #[J Y o.s,v,J Y e,E t]] w fun x w'=>∃z fl,ql p (1-mx) mx one inf sg nan mode o z fl∧x=V (X #[J O z,J Y fl])∧Gb w w':=by
 have hnb:=VN hB hK
 obtain⟨n,hn',hb⟩:=hB
 refine(xu h hb om hM hnb mode o.s e t m0 m1 hs om om (fun c=>om)).mono ?_
 rintro x w' ⟨z,fl,hr,z0,z1,rfl,hg⟩
 exact⟨_,_,.inl (.inr (.inl ⟨ho,z,(heq _ _ _ _ _ _ _).1 hr,rfl⟩)),rfl,hg⟩
theorem Ho(p mn mx md f:Int)(k own:Nat)(a b sx ex cx xh xl sy ey cy yh yl:Int)(tx ty:Bool){w:World}(HF:Hid (∀w',Gr w w'→QR 70 #[J Y f,J Y md] w' (.tuple #[X #[J Y p,J Y mn,J Y mx,J Y md,.func (.func k) #[] #[]],E true])))
  (HA:KR 73 #[X #[J Y p,J Y mn,J Y mx],J O a] (X #[J Y sx,J Y ex,J Y cx,J O xh,J O xl,E tx,J Y 0])) (HB:KR 73 #[X #[J Y p,J Y mn,J Y mx],J O b] (X #[J Y sy,J Y ey,J Y cy,J O yh,J O yl,E ty,J Y 0])) (Q:Int→Int→Int→Int→Int→Bool→Int→Prop) (HC:Hid (∀w,CT 74 #[X #[J Y p,J Y mn,J Y mx,J Y md,.func (.func k) #[] #[]],.func (.func own) #[] #[],X #[J Y sx,J Y ex,J Y cx,J O xh,J O xl,E tx,J Y 0],X #[J Y sy,J Y ey,J Y cy,J O yh,J O yl,E ty,J Y 0]] w fun e w'=>∃os oe oc oh ol ot of,Q os oe oc oh ol ot of∧e=V (X #[J Y os,J Y oe,J Y oc,J O oh,J O ol,E ot,J Y of])∧Gr w w'))
  (R:Int→Int→Prop) (HP:Hid (∀os oe oc oh ol ot of w,Q os oe oc oh ol ot of→CT 177 #[X #[J Y p,J Y mn,J Y mx,J Y md,.func (.func k) #[] #[]],X #[J Y os,J Y oe,J Y oc,J O oh,J O ol,E ot,J Y of]] w fun e w'=>∃z fl,R z fl∧e=V (X #[J O z,J Y fl])∧Gr w w')):
  CT 130 #[J Y f,J Y md,.func (.func own) #[] #[],J O a,J O b] w fun e w'=>∃z fl,R z fl∧e=V (X #[J O z,J Y fl])∧Gr w w':=by
 go_enter func130,ntmps130
 go_wp2_with (go_at_call 70;refine(HF.out _ Gr.g).mono ?_;rintro x w1 ⟨rfl,aj⟩;obtain⟨EF,D5,X8,DZ⟩:=aj.y2 w.heap.size 0 1 (J O 0) (J Y 0);have hz1:=au EF)
 go_region_held3 (fun w'=>w'.cell? ⟨w1.heap.size,0,none⟩=some (J Y p)∧w'.cell? ⟨w1.heap.size,1,none⟩=some (J Y mn)∧w'.cell? ⟨w1.heap.size,2,none⟩=some (J Y mx)∧w'.cell? ⟨w1.heap.size,3,none⟩=some (J Y md)∧w'.cell? ⟨w1.heap.size,4,none⟩=some (.func (.func k) #[] #[]))
  ((go_split_ands;(repeat' apply And.intro)<;>exact kl))
  (first
   |(go_at_call 73;first|(with_reducible refine(HA.out _).mono ?_;rintro e w2 ⟨rfl,ak⟩;obtain⟨lV,kZ,nX,kY⟩:=ak.y2 w.heap.size 0 1 (J O 0) (J Y 0))|(with_reducible refine(HB.out _).mono ?_;rintro e w2 ⟨rfl,ak⟩;obtain⟨lV,kZ,nX,kY⟩:=ak.y2 w.heap.size 0 1 (J O 0) (J Y 0)))
   |(go_at_call 74;refine(HC.out _).mono ?_;rintro e w3 ⟨os,oe,oc,oh,ol,ot,of,hq,rfl,aA⟩;obtain⟨vH,wK,vG,wJ⟩:=aA.y2 w.heap.size 0 1 (J O 0) (J Y 0))
   |(go_at_call 177;refine(HP.out _ _ _ _ _ _ _ _ hq).mono ?_;rintro e w4 ⟨z,fl,hr,rfl,aF⟩;obtain⟨Iz,KL,RH,KJ⟩:=aF.y2 w.heap.size 0 1 (J O 0) (J Y 0)))
 all_goals (try go_split_ands)
 all_goals go_wp2
 all_goals
  exact Y9
theorem Y_{P:Prop}(h:P:=by
 refine bodyPost_ret (v:=X #[J Y os,J Y oe,J Y oc,J O oh,J O ol,E ot,J Y of]) (by simp[results,Tryz.results74,go_sem,bG,cO,iW,ar3,lW,mX,mW]) rfl ⟨os,oe,oc,oh,ol,ot,of,hq,rfl,?_⟩
 exact Gr.g):P:=h
theorem wM(p mn mx md:Int)(k:Nat)(sx ex cx xh xl sy ey cy yh yl:Int)(tx ty:Bool)(m:Int)(hm:max cx cy=m)(h3:m<3)(Q:Int→Int→Int→Int→Int→Bool→Int→Prop)(HO:Hid (∀w,CT 179 #[X #[J Y p,J Y mn,J Y mx,J Y md,.func (.func k) #[] #[]],X #[J Y sx,J Y ex,J Y cx,J O xh,J O xl,E tx,J Y 0],X #[J Y sy,J Y ey,J Y cy,J O yh,J O yl,E ty,J Y 0]] w fun e w'=>∃os oe oc oh ol ot of,Q os oe oc oh ol ot of∧e=V (X #[J Y os,J Y oe,J Y oc,J O oh,J O ol,E ot,J Y of])∧Gr w w'))(w:World):
  CT 74 #[X #[J Y p,J Y mn,J Y mx,J Y md,.func (.func k) #[] #[]],.func (.func 179) #[] #[],X #[J Y sx,J Y ex,J Y cx,J O xh,J O xl,E tx,J Y 0],X #[J Y sy,J Y ey,J Y cy,J O yh,J O yl,E ty,J Y 0]] w fun e w'=>∃os oe oc oh ol ot of,Q os oe oc oh ol ot of∧e=V (X #[J Y os,J Y oe,J Y oc,J O oh,J O ol,E ot,J Y of])∧Gr w w':=by
 go_enter func74,ntmps74
 go_wp2_with (go_at_call 179;refine(HO.out _).mono ?_;rintro e w1 ⟨os,oe,oc,oh,ol,ot,of,hq,rfl,aj⟩;obtain⟨bG,bK,cO,bJ,iW,d_,ar3,dZ,lW,gV,mX,iM,mW,iK⟩:=aj.y7 (w.heap.size+1+1+1) 0 1 2 3 4 5 6 (J Y 0) (J Y 0) (J Y 0) (J O 0) (J O 0) (E false) (J Y 0))
 exact Y_
theorem t_(p mn mx md:Int)(k:Nat)(sx ex cx xh xl sy ey cy yh yl:Int)(tx ty:Bool)(m:Int)(hm:max cx cy=m)(h3:m<3)(Q:Int→Int→Int→Int→Int→Bool→Int→Prop)(HO:Hid (∀w,CT 183 #[X #[J Y p,J Y mn,J Y mx,J Y md,.func (.func k) #[] #[]],X #[J Y sx,J Y ex,J Y cx,J O xh,J O xl,E tx,J Y 0],X #[J Y sy,J Y ey,J Y cy,J O yh,J O yl,E ty,J Y 0]] w fun e w'=>∃os oe oc oh ol ot of,Q os oe oc oh ol ot of∧e=V (X #[J Y os,J Y oe,J Y oc,J O oh,J O ol,E ot,J Y of])∧Gr w w'))(w:World):
  CT 74 #[X #[J Y p,J Y mn,J Y mx,J Y md,.func (.func k) #[] #[]],.func (.func 183) #[] #[],X #[J Y sx,J Y ex,J Y cx,J O xh,J O xl,E tx,J Y 0],X #[J Y sy,J Y ey,J Y cy,J O yh,J O yl,E ty,J Y 0]] w fun e w'=>∃os oe oc oh ol ot of,Q os oe oc oh ol ot of∧e=V (X #[J Y os,J Y oe,J Y oc,J O oh,J O ol,E ot,J Y of])∧Gr w w':=by
 go_enter func74,ntmps74
 go_wp2_with (go_at_call 183;refine(HO.out _).mono ?_;rintro e w1 ⟨os,oe,oc,oh,ol,ot,of,hq,rfl,aj⟩;obtain⟨bG,bK,cO,bJ,iW,d_,ar3,dZ,lW,gV,mX,iM,mW,iK⟩:=aj.y7 (w.heap.size+1+1+1) 0 1 2 3 4 5 6 (J Y 0) (J Y 0) (J Y 0) (J O 0) (J O 0) (E false) (J Y 0))
 exact Y_
theorem Kz(f mode a b:Int)(R:Int→Int→Prop){w:World}(HC:Hid (∀w',Gr w w'→CT 130 #[J Y f,J Y mode,.func (.func 179) #[] #[],J O a,J O b] w' fun e w''=>∃z fl,R z fl∧e=V (X #[J O z,J Y fl])∧Gr w' w'')):
  CT 92 #[J Y f,J Y mode,J O a,J O b] w fun e w'=>∃z fl,R z fl∧e=V (X #[J O z,J Y fl])∧Gr w w':=by
 go_enter func92,ntmps92
 go_wp2_with (go_at_call 130;refine(HC.out _ Gr.g).mono ?_;rintro e w1 ⟨z,fl,hr,rfl,aj⟩;obtain⟨bG,bK,cO,bJ⟩:=aj.y2 w.heap.size 0 1 (J O 0) (J Y 0))
 refine bodyPost_ret (v:=X #[J O z,J Y fl]) (by simp[results,Tryz.results92,go_sem,bG,cO]) rfl ⟨z,fl,hr,rfl,?_⟩
 exact Gr.g
theorem Gv(f mode a:Int)(R:Int→Int→Prop){w:World}(HC:Hid (∀w',Gr w w'→CT 130 #[J Y f,J Y mode,.func (.func 183) #[] #[],J O a,J O a] w' fun e w''=>∃z fl,R z fl∧e=V (X #[J O z,J Y fl])∧Gr w' w'')):
  CT 95 #[J Y f,J Y mode,J O a] w fun e w'=>∃z fl,R z fl∧e=V (X #[J O z,J Y fl])∧Gr w w':=by
 go_enter func95,ntmps95
 go_wp2_with (go_at_call 130;refine(HC.out _ Gr.g).mono ?_;rintro e w1 ⟨z,fl,hr,rfl,aj⟩;obtain⟨bG,bK,cO,bJ⟩:=aj.y2 w.heap.size 0 1 (J O 0) (J Y 0))
 refine bodyPost_ret (v:=X #[J O z,J Y fl]) (by simp[results,Tryz.results95,go_sem,bG,cO]) rfl ⟨z,fl,hr,rfl,?_⟩
 exact Gr.g
