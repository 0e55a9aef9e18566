import Derived.Test.YtnbbfeknbfohhaaGreatDoorB5
import Derived.Deep.DeepCutAuto
import Derived.Test.YtnbbfeknbfohhaaGreatDoorC0
import Derived.Test.YtnbbfeknbfohhaaGreatDoorC1
import Derived.Test.YtnbbfeknbfohhaaGreatDoorB8
import Derived.Test.YtnbbfeknbfohhaaGreatDoorFw
set_option linter.unusedVariables false
set_option linter.unusedSimpArgs false
set_option maxRecDepth 1000000
set_option maxHeartbeats 40000000
open Go.Value renaming int → J, agg → X, bool → E
open Go.IntKind renaming i64 → Y, u64 → O
open Go.Ending renaming returned → V
open Go.Proofs.Tryz
namespace Go.Proofs.YtnbbfeknbfohhaaGreatDoor
open Go.RowKit
theorem aHI(p mn mx md nan f mode a b c:Int){w:World}(HF:Hid (∀w',Gr w w'→QR 70 #[J Y f,J Y mode] w' (.tuple #[X #[J Y p,J Y mn,J Y mx,J Y md,Value.nilFunc],E false])))
  (HN:KR 176 #[X #[J Y p,J Y mn,J Y mx]] (X #[J O nan,J Y 1])):
  QR 89 #[J Y f,J Y mode,J O a,J O b,J O c] w (X #[J O nan,J Y 1]):=by
 go_enter func89,ntmps89
 go_wp2_with (first
  |(go_at_call 70;refine(HF.out _ Gr.g).mono ?_;rintro x w1 ⟨rfl,aj⟩;obtain⟨EF,D5,X8,DZ⟩:=aj.y2 w.heap.size 0 1 (J O 0) (J Y 0))
  |(go_at_call 176;refine(HN.out _).mono ?_;rintro x w2 ⟨rfl,ak⟩;obtain⟨iF,h_,jh,g_⟩:=ak.y2 w.heap.size 0 1 (J O 0) (J Y 0)))
 refine bodyPost_ret (v:=X #[J O nan,J Y 1]) (by simp[results,Tryz.results89,go_sem,iF,jh]) rfl ⟨rfl,?_⟩
 exact Gr.g
structure aIG (p mn mx md:Int) (k:Nat) (w wx:World) (o bw:Nat) (us ue uc uh ul:Int) (ut:Bool):Prop where
 g:Gr w wx:=by exact kr
 n:w.heap.size<bw:=by omega
 s0:wx.cell? ⟨o,0,none⟩=some (J Y p):=by exact kl
 s1:wx.cell? ⟨o,1,none⟩=some (J Y mn):=by exact kl
 s2:wx.cell? ⟨o,2,none⟩=some (J Y mx):=by exact kl
 s3:wx.cell? ⟨o,3,none⟩=some (J Y md):=by exact kl
 s4:wx.cell? ⟨o,4,none⟩=some (.func (.func k) #[] #[]):=by exact kl
 u0:wx.cell? ⟨bw,0,none⟩=some (J Y us):=by exact kl
 u1:wx.cell? ⟨bw,1,none⟩=some (J Y ue):=by exact kl
 u2:wx.cell? ⟨bw,2,none⟩=some (J Y uc):=by exact kl
 u3:wx.cell? ⟨bw,3,none⟩=some (J O uh):=by exact kl
 u4:wx.cell? ⟨bw,4,none⟩=some (J O ul):=by exact kl
 u5:wx.cell? ⟨bw,5,none⟩=some (E ut):=by exact kl
 u6:wx.cell? ⟨bw,6,none⟩=some (J Y 0):=by exact kl
 r0:wx.cell? ⟨w.heap.size,0,none⟩=some (J O 0):=by exact kl
 rz0:wx.frozen? ⟨w.heap.size,0,none⟩=false:=by exact kl
 r1:wx.cell? ⟨w.heap.size,1,none⟩=some (J Y 0):=by exact kl
 rz1:wx.frozen? ⟨w.heap.size,1,none⟩=false:=by exact kl
theorem aIh(p mn mx md f:Int)(k:Nat)(a b c sx ex cx xh xl sy ey cy yh yl sz ez cz zh zl:Int)(tx ty tz:Bool){w:World}(HF:Hid (∀w',Gr w w'→QR 70 #[J Y f,J Y md] w' (.tuple #[X #[J Y p,J Y mn,J Y mx,J Y md,.func (.func k) #[] #[]],E true])))
  (HA:KR 73 #[X #[J Y p,J Y mn,J Y mx],J O a] (X #[J Y sx,J Y ex,J Y cx,J O xh,J O xl,E tx,J Y 0])) (HB:KR 73 #[X #[J Y p,J Y mn,J Y mx],J O b] (X #[J Y sy,J Y ey,J Y cy,J O yh,J O yl,E ty,J Y 0])) (HZ:KR 73 #[X #[J Y p,J Y mn,J Y mx],J O c] (X #[J Y sz,J Y ez,J Y cz,J O zh,J O zl,E tz,J Y 0])) (us ue uc uh ul:Int) (ut:Bool) (HC:KR 74 #[X #[J Y p,J Y mn,J Y mx,J Y md,.func (.func k) #[] #[]],.func (.func 174) #[] #[],X #[J Y sx,J Y ex,J Y cx,J O xh,J O xl,E tx,J Y 0],X #[J Y sy,J Y ey,J Y cy,J O yh,J O yl,E ty,J Y 0]] (X #[J Y us,J Y ue,J Y uc,J O uh,J O ul,E ut,J Y 0])) (Q:Int→Int→Int→Int→Int→Bool→Prop) (HS:Hid (∀w,CT 74 #[X #[J Y p,J Y mn,J Y mx,J Y md,.func (.func k) #[] #[]],.func (.func 169) #[] #[],X #[J Y us,J Y ue,J Y uc,J O uh,J O ul,E ut,J Y 0],X #[J Y sz,J Y ez,J Y cz,J O zh,J O zl,E tz,J Y 0]] w fun e w'=>∃os oe oc oh ol ot,Q os oe oc oh ol ot∧e=V (X #[J Y os,J Y oe,J Y oc,J O oh,J O ol,E ot,J Y 0])∧Gr w w'))
  (R:Int→Int→Prop) (HP:Hid (∀os oe oc oh ol ot w,Q os oe oc oh ol ot→CT 177 #[X #[J Y p,J Y mn,J Y mx,J Y md,.func (.func k) #[] #[]],X #[J Y os,J Y oe,J Y oc,J O oh,J O ol,E ot,J Y 0]] w fun e w'=>∃z fl,R z fl∧e=V (X #[J O z,J Y fl])∧Gr w w')):
  CT 89 #[J Y f,J Y md,J O a,J O b,J O c] w fun e w'=>∃z fl,R z fl∧e=V (X #[J O z,J Y fl])∧Gr w w':=by
 go_enter func89,ntmps89
 go_wp2_with (go_at_call 70;refine(HF.out _ Gr.g).mono ?_;rintro x w1 ⟨rfl,aj⟩;obtain⟨EF,D5,X8,DZ⟩:=aj.y2 w.heap.size 0 1 (J O 0) (J Y 0);have hz1:=au EF)
 go_cut [13] (fun s13 wx=>∃bw:Nat,s13=.pointer (some ⟨bw,0,none⟩)∧aIG p mn mx md k w wx w1.heap.size bw us ue uc uh ul ut)
 case first=>
  clear HS HP HZ
  go_region_held3 (fun w'=>w'.cell? ⟨w1.heap.size,0,none⟩=some (J Y p)∧w'.cell? ⟨w1.heap.size,1,none⟩=some (J Y mn)∧w'.cell? ⟨w1.heap.size,2,none⟩=some (J Y mx)∧w'.cell? ⟨w1.heap.size,3,none⟩=some (J Y md)∧w'.cell? ⟨w1.heap.size,4,none⟩=some (.func (.func k) #[] #[]))
   ((go_split_ands;(repeat' apply And.intro)<;>exact kl))
   (first
    |(go_at_call 73;first|(with_reducible refine(HA.out _).mono ?_;rintro e w2a ⟨rfl,aGm⟩;obtain⟨lV,kZ,nX,kY⟩:=aGm.y2 w.heap.size 0 1 (J O 0) (J Y 0);obtain⟨cs0,cs1,cs2,cs3,cs4⟩:=aGm.e5 w1.heap.size 0 1 2 3 4 (J Y p) (J Y mn) (J Y mx) (J Y md) (.func (.func k) #[] #[]);have aI0:=aGm.cells;have aIY:=aGm.aQ;have aIg:=aGm.size;(try simp only[World.size_alloc,World.size_drew,World.size_setCell]at aIg);(try (have aIU:w1.heap.size+1<w2a.heap.size:=(by omega)));(try (have aIS:w2b.heap.size<w2a.heap.size:=(by omega))))|(with_reducible refine(HB.out _).mono ?_;rintro e w2b ⟨rfl,aGl⟩;obtain⟨lV,kZ,nX,kY⟩:=aGl.y2 w.heap.size 0 1 (J O 0) (J Y 0);obtain⟨cs0,cs1,cs2,cs3,cs4⟩:=aGl.e5 w1.heap.size 0 1 2 3 4 (J Y p) (J Y mn) (J Y mx) (J Y md) (.func (.func k) #[] #[]);have aIZ:=aGl.cells;have aIX:=aGl.aQ;have aIf:=aGl.size;(try simp only[World.size_alloc,World.size_drew,World.size_setCell]at aIf);(try (have aIT:w1.heap.size+1<w2b.heap.size:=(by omega)));(try (have aIR:w2a.heap.size<w2b.heap.size:=(by omega)))))
    |(go_at_call 74;refine(HC.out _).mono ?_;rintro e w3 ⟨rfl,aA⟩;obtain⟨vH,wK,vG,wJ⟩:=aA.y2 w.heap.size 0 1 (J O 0) (J Y 0);obtain⟨ds0,ds1,ds2,ds3,ds4⟩:=aA.e5 w1.heap.size 0 1 2 3 4 (J Y p) (J Y mn) (J Y mx) (J Y md) (.func (.func k) #[] #[]);have qj:=aA.cells;have qh:=aA.aQ;have iI:=aA.size;(try simp only[World.size_alloc,World.size_drew,World.size_setCell]at iI);(try (have aJa:w1.heap.size+1<w3.heap.size:=(by omega)));(try (have aI9:w2a.heap.size<w3.heap.size:=(by omega)));(try (have aI8:w2b.heap.size<w3.heap.size:=(by omega)))))
  all_goals (try go_split_ands)
  all_goals (go_wp2;go_meet)
  all_goals exact⟨_,rfl,{}⟩
 case rest=>
  clear HA HB HC
  obtain⟨bw,rfl,⟨qg,qn,qs0,qs1,qs2,qs3,qs4,qu0,qu1,qu2,qu3,qu4,qu5,qu6,AQ,zC,Iy,zB⟩⟩:=hcut
  go_wp2
  go_region_held3 (fun w'=>w'.cell? ⟨w1.heap.size,0,none⟩=some (J Y p)∧w'.cell? ⟨w1.heap.size,1,none⟩=some (J Y mn)∧w'.cell? ⟨w1.heap.size,2,none⟩=some (J Y mx)∧w'.cell? ⟨w1.heap.size,3,none⟩=some (J Y md)∧w'.cell? ⟨w1.heap.size,4,none⟩=some (.func (.func k) #[] #[])∧w'.cell? ⟨bw,0,none⟩=some (J Y us)∧w'.cell? ⟨bw,1,none⟩=some (J Y ue)∧w'.cell? ⟨bw,2,none⟩=some (J Y uc)∧w'.cell? ⟨bw,3,none⟩=some (J O uh)∧w'.cell? ⟨bw,4,none⟩=some (J O ul)∧w'.cell? ⟨bw,5,none⟩=some (E ut)∧w'.cell? ⟨bw,6,none⟩=some (J Y 0))
   ((go_split_ands;(repeat' apply And.intro)<;>exact kl))
   (first
    |(go_at_call 73;refine(HZ.out _).mono ?_;rintro e w5 ⟨rfl,aJ⟩;obtain⟨QS,aEj,QO,aEi⟩:=aJ.y2 w.heap.size 0 1 (J O 0) (J Y 0))
    |(go_at_call 74;refine(HS.out _).mono ?_;rintro e w6 ⟨os,oe,oc,oh,ol,ot,hq,rfl,fK⟩;obtain⟨gr0,aJh,gr1,aJg⟩:=fK.y2 w.heap.size 0 1 (J O 0) (J Y 0))
    |(go_at_call 177;refine(HP.out _ _ _ _ _ _ _ hq).mono ?_;rintro e w7 ⟨z,fl,hr,rfl,gU⟩;obtain⟨Iz,KL,RH,KJ⟩:=gU.y2 w.heap.size 0 1 (J O 0) (J Y 0)))
  all_goals (try go_split_ands)
  all_goals go_wp2
  all_goals
   refine bodyPost_ret (v:=X #[J O z,J Y fl]) (by simp[results,Tryz.results89,go_sem,Iz,RH]) rfl ⟨z,fl,hr,rfl,?_⟩
   exact Gr.g
def aGr(mode:Int)(x y z:bI):bI:=fM mode (cu x y) z
def aGt(f mode a b c Z fl:Int):Prop:=
 (∃p mx one inf sg nan x y z,aI f p mx one inf sg nan∧(0≤mode∧mode≤4)∧bZ p mx one inf sg nan a x∧bZ p mx one inf sg nan b y∧bZ p mx one inf sg nan c z∧bV p (1-mx) mx one inf sg nan mode (aGr mode x y z) Z fl)∨
 (∃p mx one inf sg nan,aI f p mx one inf sg nan∧(mode<0∨4<mode)∧Z=nan∧fl=1)∨
 (¬(f=0∨f=1)∧Z=9221120237041090560∧fl=1)
theorem aGt.one{f mode a b c Z fl Z' qA:Int}(h:aGt f mode a b c Z fl)(h':aGt f mode a b c Z' qA):Z=Z'∧fl=qA:=by
 rcases h with⟨p,mx,one,inf,sg,nan,x,y,z,hF,hm,hx,hy,hz,hp⟩|⟨p,mx,one,inf,sg,nan,hF,hm,rfl,rfl⟩|⟨hF,rfl,rfl⟩<;>
 rcases h' with⟨p',mx',one',inf',TI,nan',x',y',z',hF',hm',hx',hy',hz',hp'⟩|⟨p',mx',one',inf',TI,nan',hF',hm',rfl,rfl⟩|⟨hF',rfl,rfl⟩
 ·obtain⟨rfl,rfl,rfl,rfl,rfl,rfl⟩:=hF.one hF'
  obtain rfl:=hx.one hF hx'
  obtain rfl:=hy.one hF hy'
  obtain rfl:=hz.one hF hz'
  exact bV.one hp hp'
 ·exfalso;omega
 ·exact absurd hF.yes.symm (by simp[hF'])
 ·exfalso;omega
 ·obtain⟨rfl,rfl,rfl,rfl,rfl,rfl⟩:=hF.one hF'
  exact⟨rfl,rfl⟩
 ·exact absurd hF.yes.symm (by simp[hF'])
 ·exact absurd hF'.yes.symm (by simp[hF])
 ·exact absurd hF'.yes.symm (by simp[hF])
 ·exact⟨rfl,rfl⟩
theorem aGQ(f mode a b c:Int)(a0:0≤a)(a1:a<18446744073709551616)(b0:0≤b)(b1:b<18446744073709551616)(c0:0≤c)(c1:c<18446744073709551616)(w:World)(hw:Fm w):
  CT 89 #[J Y f,J Y mode,J O a,J O b,J O c] w fun e w'=>∃Z fl,aGt f mode a b c Z fl∧e=V (X #[J O Z,J Y fl])∧Gr w w':=by
 by_cases hf:f=0∨f=1
 ·obtain⟨p,mx,one,inf,sg,nan,hF⟩:=kF f hf
  obtain⟨mn,fb,sp,hM,hmn,hfb⟩:=hF.m
  by_cases hm:0≤mode∧mode≤4
  ·obtain⟨k,hk⟩:=o9 mode hm.1 hm.2
   obtain⟨x,hx,HA⟩:=ny hF hM a a0 a1
   obtain⟨y,hy,HB⟩:=ny hF hM b b0 b1
   obtain⟨z,hz,HZ⟩:=ny hF hM c c0 c1
   obtain⟨v1,v2,v3,v4,v5,v6⟩:=dA hF hx
   obtain⟨u1,u2,u3,u4,u5,u6⟩:=dA hF hy
   obtain⟨t1,t2,t3,t4,t5,t6⟩:=dA hF hz
   have hv:=zG v1 u1 v6 u6 v4 v5 u4 u5
   refine(aIh p mn mx mode f k a b c _ _ _ _ _ _ _ _ _ _ _ _ _ _ _ _ _ _ (fun w'' hg'=>gK hF hM mode k (fun w=>jQ mode k hk w) (hw.gr hg')) HA HB HZ _ _ _ _ _ _ (fun w=>sF p mn mx mode k x y v1 u1 (by omega) (by omega) w) (rC (aGr mode x y z)) (fun w=>yg p mn mx mode k (cu x y) z hv t1 w) (bV p mn mx one inf sg nan mode (aGr mode x y z)) (fun os oe oc oh ol ot w hq=>zH hM mode k hk _ os oe oc oh ol ot hq w)).mono ?_
   rintro e w'' ⟨Z,fl,hp,rfl,hg'⟩
   rw[hmn]at hp
   exact⟨_,_,.inl ⟨p,mx,one,inf,sg,nan,x,y,z,hF,hm,hx,hy,hz,hp⟩,rfl,hg'⟩
  ·refine(aHI p mn mx mode nan f mode a b c (fun w'' hg'=>jm hF hM mode (fun w=>oC mode (by omega) w) (hw.gr hg')) (fun w=>dI hM w)).mono ?_
   rintro e w'' ⟨rfl,hg'⟩
   exact⟨_,_,.inr (.inl ⟨p,mx,one,inf,sg,nan,hF,by omega,rfl,rfl⟩),rfl,hg'⟩
 ·refine(aHI _ _ _ _ _ f mode a b c (fun w'' hg'=>je f mode hf (hw.gr hg')) (fun w=>dI m64 w)).mono ?_
  rintro e w'' ⟨rfl,hg'⟩
  exact⟨_,_,.inr (.inr ⟨hf,rfl,rfl⟩),rfl,hg'⟩
theorem aHR(x y:bI)(h:max x.c y.c<3):(cu x y).s =mulS x.s y.s∧(cu x y).e =x.e+y.e:=by
 unfold cu
 rw[if_neg (by omega)]
 split
 ·exact⟨rfl,rfl⟩
 ·split
  ·exact⟨rfl,rfl⟩
  ·split
   ·exact⟨rfl,rfl⟩
   ·exact⟨rfl,rfl⟩
theorem aG3{f p mx one inf sg nan:Int}(h:aI f p mx one inf sg nan)(mode a b c:Int)(hm:0≤mode∧mode≤4)(a0:0≤a)(a1:a<18446744073709551616)(b0:0≤b)(b1:b<18446744073709551616)(c0:0≤c)(c1:c<18446744073709551616){x y z:bI}(hx:bZ p mx one inf sg nan a x)(hy:bZ p mx one inf sg nan b y)(hz:bZ p mx one inf sg nan c z)(w:World):
  CT 88 #[J Y f,J Y mode,J O a,J O b,J O c] w fun e w'=>∃Z fl,bV p (1-mx) mx one inf sg nan mode (aGr mode x y z) Z fl∧e=V (X #[J O Z,J Y fl])∧Gb w w':=by
 obtain⟨v1,v2,v3,v4,v5,v6⟩:=dA h hx
 obtain⟨u1,u2,u3,u4,u5,u6⟩:=dA h hy
 obtain⟨t1,t2,t3,t4,t5,t6⟩:=dA h hz
 have hv:=zG v1 u1 v6 u6 v4 v5 u4 u5
 have xc0:=v1.c0
 have xc4:=v1.c4
 have yc0:=u1.c0
 have yc4:=u1.c4
 have zc0:=t1.c0
 have zc4:=t1.c4
 have pc0:=hv.c0
 have pc4:=hv.c4
 have hms:mulS x.s y.s=0∨mulS x.s y.s=1:=by unfold mulS;split<;>simp
 unfold aGr
 by_cases hfit:(a<2*sg∧b<2*sg)∧c<2*sg
 ·obtain⟨⟨fa,RF⟩,fc⟩:=hfit
  have HF:KW 117 #[J Y f,J Y mode,J O a,J O b] (E true):=fun w=>nH h mode a b hm.1 hm.2 a0 fa b0 RF w
  have HG:KW 110 #[J Y f,J O c] (E true):=fun w=>dB h c c0 fc w
  have fB:=nS h a a0 fa hx
  have iq:=nS h b b0 RF hy
  have wR:=nS h c c0 fc hz
  have HQ:∀(z:bI) (t:Bool),t=decide (3≤z.c)→KR 118 #[X #[J Y z.c,J Y z.s,J Y z.e,J O (((z.M:Nat):Int))]] (E t):=fun z t ht w=>lS _ _ _ _ t ht w
  have wS:∀t:Bool,KR 119 #[J Y f,E t] (X #[J O nan,J Y (if t then 1 else 0)]):=fun t w=>rO h t _ rfl w
  have YK:∀t:Bool,t=decide (x.c=2∧y.c=0∨x.c=0∧y.c=2)→KR 172 #[X #[J Y x.c,J Y x.s,J Y x.e,J O (((x.M:Nat):Int))],X #[J Y y.c,J Y y.s,J Y y.e,J O (((y.M:Nat):Int))]] (E t):=fun t ht w=>xY _ _ _ _ _ _ _ _ t ht w
  by_cases n1:x.c=2∧y.c=0∨x.c=0∧y.c=2
  ·have hp4:(cu x y).c =4:=by unfold cu;rw[if_neg (by omega),if_pos (by omega)]
   refine(aHP f mode a b c _ _ _ _ _ _ _ _ _ _ _ _ HF HG fB iq wR (YK true (by simp[n1])) nan 1 (fun w=>cZ h w) w).mono ?_
   rintro e w' ⟨rfl,hg⟩
   refine⟨_,_,?_,rfl,hg⟩
   rw[oz mode _ z (by omega)]
   exact lH (by dsimp only;omega)
  ·have hP:=YK false (decide_eq_false n1).symm
   by_cases q:3≤x.c∨3≤y.c∨3≤z.c
   ·have hpc:3≤max x.c y.c∧(cu x y).c =max x.c y.c∨max x.c y.c<3∧(cu x y).c ≤2:=by
     by_cases m3:3≤max x.c y.c
     ·exact .inl ⟨m3,by rw[rG x y m3]⟩
     ·refine .inr ⟨by omega,?_⟩
      unfold cu
      rw[if_neg m3,if_neg (by omega)]
      split
      ·dsimp only;omega
      ·split
       ·dsimp only;omega
       ·dsimp only;omega
    have hmx:3≤max (cu x y).c z.c:=by omega
    rw[oz mode _ z hmx]
    have hsig:∀t:Bool,t=decide (x.c=4∨y.c=4∨z.c=4)→bV p (1-mx) mx one inf sg nan mode ⟨max (cu x y).c z.c,0,0,0⟩ nan (if t then 1 else 0):=fun t ht=>jG _ t (by rw[ht,decide_eq_decide];omega) hmx (by omega)
    by_cases s1:3≤x.c
    ·have hQa:=HQ x true (by simp[s1])
     by_cases s2:x.c=4
     ·refine(aHh f mode a b c _ _ _ _ _ _ _ _ _ _ _ _ HF HG fB iq wR hP hQa (by simp[s2]) nan _ (wS true) w).mono ?_
      rintro e w' ⟨rfl,hg⟩
      exact⟨_,_,hsig true (by simp[s2]),rfl,hg⟩
     ·by_cases s3:y.c=4
      ·refine(aHg f mode a b c _ _ _ _ _ _ _ _ _ _ _ _ HF HG fB iq wR hP hQa (by simp[s2]) (by simp[s3]) nan _ (wS true) w).mono ?_
       rintro e w' ⟨rfl,hg⟩
       exact⟨_,_,hsig true (by simp[s3]),rfl,hg⟩
      ·refine(aHf f mode a b c _ _ _ _ _ _ _ _ _ _ _ _ HF HG fB iq wR hP hQa (by simp[s2]) (by simp[s3]) (decide (z.c=4)) (bq _ _) nan _ (wS _) w).mono ?_
       rintro e w' ⟨rfl,hg⟩
       exact⟨_,_,hsig _ (by simp[s2,s3]),rfl,hg⟩
    ·have hQa:=HQ x false (by simp;omega)
     have s2:¬x.c=4:=by omega
     by_cases s3:3≤y.c
     ·have hQb:=HQ y true (by simp[s3])
      by_cases s4:y.c=4
      ·refine(aHe f mode a b c _ _ _ _ _ _ _ _ _ _ _ _ HF HG fB iq wR hP hQa hQb (by simp[s2]) (by simp[s4]) nan _ (wS true) w).mono ?_
       rintro e w' ⟨rfl,hg⟩
       exact⟨_,_,hsig true (by simp[s4]),rfl,hg⟩
      ·refine(aHd f mode a b c _ _ _ _ _ _ _ _ _ _ _ _ HF HG fB iq wR hP hQa hQb (by simp[s2]) (by simp[s4]) (decide (z.c=4)) (bq _ _) nan _ (wS _) w).mono ?_
       rintro e w' ⟨rfl,hg⟩
       exact⟨_,_,hsig _ (by simp[s2,s4]),rfl,hg⟩
     ·have hQb:=HQ y false (by simp;omega)
      have s4:¬y.c=4:=by omega
      have hQc:=HQ z true (by simp;omega)
      refine(aHc f mode a b c _ _ _ _ _ _ _ _ _ _ _ _ HF HG fB iq wR hP hQa hQb hQc (by simp[s2]) (by simp[s4]) (decide (z.c=4)) (bq _ _) nan _ (wS _) w).mono ?_
      rintro e w' ⟨rfl,hg⟩
      exact⟨_,_,hsig _ (by simp[s2,s4]),rfl,hg⟩
   ·have hQa:=HQ x false (by simp;omega)
    have hQb:=HQ y false (by simp;omega)
    have hQc:=HQ z false (by simp;omega)
    obtain⟨ps,pe⟩:=aHR x y (by omega)
    have HM:Hid (∀w,CT 173 #[X #[J Y x.c,J Y x.s,J Y x.e,J O (((x.M:Nat):Int))],X #[J Y y.c,J Y y.s,J Y y.e,J O (((y.M:Nat):Int))]] w fun e w'=>∃b k cc,aB 4 w' (.slice (some ⟨b,0,none⟩) k cc) (cu x y).M ∧e=V (X #[J Y (cu x y).s,.slice (some ⟨b,0,none⟩) k cc,J Y (cu x y).e,E false])∧Gb w w')∨(x.c=2∨y.c=2)∧Hid (∀w,CT 173 #[X #[J Y x.c,J Y x.s,J Y x.e,J O (((x.M:Nat):Int))],X #[J Y y.c,J Y y.s,J Y y.e,J O (((y.M:Nat):Int))]] w fun e w'=>∃b k cc,aB 4 w' (.slice (some ⟨b,0,none⟩) k cc) (x.M*y.M)∧e=V (X #[J Y (cu x y).s,.slice (some ⟨b,0,none⟩) k cc,J Y (cu x y).e,E false])∧Gb w w'):=by
     have base:Hid (∀w,CT 173 #[X #[J Y x.c,J Y x.s,J Y x.e,J O (((x.M:Nat):Int))],X #[J Y y.c,J Y y.s,J Y y.e,J O (((y.M:Nat):Int))]] w fun e w'=>∃b k cc,aB 4 w' (.slice (some ⟨b,0,none⟩) k cc) (x.M*y.M)∧e=V (X #[J Y (cu x y).s,.slice (some ⟨b,0,none⟩) k cc,J Y (cu x y).e,E false])∧Gb w w'):=fun w=>by rw[ps,pe];exact BG _ _ _ _ _ _ x.M y.M (by omega) (by omega) v1.nN u1.nN (by omega) (by omega) (by omega) (by omega) w
     by_cases i2:x.c=2∨y.c=2
     ·exact .inr ⟨i2,base⟩
     ·left
      have:(cu x y).M =x.M*y.M:=by
       unfold cu
       rw[if_neg (by omega),if_neg (by omega)]
       by_cases mz:min x.c y.c=0
       ·rw[if_pos mz]
        dsimp only
        rcases(show x.c=0∨y.c=0 by omega)with e|e
        ·rw[v3 (by omega),Nat.zero_mul]
        ·rw[u3 (by omega),Nat.mul_zero]
       ·rw[if_neg mz,if_neg (by omega)]
      rw[this]
      exact base
    by_cases i2:x.c=2∨y.c=2
    ·have hp2:(cu x y).c =2:=by unfold cu;rw[if_neg (by omega),if_neg (by omega),if_neg (by omega),if_pos (by omega)]
     have HM':∃Gp:Nat,Hid (∀w,CT 173 #[X #[J Y x.c,J Y x.s,J Y x.e,J O (((x.M:Nat):Int))],X #[J Y y.c,J Y y.s,J Y y.e,J O (((y.M:Nat):Int))]] w fun e w'=>∃b k cc,aB 4 w' (.slice (some ⟨b,0,none⟩) k cc) Gp∧e=V (X #[J Y (cu x y).s,.slice (some ⟨b,0,none⟩) k cc,J Y (cu x y).e,E false])∧Gb w w'):=by
      rcases HM with h|⟨_,h⟩
      ·exact⟨_,h⟩
      ·exact⟨_,h⟩
     obtain⟨Gp,HM2⟩:=HM'
     by_cases z2:z.c=2
     ·by_cases zs:(cu x y).s =z.s
      ·have hO:fM mode (cu x y) z=cu x y:=by
        unfold fM
        rw[if_neg (by omega),if_neg (by omega),if_neg (by omega),if_neg (by omega),if_pos zs]
       rw[hO]
       have fin:∀e w',(e=Ending.returned (X #[J O (sw (cu x y).s sg inf),J Y 0])∧Gb w w')→∃Z fl,bV p (1-mx) mx one inf sg nan mode (cu x y) Z fl∧e=V (X #[J O Z,J Y fl])∧Gb w w':=fun e w' ⟨he,hg⟩=>⟨_,_,.inr (.inr (.inl ⟨hp2,rfl,rfl⟩)),he,hg⟩
       by_cases x2:x.c=2
       ·exact(aGF f mode a b c _ _ _ _ _ _ _ _ _ _ _ _ _ _ _ HF HG fB iq wR hP hQa hQb hQc HM2 x2 z2 zs _ 0 (fun w=>eu h _ hv.nN w) w).mono fin
       ·exact(aGD f mode a b c _ _ _ _ _ _ _ _ _ _ _ _ _ _ _ HF HG fB iq wR hP hQa hQb hQc HM2 (by simp[x2]) (by omega) z2 zs _ 0 (fun w=>eu h _ hv.nN w) w).mono fin
      ·have hO:fM mode (cu x y) z=⟨4,0,0,0⟩:=by
        unfold fM
        rw[if_neg (by omega),if_neg (by omega),if_neg (by omega),if_neg (by omega),if_neg zs,if_pos hp2]
       rw[hO]
       have fin:∀e w',(e=Ending.returned (X #[J O nan,J Y 1])∧Gb w w')→∃Z fl,bV p (1-mx) mx one inf sg nan mode ⟨4,0,0,0⟩ Z fl∧e=V (X #[J O Z,J Y fl])∧Gb w w':=fun e w' ⟨he,hg⟩=>⟨_,_,lH rfl,he,hg⟩
       by_cases x2:x.c=2
       ·exact(aGE f mode a b c _ _ _ _ _ _ _ _ _ _ _ _ _ _ _ HF HG fB iq wR hP hQa hQb hQc HM2 x2 z2 (by simp[zs]) _ 1 (fun w=>cZ h w) w).mono fin
       ·exact(aGC f mode a b c _ _ _ _ _ _ _ _ _ _ _ _ _ _ _ HF HG fB iq wR hP hQa hQb hQc HM2 (by simp[x2]) (by omega) z2 (by simp[zs]) _ 1 (fun w=>cZ h w) w).mono fin
     ·have hO:fM mode (cu x y) z=cu x y:=by
       unfold fM
       rw[if_neg (by omega),if_pos (by omega)]
      rw[hO]
      have fin:∀e w',(e=Ending.returned (X #[J O (sw (cu x y).s sg inf),J Y 0])∧Gb w w')→∃Z fl,bV p (1-mx) mx one inf sg nan mode (cu x y) Z fl∧e=V (X #[J O Z,J Y fl])∧Gb w w':=fun e w' ⟨he,hg⟩=>⟨_,_,.inr (.inr (.inl ⟨hp2,rfl,rfl⟩)),he,hg⟩
      by_cases x2:x.c=2
      ·exact(aGq f mode a b c _ _ _ _ _ _ _ _ _ _ _ _ _ _ _ HF HG fB iq wR hP hQa hQb hQc HM2 x2 (by simp[z2]) _ 0 (fun w=>eu h _ hv.nN w) w).mono fin
      ·exact(aGp f mode a b c _ _ _ _ _ _ _ _ _ _ _ _ _ _ _ HF HG fB iq wR hP hQa hQb hQc HM2 (by simp[x2]) (by omega) (by simp[z2]) _ 0 (fun w=>eu h _ hv.nN w) w).mono fin
    ·have HM2:Hid _:=HM.resolve_right (fun k=>i2 k.1)
     have hp1:(cu x y).c ≤1:=by
      unfold cu
      rw[if_neg (by omega),if_neg (by omega)]
      split
      ·dsimp only;omega
      ·rw[if_neg (by omega)];dsimp only;omega
     by_cases z2:z.c=2
     ·have hO:fM mode (cu x y) z=z:=by
       unfold fM
       rw[if_neg (by omega),if_neg (by omega),if_pos (by omega)]
      rw[hO]
      refine(aHi f mode a b c _ _ _ _ _ _ _ _ _ _ _ _ _ _ _ HF HG fB iq wR hP hQa hQb hQc HM2 (by simp;omega) (by simp;omega) z2 _ 0 (fun w=>eu h _ t1.nN w) w).mono ?_
      rintro e w' ⟨rfl,hg⟩
      exact⟨_,_,.inr (.inr (.inl ⟨z2,rfl,rfl⟩)),rfl,hg⟩
     ·exact aHA f mode a b c _ _ _ _ _ _ _ _ _ _ _ _ _ _ _ z.M HF HG fB iq wR hP hQa hQb hQc HM2 (by simp;omega) (by simp;omega) (by simp[z2]) (fun w=>pq _ _ _ z.M (by omega) w) (fun Z fl=>bV p (1-mx) mx one inf sg nan mode (fM mode (cu x y) z) Z fl) (fun ba ka qa bb kb qb w HX HY=>Qx h mode hm.1 hm.2 (cu x y) z hv t1 hp1 (by omega) (by rw[pe];omega) (by rw[pe];omega) (by omega) (by omega) ba ka qa bb kb qb HX HY) w
 ·have hO:∃o:bI,aGr mode x y z=o∧o.c=4:=by
   refine⟨_,rfl,?_⟩
   unfold aGr
   have:max (cu x y).c z.c=4:=by
    rcases(show 2*sg≤a∨2*sg≤b∨2*sg≤c by omega)with k|k|k
    ·have:=kD h hx k
     have m4:max x.c y.c=4:=by rw[this];dsimp only;omega
     have:(cu x y).c =4:=by rw[rG x y (by omega)];exact m4
     omega
    ·have:=kD h hy k
     have m4:max x.c y.c=4:=by rw[this];dsimp only;omega
     have:(cu x y).c =4:=by rw[rG x y (by omega)];exact m4
     omega
    ·have:=kD h hz k
     rw[this];dsimp only;omega
   rw[oz mode _ z (by omega)]
   exact this
  obtain⟨o,ho,ho4⟩:=hO
  unfold aGr at ho
  rw[ho]
  by_cases hab:a<2*sg∧b<2*sg
  ·refine(aHj f mode a b c (fun w=>nH h mode a b hm.1 hm.2 a0 hab.1 b0 hab.2 w) (fun w=>CG f c c0 (by
    rcases h with⟨rfl,rfl,rfl,rfl,rfl,rfl,rfl⟩|⟨rfl,rfl,rfl,rfl,rfl,rfl,rfl⟩
    ·exact .inr ⟨rfl,by omega⟩
    ·exfalso;omega) w) nan 1 (fun w=>cZ h w) w).mono ?_
   rintro e w' ⟨rfl,hg⟩
   exact⟨_,_,lH ho4,rfl,hg⟩
  ·refine(aFE f mode a b c (fun w=>dY f mode a b a0 a1 b0 b1 (qK h a1 b1 (by omega)) w) nan 1 (fun w=>cZ h w) w).mono ?_
   rintro e w' ⟨rfl,hg⟩
   exact⟨_,_,lH ho4,rfl,hg⟩
theorem aGN(f mode a b c:Int)(a0:0≤a)(a1:a<18446744073709551616)(b0:0≤b)(b1:b<18446744073709551616)(c0:0≤c)(c1:c<18446744073709551616)(w:World):
  CT 88 #[J Y f,J Y mode,J O a,J O b,J O c] w fun e w'=>∃Z fl,aGt f mode a b c Z fl∧e=V (X #[J O Z,J Y fl])∧Gb w w':=by
 by_cases hf:f=0∨f=1
 ·obtain⟨p,mx,one,inf,sg,nan,hF⟩:=kF f hf
  by_cases hm:0≤mode∧mode≤4
  ·obtain⟨x,hx⟩:=jk hF a a0 a1
   obtain⟨y,hy⟩:=jk hF b b0 b1
   obtain⟨z,hz⟩:=jk hF c c0 c1
   refine(aG3 hF mode a b c hm a0 a1 b0 b1 c0 c1 hx hy hz w).mono ?_
   rintro e w' ⟨Z,fl,hp,rfl,hg⟩
   exact⟨_,_,.inl ⟨p,mx,one,inf,sg,nan,x,y,z,hF,hm,hx,hy,hz,hp⟩,rfl,hg⟩
  ·refine(aFE f mode a b c (fun w=>dY f mode a b a0 a1 b0 b1 (.inl (by omega)) w) nan 1 (fun w=>cZ hF w) w).mono ?_
   rintro e w' ⟨rfl,hg⟩
   exact⟨_,_,.inr (.inl ⟨p,mx,one,inf,sg,nan,hF,by omega,rfl,rfl⟩),rfl,hg⟩
 ·refine(aFE f mode a b c (fun w=>dY f mode a b a0 a1 b0 b1 (.inr (.inl hf)) w) _ 1 (fun w=>oJ f hf w) w).mono ?_
  rintro e w' ⟨rfl,hg⟩
  exact⟨_,_,.inr (.inr ⟨hf,rfl,rfl⟩),rfl,hg⟩
theorem aHH(f mode a b c:Int)(a0:0≤a)(a1:a<18446744073709551616)(b0:0≤b)(b1:b<18446744073709551616)(c0:0≤c)(c1:c<18446744073709551616):
  ∃Z fl:Int,aGt f mode a b c Z fl∧(∀w,QB 88 #[J Y f,J Y mode,J O a,J O b,J O c] w (X #[J O Z,J Y fl]))∧
   (∀w,Fm w→QR 89 #[J Y f,J Y mode,J O a,J O b,J O c] w (X #[J O Z,J Y fl])):=by
 have hex:∃Z fl:Int,aGt f mode a b c Z fl:=by
  by_cases hf:f=0∨f=1
  ·obtain⟨p,mx,one,inf,sg,nan,hF⟩:=kF f hf
   by_cases hm:0≤mode∧mode≤4
   ·obtain⟨x,hx⟩:=jk hF a a0 a1
    obtain⟨y,hy⟩:=jk hF b b0 b1
    obtain⟨z,hz⟩:=jk hF c c0 c1
    obtain⟨v1,v2,v3,v4,v5,v6⟩:=dA hF hx
    obtain⟨u1,u2,u3,u4,u5,u6⟩:=dA hF hy
    obtain⟨t1,t2,t3,t4,t5,t6⟩:=dA hF hz
    obtain⟨r1,r2⟩:=Tn mode (cu x y) z (zG v1 u1 v6 u6 v4 v5 u4 u5) t1
    obtain⟨Z,fl,hp⟩:=Dw p (1-mx) mx one inf sg nan mode (aGr mode x y z) r1 r2
    exact⟨Z,fl,.inl ⟨p,mx,one,inf,sg,nan,x,y,z,hF,hm,hx,hy,hz,hp⟩⟩
   ·exact⟨_,_,.inr (.inl ⟨p,mx,one,inf,sg,nan,hF,by omega,rfl,rfl⟩)⟩
  ·exact⟨_,_,.inr (.inr ⟨hf,rfl,rfl⟩)⟩
 obtain⟨Z,fl,h⟩:=hex
 refine⟨Z,fl,h,fun w=>(aGN f mode a b c a0 a1 b0 b1 c0 c1 w).mono ?_,fun w hw=>(aGQ f mode a b c a0 a1 b0 b1 c0 c1 w hw).mono ?_⟩
 ·rintro e w' ⟨Z',qA,h',rfl,hg⟩
  obtain⟨rfl,rfl⟩:=aGt.one h h'
  exact⟨rfl,hg⟩
 ·rintro e w' ⟨Z',qA,h',rfl,hg⟩
  obtain⟨rfl,rfl⟩:=aGt.one h h'
  exact⟨rfl,hg⟩
