import Derived.Test.YtnbbfeknbfohhaaGreatDoorH4
import Derived.Test.YtnbbfeknbfohhaaGreatDoorC1
import Derived.Test.YtnbbfeknbfohhaaGreatDoorC0
import Derived.Test.YtnbbfeknbfohhaaGreatDoorU1
set_option linter.unusedVariables false
set_option linter.unusedSimpArgs false
set_option maxRecDepth 1000000
set_option maxHeartbeats 40000000
open Go.Value renaming int → J
open Go.IntKind renaming i64 → Y, u64 → O
open Go.Proofs.Tryz
namespace Go.Proofs.YtnbbfeknbfohhaaGreatDoor
open Go.RowKit
theorem KA(f mode a b:Int)(R:Int→Int→Prop){w:World}(HC:Hid (∀w',Gr w w'→CT 130 #[J Y f,J Y mode,.func (.func 169) #[] #[],J O a,J O b] w' fun e w''=>∃z fl,R z fl∧e=.returned (.agg #[J O z,J Y fl])∧Gr w' w'')):
  CT 80 #[J Y f,J Y mode,J O a,J O b] w fun e w'=>∃z fl,R z fl∧e=.returned (.agg #[J O z,J Y fl])∧Gr w w':=by
 go_enter func80,ntmps80
 go_wp2_with (go_at_call 130;refine(HC.out _ Gr.g).mono ?_;rintro e w1 ⟨z,fl,hr,rfl,aj⟩;obtain⟨bG,bK,cO,bJ⟩:=aj.y2 w.heap.size 0 1 (J O 0) (J Y 0))
 refine bodyPost_ret (v:=.agg #[J O z,J Y fl]) (by simp[results,Tryz.results80,go_sem,bG,cO]) rfl ⟨z,fl,hr,rfl,?_⟩
 exact Gr.g
theorem Ky(f mode a b:Int)(R:Int→Int→Prop){w:World}(HC:Hid (∀w',Gr w w'→CT 130 #[J Y f,J Y mode,.func (.func 174) #[] #[],J O a,J O b] w' fun e w''=>∃z fl,R z fl∧e=.returned (.agg #[J O z,J Y fl])∧Gr w' w'')):
  CT 86 #[J Y f,J Y mode,J O a,J O b] w fun e w'=>∃z fl,R z fl∧e=.returned (.agg #[J O z,J Y fl])∧Gr w w':=by
 go_enter func86,ntmps86
 go_wp2_with (go_at_call 130;refine(HC.out _ Gr.g).mono ?_;rintro e w1 ⟨z,fl,hr,rfl,aj⟩;obtain⟨bG,bK,cO,bJ⟩:=aj.y2 w.heap.size 0 1 (J O 0) (J Y 0))
 refine bodyPost_ret (v:=.agg #[J O z,J Y fl]) (by simp[results,Tryz.results86,go_sem,bG,cO]) rfl ⟨z,fl,hr,rfl,?_⟩
 exact Gr.g
theorem Gy(f mode a b:Int)(a0:0≤a)(a1:a<18446744073709551616)(b0:0≤b)(b1:b<18446744073709551616)(w:World)(hw:Fm w):
  CT 80 #[J Y f,J Y mode,J O a,J O b] w fun e w'=>∃Z fl,qm fM f mode a b Z fl∧e=.returned (.agg #[J O Z,J Y fl])∧Gr w w':=by
 refine KA f mode a b (qm fM f mode a b) (fun w' hg=>?_)
 have hw':=hw.gr hg
 by_cases hf:f=0∨f=1
 ·obtain⟨p,mx,one,inf,sg,nan,hF⟩:=kF f hf
  obtain⟨mn,fb,sp,hM,hmn,hfb⟩:=hF.m
  by_cases hm:0≤mode∧mode≤4
  ·obtain⟨k,hk⟩:=o9 mode hm.1 hm.2
   obtain⟨x,hx,HA⟩:=ny hF hM a a0 a1
   obtain⟨y,hy,HB⟩:=ny hF hM b b0 b1
   obtain⟨v1,v2,v3,v4,v5,v6⟩:=dA hF hx
   obtain⟨u1,u2,u3,u4,u5,u6⟩:=dA hF hy
   refine(Ej p mn mx mode f k 169 a b _ _ _ _ _ _ _ _ _ _ _ _ (fun w'' hg'=>gK hF hM mode k (fun w=>jQ mode k hk w) (hw'.gr hg')) HA HB (rC (fM mode x y)) (fun w=>yg p mn mx mode k x y v1 u1 w) (bV p mn mx one inf sg nan mode (fM mode x y)) (fun os oe oc oh ol ot w hq=>zH hM mode k hk _ os oe oc oh ol ot hq w)).mono ?_
   rintro e w'' ⟨Z,fl,hp,rfl,hg'⟩
   rw[hmn]at hp
   exact⟨_,_,.inl ⟨p,mx,one,inf,sg,nan,x,y,hF,hm,hx,hy,hp⟩,rfl,hg'⟩
  ·refine(lG p mn mx mode nan f mode a b (fun w'' hg'=>jm hF hM mode (fun w=>oC mode om w) (hw'.gr hg')) (fun w=>dI hM w) 169).mono ?_
   rintro e w'' ⟨rfl,hg'⟩
   exact⟨_,_,.inr (.inl ⟨p,mx,one,inf,sg,nan,hF,om,rfl,rfl⟩),rfl,hg'⟩
 ·refine(lG _ _ _ _ _ f mode a b (fun w'' hg'=>je f mode hf (hw'.gr hg')) (fun w=>dI m64 w) 169).mono ?_
  rintro e w'' ⟨rfl,hg'⟩
  exact⟨_,_,.inr (.inr ⟨hf,rfl,rfl⟩),rfl,hg'⟩
theorem yY{f p mx one inf sg nan:Int}(h:aI f p mx one inf sg nan)(mode a b:Int)(hm:0≤mode∧mode≤4)(a0:0≤a)(a1:a<18446744073709551616)(b0:0≤b)(b1:b<18446744073709551616){x y:bI}(hx:bZ p mx one inf sg nan a x)(hy:bZ p mx one inf sg nan b y)(w:World):
  CT 79 #[J Y f,J Y mode,J O a,J O b] w fun e w'=>∃Z fl,bV p (1-mx) mx one inf sg nan mode (fM mode x y) Z fl∧e=.returned (.agg #[J O Z,J Y fl])∧Gb w w':=by
 obtain⟨v1,v2,v3,v4,v5,v6⟩:=dA h hx
 obtain⟨u1,u2,u3,u4,u5,u6⟩:=dA h hy
 have xc0:=v1.c0
 have xc4:=v1.c4
 have yc0:=u1.c0
 have yc4:=u1.c4
 by_cases hfit:a<2*sg∧b<2*sg
 ·obtain⟨fa,RF⟩:=hfit
  have HF:KW 117 #[J Y f,J Y mode,J O a,J O b] (.bool true):=fun w=>nH h mode a b hm.1 hm.2 a0 fa b0 RF w
  have fB:=nS h a a0 fa hx
  have iq:=nS h b b0 RF hy
  have HQ:∀(z:bI) (t:Bool),t=decide (3≤z.c)→KR 118 #[.agg #[J Y z.c,J Y z.s,J Y z.e,J O (((z.M:Nat):Int))]] (.bool t):=fun z t ht w=>lS _ _ _ _ t ht w
  have wS:∀t:Bool,KR 119 #[J Y f,.bool t] (.agg #[J O nan,J Y (if t then 1 else 0)]):=fun t w=>rO h t _ rfl w
  by_cases c1:3≤x.c
  ·rw[oz mode x y (by omega)]
   by_cases c2:x.c=4
   ·refine(Pg f mode a b _ _ _ _ _ _ _ _ HF fB iq (HQ x true (by simp[c1])) (by simp[c2]) nan _ (wS true) w).mono ?_
    rintro e w' ⟨rfl,hg⟩
    exact⟨_,_,jG _ true (by simp;omega) om om,rfl,hg⟩
   ·refine(O_ f mode a b _ _ _ _ _ _ _ _ HF fB iq (HQ x true (by simp[c1])) (by simp[c2]) (decide (y.c=4)) (bq _ _) nan _ (wS _) w).mono ?_
    rintro e w' ⟨rfl,hg⟩
    exact⟨_,_,jG _ _ (by rw[decide_eq_decide];omega) om om,rfl,hg⟩
  ·by_cases c2:3≤y.c
   ·rw[oz mode x y (by omega)]
    refine(O9 f mode a b _ _ _ _ _ _ _ _ HF fB iq (HQ x false (by simp;omega)) (HQ y true (by simp[c2])) (by simp;omega) (decide (y.c=4)) (bq _ _) nan _ (wS _) w).mono ?_
    rintro e w' ⟨rfl,hg⟩
    exact⟨_,_,jG _ _ (by rw[decide_eq_decide];omega) om om,rfl,hg⟩
   ·have hQa:=HQ x false (by simp;omega)
    have hQb:=HQ y false (by simp;omega)
    by_cases c3:x.c=2
    ·by_cases c4:y.c=2
     ·by_cases c5:x.s=y.s
      ·refine(Pj f mode a b _ _ _ _ _ _ _ _ HF fB iq hQa hQb c3 c4 c5 (sw x.s sg inf) 0 (fun w=>eu h x.s v1.nN w) w).mono ?_
       rintro e w' ⟨rfl,hg⟩
       refine⟨_,_,?_,rfl,hg⟩
       unfold fM
       rw[if_neg (show ¬3≤max x.c y.c by omega),if_neg (show ¬y.c<x.c by omega),if_neg (show ¬x.c<y.c by omega),if_neg (show ¬x.c=1 by omega),if_pos c5]
       exact .inr (.inr (.inl ⟨c3,rfl,rfl⟩))
      ·refine(Po f mode a b _ _ _ _ _ _ _ _ HF fB iq hQa hQb c3 c4 (by simp[c5]) nan 1 (fun w=>cZ h w) w).mono ?_
       rintro e w' ⟨rfl,hg⟩
       refine⟨_,_,?_,rfl,hg⟩
       unfold fM
       rw[if_neg (show ¬3≤max x.c y.c by omega),if_neg (show ¬y.c<x.c by omega),if_neg (show ¬x.c<y.c by omega),if_neg (show ¬x.c=1 by omega),if_neg c5,if_pos c3]
       exact lH rfl
     ·refine(Pm f mode a b _ _ _ _ _ _ _ _ HF fB iq hQa hQb c3 (by simp[c4]) (sw x.s sg inf) 0 (fun w=>eu h x.s v1.nN w) w).mono ?_
      rintro e w' ⟨rfl,hg⟩
      refine⟨_,_,?_,rfl,hg⟩
      unfold fM
      rw[if_neg (show ¬3≤max x.c y.c by omega),if_pos (show y.c<x.c by omega)]
      exact .inr (.inr (.inl ⟨c3,rfl,rfl⟩))
    ·by_cases c4:y.c=2
     ·refine(Ph f mode a b _ _ _ _ _ _ _ _ HF fB iq hQa hQb (by simp[c3]) c4 (sw y.s sg inf) 0 (fun w=>eu h y.s u1.nN w) w).mono ?_
      rintro e w' ⟨rfl,hg⟩
      refine⟨_,_,?_,rfl,hg⟩
      unfold fM
      rw[if_neg (show ¬3≤max x.c y.c by omega),if_neg (show ¬y.c<x.c by omega),if_pos (show x.c<y.c by omega)]
      exact .inr (.inr (.inl ⟨c4,rfl,rfl⟩))
     ·exact TL f mode a b _ _ _ _ _ _ _ _ x.M y.M HF fB iq hQa hQb (by simp[c3]) (by simp[c4]) (fun w=>pq _ _ _ x.M om w) (fun w=>pq _ _ _ y.M om w) (fun Z fl=>bV p (1-mx) mx one inf sg nan mode (fM mode x y) Z fl) (fun ba ka qa bb kb qb w HX HY=>Qx h mode hm.1 hm.2 x y v1 u1 om om om om om om ba ka qa bb kb qb HX HY) w
 ·refine(zk f mode a b (fun w=>dY f mode a b a0 a1 b0 b1 (qK h a1 b1 om) w) nan 1 (fun w=>cZ h w) w).mono ?_
  rintro e w' ⟨rfl,hg⟩
  refine⟨_,_,?_,rfl,hg⟩
  have:max x.c y.c=4:=by
   rcases(show 2*sg≤a∨2*sg≤b by omega)with c|c
   ·have:=kD h hx c;subst this;dsimp only at*;omega
   ·have:=kD h hy c;subst this;dsimp only at*;omega
  rw[oz mode x y (by omega)]
  exact lH this
theorem Fa(f mode a b:Int)(a0:0≤a)(a1:a<18446744073709551616)(b0:0≤b)(b1:b<18446744073709551616)(w:World):
  CT 79 #[J Y f,J Y mode,J O a,J O b] w fun e w'=>∃Z fl,qm fM f mode a b Z fl∧e=.returned (.agg #[J O Z,J Y fl])∧Gb w w':=by
 by_cases hf:f=0∨f=1
 ·obtain⟨p,mx,one,inf,sg,nan,hF⟩:=kF f hf
  by_cases hm:0≤mode∧mode≤4
  ·obtain⟨x,hx⟩:=jk hF a a0 a1
   obtain⟨y,hy⟩:=jk hF b b0 b1
   refine(yY hF mode a b hm a0 a1 b0 b1 hx hy w).mono ?_
   rintro e w' ⟨Z,fl,hp,rfl,hg⟩
   exact⟨_,_,.inl ⟨p,mx,one,inf,sg,nan,x,y,hF,hm,hx,hy,hp⟩,rfl,hg⟩
  ·refine(zk f mode a b (fun w=>dY f mode a b a0 a1 b0 b1 (.inl om) w) nan 1 (fun w=>cZ hF w) w).mono ?_
   rintro e w' ⟨rfl,hg⟩
   exact⟨_,_,.inr (.inl ⟨p,mx,one,inf,sg,nan,hF,om,rfl,rfl⟩),rfl,hg⟩
 ·refine(zk f mode a b (fun w=>dY f mode a b a0 a1 b0 b1 (.inr (.inl hf)) w) _ 1 (fun w=>oJ f hf w) w).mono ?_
  rintro e w' ⟨rfl,hg⟩
  exact⟨_,_,.inr (.inr ⟨hf,rfl,rfl⟩),rfl,hg⟩
theorem add_same(f mode a b:Int)(a0:0≤a)(a1:a<18446744073709551616)(b0:0≤b)(b1:b<18446744073709551616):
  ∃Z fl:Int,qm fM f mode a b Z fl∧(∀w,QB 79 #[J Y f,J Y mode,J O a,J O b] w (.agg #[J O Z,J Y fl]))∧
   (∀w,Fm w→QR 80 #[J Y f,J Y mode,J O a,J O b] w (.agg #[J O Z,J Y fl])):=
 En fM 79 80 (fun mode x y hx hy _ _ _ _ _ _=>Tn mode x y hx hy) f mode a b a0 a1 b0 b1 (Fa f mode a b a0 a1 b0 b1) (Gy f mode a b a0 a1 b0 b1)
