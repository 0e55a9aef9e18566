import Derived.Test.YtnbbfeknbfohhaaGreatDoorR2
import Derived.Test.YtnbbfeknbfohhaaGreatDoorB0
import Derived.Test.YtnbbfeknbfohhaaGreatDoorA6
import Derived.Test.YtnbbfeknbfohhaaGreatDoorA7
import Derived.Deep.DeepCutAuto
set_option linter.unusedVariables false
set_option linter.unusedSimpArgs false
set_option maxRecDepth 1000000
set_option maxHeartbeats 40000000
open Go.Value renaming int → J, agg → X, slice → E, bool → U
open Go.IntKind renaming i64 → Y, u64 → O
open Go.Ending renaming returned → V
open Go.Proofs.Tryz
namespace Go.Proofs.YtnbbfeknbfohhaaGreatDoor
open Go.RowKit
theorem lS(c s x g:Int)(b:Bool)(hb:b=decide (3≤c))(w:World):
  QR 118 #[X #[J Y c,J Y s,J Y x,J O g]] w (U b):=by
 have hB:Hid (b=decide (3≤c)):=hb
 clear hb
 go_enter func118,ntmps118
 go_wp2
 go_returns
 exact⟨aU (congrArg Value.bool (by rw[hB.out])),kr⟩
theorem Qy{f p mx one inf sg nan:Int}(h:aI f p mx one inf sg nan)(w:World):
  QR 119 #[J Y f,U true] w (X #[J O nan,J Y 1]):=by
 have HB:KR 63 #[J Y f] (X #[J O nan,J Y 1]):=fun w=>cZ h w
 clear h
 go_enter func119,ntmps119
 go_wp2_with (go_at_call 63;refine(HB.out _).mono ?_;rintro x w1 ⟨rfl,hg1⟩;obtain⟨bG,BN,cO,BM⟩:kJ w1 w.heap.size 0 1 (J O 0) (J Y 0):=⟨kq,kq,kq,kq⟩)
 refine bodyPost_ret (v:=X #[J O nan,J Y 1]) (by simp[results,Tryz.results119,go_sem,bG,cO]) rfl ⟨rfl,?_⟩
 exact kr
theorem Uy{f p mx one inf sg nan:Int}(h:aI f p mx one inf sg nan)(w:World):
  QR 119 #[J Y f,U false] w (X #[J O nan,J Y 0]):=by
 have HB:KW 113 #[J Y f] (J O nan):=fun w=>gX h w
 clear h
 go_enter func119,ntmps119
 go_wp2_with (go_at_call 113;refine kw (HB.out _) ?_)
 go_returns
 exact⟨rfl,kr⟩
theorem rO{f p mx one inf sg nan:Int}(h:aI f p mx one inf sg nan)(b:Bool)(fl:Int)(hb:fl=if b then 1 else 0)(w:World):
  QR 119 #[J Y f,U b] w (X #[J O nan,J Y fl]):=by
 cases b
 ·subst hb;exact Uy h w
 ·subst hb;exact Qy h w
theorem jS{f p mx one inf sg nan:Int}(h:aI f p mx one inf sg nan)(sign:Int)(hs:sign=0∨sign=1)(w:World):
  QR 64 #[J Y f,J Y sign] w (X #[J O (sw sign sg 0),J Y 0]):=by
 have hb:=h.bounds
 have mM:KW 151 #[J Y f,J Y sign,J O 0] (J O (sw sign sg 0)):=fun w'=>oH h sign 0 _ (by
  unfold sw
  rcases hs with rfl|rfl
  ·exact .inl ⟨rfl,by simp⟩
  ·exact .inr ⟨rfl,by simp⟩) om om w'
 clear h hb
 generalize sw sign sg 0=Z at*
 go_enter func64,ntmps64
 go_wp2_with (go_at_call 151;refine kw (mM.out _) ?_)
 go_returns
 exact⟨rfl,kr⟩
theorem eu{f p mx one inf sg nan:Int}(h:aI f p mx one inf sg nan)(sign:Int)(hs:sign=0∨sign=1)(w:World):
  QR 167 #[J Y f,J Y sign] w (X #[J O (sw sign sg inf),J Y 0]):=by
 have hb:=h.bounds
 have mM:KW 151 #[J Y f,J Y sign,J O inf] (J O (sw sign sg inf)):=fun w'=>oH h sign inf _ (by
  unfold sw
  rcases hs with rfl|rfl
  ·exact .inl ⟨rfl,by simp⟩
  ·exact .inr ⟨rfl,by simp⟩) om om w'
 have HI:KW 112 #[J Y f] (J O inf):=fun w=>dQ h w
 clear h hb
 generalize sw sign sg inf=Z at*
 go_enter func167,ntmps167
 go_wp2_with (first
  |(go_at_call 112;refine kw (HI.out _) ?_)
  |(go_at_call 151;refine kw (mM.out _) ?_))
 go_returns
 exact⟨rfl,kr⟩
theorem nH{f p mx one inf sg nan:Int}(h:aI f p mx one inf sg nan)(mode a b:Int)(m0:0≤mode)(m1:mode≤4)(a0:0≤a)(a1:a<2*sg)(b0:0≤b)(b1:b<2*sg)(w:World):
  QW 117 #[J Y f,J Y mode,J O a,J O b] w (U true):=by
 have HW:KW 62 #[J Y mode] (U true):=fun w=>mO mode true (decide_eq_true ⟨m0,m1⟩).symm w
 have HF:Hid (∀v w,0≤v→v<2*sg→QW 110 #[J Y f,J O v] w (U true)):=fun v w v0 v1=>dB h v v0 v1 w
 clear h
 go_enter func117,ntmps117
 go_wp2_with (first
  |(go_at_call 62;refine kw (HW.out _) ?_)
  |(go_at_call 110;refine kw (HF.out _ _ om om) ?_))
 go_returns
 exact⟨rfl,rfl⟩
def V5(f mode a b:Int):Prop:=(mode<0∨4<mode)∨¬(f=0∨f=1)∨f=0∧4294967296≤a∨f=0∧4294967296≤b
theorem dY(f mode a b:Int)(a0:0≤a)(a1:a<18446744073709551616)(b0:0≤b)(b1:b<18446744073709551616)(h:V5 f mode a b)(w:World):
  QW 117 #[J Y f,J Y mode,J O a,J O b] w (U false):=by
 have Ro:∀v,0≤v→v<18446744073709551616→KW 110 #[J Y f,J O v] (U true)∨KW 110 #[J Y f,J O v] (U false)∧(¬(f=0∨f=1)∨(f=0∧4294967296≤v)):=by
  intro v v0 v1
  rcases aBa f v v0 v1 with⟨p,mx,one,inf,sg,nan,hF,hv⟩|hn
  ·exact .inl (fun w=>dB hF v v0 hv w)
  ·exact .inr ⟨fun w=>CG f v v0 hn w,hn⟩
 have hFf:∀v,0≤v→(¬(f=0∨f=1)∨(f=0∧4294967296≤v))→KW 110 #[J Y f,J O v] (U false):=fun v v0 hn w=>CG f v v0 hn w
 by_cases hm:0≤mode∧mode≤4
 ·have HW:KW 62 #[J Y mode] (U true):=fun w=>mO mode true (decide_eq_true hm).symm w
  rcases Ro a a0 a1 with HA|⟨HA,_⟩
  ·have hnb:¬(f=0∨f=1)∨(f=0∧4294967296≤b)∨(f=0∧4294967296≤a):=by
    rcases h with h|h|h|h
    ·omega
    ·exact .inl h
    ·exact .inr (.inr h)
    ·exact .inr (.inl h)
   by_cases hb:¬(f=0∨f=1)∨(f=0∧4294967296≤b)
   ·have HB:=hFf b b0 hb
    clear Ro hFf h hnb hb
    go_enter func117,ntmps117
    go_wp2_with (first
     |(go_at_call 62;refine kw (HW.out _) ?_)
     |(go_at_call 110;first|(with_reducible refine kw (HA.out _) ?_)|(with_reducible refine kw (HB.out _) ?_)))
    go_returns
    exact⟨rfl,rfl⟩
   ·have HA':=hFf a a0 om
    clear Ro hFf h hnb hb HA
    go_enter func117,ntmps117
    go_wp2_with (first
     |(go_at_call 62;refine kw (HW.out _) ?_)
     |(go_at_call 110;refine kw (HA'.out _) ?_))
    go_returns
    exact⟨rfl,rfl⟩
  ·clear Ro hFf h
   go_enter func117,ntmps117
   go_wp2_with (first
    |(go_at_call 62;refine kw (HW.out _) ?_)
    |(go_at_call 110;refine kw (HA.out _) ?_))
   go_returns
   exact⟨rfl,rfl⟩
 ·have HW:KW 62 #[J Y mode] (U false):=fun w=>mO mode false (decide_eq_false hm).symm w
  clear Ro hFf h
  go_enter func117,ntmps117
  go_wp2_with (go_at_call 62;refine kw (HW.out _) ?_)
  go_returns
  exact⟨rfl,rfl⟩
theorem b_{K:Nat}{F:Nat}{args:Array Value}{w:World}{N:Nat}(h:Calls Tryz.prog F args w fun e w'=>∃v' k,e=V v'∧Big w' v' k N∧k≤K∧Gb w w'):
  Calls Tryz.prog F args w fun e w'=>∃b k c,aB K w' (E (some ⟨b,0,none⟩) k c) N∧e=V (E (some ⟨b,0,none⟩) k c)∧Gb w w':=h.mono (fun x w' ⟨v',k,a1,a2,a3,a4⟩=>by
 obtain⟨b,c,rfl,_⟩:=Big.shape a2
 exact⟨b,k,c,⟨k,a3,a2⟩,a1,a4⟩)
theorem aB.le{K L:Nat}{w:World}{v:Value}{N:Nat}(h:aB K w v N)(k:K≤L):aB L w v N:=by
 obtain⟨n,a,b⟩:=h
 exact⟨n,om,b⟩
theorem aB.st{K:Nat}{w:World}{v:Value}{N:Nat}(h:aB K w v N){r o:Nat}{u0:Value}(u:Value)(h0:w.cell? ⟨r,o,none⟩=some u0)(hu:∀d,u0≠J .u32 d):aB K (w.setCell ⟨r,o,none⟩ u) v N:=by
 obtain⟨n,hn,hnm,hN,b,cap,rfl,hcap,hmx,hcell⟩:=h
 refine⟨n,hn,hnm,hN,b,cap,rfl,hcap,hmx,fun j hj=>?_⟩
 have:=hcell j hj
 by_cases e:r=b∧o=j
 ·obtain⟨rfl,rfl⟩:=e
  rw[h0]at this
  exact absurd (Option.some.inj this) (hu _)
 ·rw[World.cell?_setCell_other]
  ·exact this
  ·intro e';injection e' with e1 e2 e3;exact e ⟨om,om⟩
theorem aB.Rz{K:Nat}{w:World}{v:Value}{N:Nat}(h:aB K w v N){r:Nat}{x0 x2:Int}{x3:Bool}{u0 u1 u2 u3:Value}(h0:w.cell? ⟨r,0,none⟩=some (J Y x0))(h1:w.cell? ⟨r,1,none⟩=some (E none 0 0))(h2:w.cell? ⟨r,2,none⟩=some (J Y x2))(h3:w.cell? ⟨r,3,none⟩=some (U x3)):
  aB K ((((w.setCell ⟨r,0,none⟩ u0).setCell ⟨r,1,none⟩ u1).setCell ⟨r,2,none⟩ u2).setCell ⟨r,3,none⟩ u3) v N:=
 (((h.st u0 h0 (fun d e=>by cases e)).st u1 (aS om h1) (fun d e=>by cases e)).st u2 (aS om (aS om h2)) (fun d e=>by cases e)).st u3 (aS om (aS om (aS om h3))) (fun d e=>by cases e)
theorem pq(c s x:Int)(G:Nat)(hG:G<18446744073709551616)(w:World):
  CT 121 #[X #[J Y c,J Y s,J Y x,J O ((G:Nat))]] w fun e w'=>∃b k cc,aB 2 w' (E (some ⟨b,0,none⟩) k cc) G∧e=V (X #[J Y s,E (some ⟨b,0,none⟩) k cc,J Y x,U false])∧Gb w w':=by
 have HB:Hid (∀w,CT 150 #[J O (G:Nat)] w fun e w'=>∃b k c,aB 2 w' (E (some ⟨b,0,none⟩) k c) G∧e=V (E (some ⟨b,0,none⟩) k c)∧Gb w w'):=fun w=>b_ (dU G hG w)
 generalize((G:Nat):Int)=g at*
 go_enter func121,ntmps121
 go_wp2
 go_region_held3 (fun w'=>w'.cell? ⟨w.heap.size,0,none⟩=some (J Y c)∧w'.cell? ⟨w.heap.size,1,none⟩=some (J Y s)∧w'.cell? ⟨w.heap.size,2,none⟩=some (J Y x)∧w'.cell? ⟨w.heap.size,3,none⟩=some (J O g))
  ((go_split_ands;(repeat' apply And.intro)<;>exact kh))
  (first|(go_at_call 150;refine(HB.out _).mono ?_;rintro e w1 ⟨b,k,cc,hbig,rfl,aj⟩;obtain⟨bG,bK,cO,bJ,iW,d_,ar3,dZ⟩:=aj.y4 (w.heap.size+1) 0 1 2 3 (J Y 0) (E none 0 0) (J Y 0) (U false)))
 all_goals (try go_split_ands)
 all_goals go_wp2
 all_goals
  refine bodyPost_ret (v:=X #[J Y s,E (some ⟨b,0,none⟩) k cc,J Y x,U false]) (by simp[results,Tryz.results121,go_sem,bG,cO,iW,ar3]) rfl ⟨b,k,cc,?_,rfl,?_⟩
  ·exact hbig.Rz bG cO iW ar3
  ·exact Gb.g
theorem YR{P:Prop}(h:P:=by
 refine bodyPost_ret (v:=X #[J Y sx,E (some ⟨b4,0,none⟩) k4 c4,J Y ey,U false]) (by simp[results,Tryz.results215,go_sem,vH,vG,BJ,BI]) rfl ⟨b4,k4,c4,?_,rfl,?_⟩
 ·exact hb4.Rz vH vG BJ BI
 ·exact Gb.g):P:=h
theorem YS{P:Prop}(h:P:=by
 refine bodyPost_ret (v:=X #[J Y sx,E (some ⟨b4,0,none⟩) k4 c4,J Y ex,U false]) (by simp[results,Tryz.results215,go_sem,vH,vG,BJ,BI]) rfl ⟨b4,k4,c4,?_,rfl,?_⟩
 ·exact hb4.Rz vH vG BJ BI
 ·exact Gb.g):P:=h
def aAc(sx sy:Int)(a b:Nat)(sT:Int)(MT:Nat):Prop:=sx=sy∧sT=sx∧MT=a+b∨sx≠sy∧b≤a∧sT=sx∧MT=a-b∨sx≠sy∧a<b∧sT=sy∧MT=b-a
structure TC:Prop where
 shl:∀v (N:Nat) (z:Int) (s:Nat) w,aB 4 w v N→z=(s:Int)→s≤10000→CT 180 #[v,J Y z] w fun e w'=>∃b k c,aB 400 w' (E (some ⟨b,0,none⟩) k c) (N*2^s)∧e=V (E (some ⟨b,0,none⟩) k c)∧Gb w w'
 add:∀v v' (N N':Nat) w,aB 400 w v N→aB 400 w v' N'→CT 203 #[v,v'] w fun e w'=>∃b k c,aB 1000 w' (E (some ⟨b,0,none⟩) k c) (N+N')∧e=V (E (some ⟨b,0,none⟩) k c)∧Gb w w'
 sub:∀v v' (N N':Nat) w,aB 400 w v N→aB 400 w v' N'→N'≤N→CT 191 #[v,v'] w fun e w'=>∃b k c,aB 1000 w' (E (some ⟨b,0,none⟩) k c) (N-N')∧e=V (E (some ⟨b,0,none⟩) k c)∧Gb w w'
 cmp:∀v v' (N N':Nat) w,aB 400 w v N→aB 400 w v' N'→QB 129 #[v,v'] w (J Y (eG N N'))
theorem tc:TC where
 shl:=fun v N z s w ⟨n,a1,a2⟩ hz hs=>by subst hz;exact b_ ((eP a2 om s om).mono (fun e w' ⟨v,k,c1,c2,c3,c4⟩=>⟨v,k,c1,c2,om,c4⟩))
 add:=fun v v' N N' w ⟨n,a1,a2⟩ ⟨n',b1,b2⟩=>b_ ((wI a2 om b2 om).mono (fun e w' ⟨v,k,c1,c2,c3,c4⟩=>⟨v,k,c1,c2,om,c4⟩))
 sub:=fun v v' N N' w ⟨n,a1,a2⟩ ⟨n',b1,b2⟩ h=>b_ ((kV a2 om b2 om h).mono (fun e w' ⟨v,k,c1,c2,c3,c4⟩=>⟨v,k,c1,c2,om,c4⟩))
 cmp:=fun v v' N N' w ⟨n,a1,a2⟩ ⟨n',b1,b2⟩=>gY a2 om b2 om
theorem BF(sx sy ex ey:Int)(bx kx cx gy ky cy:Nat)(Mx My A B:Nat){w:World}(HX:Hid (aB 4 w (E (some ⟨bx,0,none⟩) kx cx) Mx))(HY:Hid (aB 4 w (E (some ⟨gy,0,none⟩) ky cy) My))(x0:-4000≤ex)(x1:ex≤4000)(y0:-4000≤ey)(y1:ey≤4000)(hle:ex≤ey)(d:Nat)(hd:ey-ex=(d:Int))(hA:A=Mx)(hB:B=My*2^d)(hs:sx=sy):
  CT 215 #[X #[J Y sx,E (some ⟨bx,0,none⟩) kx cx,J Y ex,U false],X #[J Y sy,E (some ⟨gy,0,none⟩) ky cy,J Y ey,U false]] w fun e w'=>∃b k c,aB 1000 w' (E (some ⟨b,0,none⟩) k c) (A+B)∧e=V (X #[J Y sx,E (some ⟨b,0,none⟩) k c,J Y ex,U false])∧Gb w w':=by
 have HT:Hid TC:=tc
 obtain⟨dz,hdz⟩:∃dz:Int,ey-ex=dz:=⟨_,rfl⟩
 have u1:IntKind.i64.wrap (ey-ex)=dz:=by rw[hdz,IntKind.wrap_i64];omega
 have hdn:Hid (dz=(d:Int)):=by show _=_;omega
 have hd9:Hid (d≤10000):=by show _≤_;omega
 have hA':Hid (A=Mx):=hA
 have hB':Hid (B=My*2^d):=hB
 clear hd hdz hA hB
 subst hs
 go_enter func215,ntmps215
 go_wp2_with (first
  |(go_at_call 180;with_reducible refine(TC.shl HT.out _ _ _ 0 _ (aB.gb HX.out Gb.g) om om).mono ?_;rintro e w1 ⟨bx1,UC,nO,hb0,rfl,aj⟩;have hbx:aB 400 w1 (E (some ⟨bx1,0,none⟩) UC nO) A:=(by rw[hA'.out];simpa using hb0);clear hb0;obtain⟨AY,AX,oQ,Ih⟩:=aj.e4 w.heap.size 0 1 2 3 (J Y sx) (E (some ⟨bx,0,none⟩) kx cx) (J Y ex) (U false);obtain⟨Et,Oh,sK,Og⟩:=aj.e4 (w.heap.size+1) 0 1 2 3 (J Y sx) (E (some ⟨gy,0,none⟩) ky cy) (J Y ey) (U false);obtain⟨bG,bK,cO,bJ,iW,d_,ar3,dZ⟩:=aj.y4 (w.heap.size+1+1) 0 1 2 3 (J Y 0) (E none 0 0) (J Y 0) (U false))
  |(go_at_call 180;with_reducible refine(TC.shl HT.out _ _ _ d _ (aB.gb HY.out Gb.g) (by exact hdn.out) hd9.out).mono ?_;rintro e w2 ⟨BL,UA,CQ,hb0,rfl,ak⟩;have hby:aB 400 w2 (E (some ⟨BL,0,none⟩) UA CQ) B:=(by rw[hB'.out];exact hb0);clear hb0;obtain⟨bx0,bx1,ug,IC⟩:=ak.e4 w.heap.size 0 1 2 3 (J Y sx) (E (some ⟨bx,0,none⟩) kx cx) (J Y ex) (U false);obtain⟨by0,BL,L9,by3⟩:=ak.e4 (w.heap.size+1) 0 1 2 3 (J Y sx) (E (some ⟨gy,0,none⟩) ky cy) (J Y ey) (U false);obtain⟨iF,h_,jh,g_,lZ,jM,lY,jL⟩:=ak.y4 (w.heap.size+1+1) 0 1 2 3 (J Y 0) (E none 0 0) (J Y 0) (U false)))
 go_region_held3 (fun w'=>w'.cell? ⟨w.heap.size,0,none⟩=some (J Y sx)∧w'.cell? ⟨w.heap.size+1,0,none⟩=some (J Y sx))
  ((go_split_ands;(repeat' apply And.intro)<;>exact kh))
  (first|(go_at_call 203;refine(TC.add HT.out _ _ A B _ (aB.gb hbx Gb.g) (aB.gb hby Gb.g)).mono ?_;rintro e w4 ⟨b4,k4,c4,hb4,rfl,aF⟩;obtain⟨vH,wK,vG,wJ,BJ,Af,BI,Ae⟩:=aF.y4 (w.heap.size+1+1) 0 1 2 3 (J Y 0) (E none 0 0) (J Y 0) (U false)))
 all_goals (try go_split_ands)
 all_goals go_wp2
 all_goals
  exact YS
theorem DY(sx sy ex ey:Int)(bx kx cx gy ky cy:Nat)(Mx My A B:Nat){w:World}(HX:Hid (aB 4 w (E (some ⟨bx,0,none⟩) kx cx) Mx))(HY:Hid (aB 4 w (E (some ⟨gy,0,none⟩) ky cy) My))(x0:-4000≤ex)(x1:ex≤4000)(y0:-4000≤ey)(y1:ey≤4000)(hle:ex≤ey)(d:Nat)(hd:ey-ex=(d:Int))(hA:A=Mx)(hB:B=My*2^d)(hs:sx≠sy)(hab:B≤A):
  CT 215 #[X #[J Y sx,E (some ⟨bx,0,none⟩) kx cx,J Y ex,U false],X #[J Y sy,E (some ⟨gy,0,none⟩) ky cy,J Y ey,U false]] w fun e w'=>∃b k c,aB 1000 w' (E (some ⟨b,0,none⟩) k c) (A-B)∧e=V (X #[J Y sx,E (some ⟨b,0,none⟩) k c,J Y ex,U false])∧Gb w w':=by
 have HT:Hid TC:=tc
 obtain⟨dz,hdz⟩:∃dz:Int,ey-ex=dz:=⟨_,rfl⟩
 have u1:IntKind.i64.wrap (ey-ex)=dz:=by rw[hdz,IntKind.wrap_i64];omega
 have hdn:Hid (dz=(d:Int)):=by show _=_;omega
 have hd9:Hid (d≤10000):=by show _≤_;omega
 have hA':Hid (A=Mx):=hA
 have hB':Hid (B=My*2^d):=hB
 clear hd hdz hA hB
 have c1:(sx==sy)=false:=by simp[hs]
 have c2:Hid (B≤A):=hab
 clear hab hs
 go_enter func215,ntmps215
 have c3:0≤eG A B:=by have:=c2.out;unfold eG;split<;>(try split)<;>omega
 generalize hq:eG A B=q at*
 have hq':Hid (eG A B=q):=hq
 clear hq
 go_wp2_with (first
  |(go_at_call 180;with_reducible refine(TC.shl HT.out _ _ _ 0 _ (aB.gb HX.out Gb.g) om om).mono ?_;rintro e w1 ⟨bx1,UC,nO,hb0,rfl,aj⟩;have hbx:aB 400 w1 (E (some ⟨bx1,0,none⟩) UC nO) A:=(by rw[hA'.out];simpa using hb0);clear hb0;obtain⟨AY,AX,oQ,Ih⟩:=aj.e4 w.heap.size 0 1 2 3 (J Y sx) (E (some ⟨bx,0,none⟩) kx cx) (J Y ex) (U false);obtain⟨Et,Oh,sK,Og⟩:=aj.e4 (w.heap.size+1) 0 1 2 3 (J Y sy) (E (some ⟨gy,0,none⟩) ky cy) (J Y ey) (U false);obtain⟨bG,bK,cO,bJ,iW,d_,ar3,dZ⟩:=aj.y4 (w.heap.size+1+1) 0 1 2 3 (J Y 0) (E none 0 0) (J Y 0) (U false))
  |(go_at_call 180;with_reducible refine(TC.shl HT.out _ _ _ d _ (aB.gb HY.out Gb.g) (by exact hdn.out) hd9.out).mono ?_;rintro e w2 ⟨BL,UA,CQ,hb0,rfl,ak⟩;have hby:aB 400 w2 (E (some ⟨BL,0,none⟩) UA CQ) B:=(by rw[hB'.out];exact hb0);clear hb0;obtain⟨bx0,bx1,ug,IC⟩:=ak.e4 w.heap.size 0 1 2 3 (J Y sx) (E (some ⟨bx,0,none⟩) kx cx) (J Y ex) (U false);obtain⟨by0,BL,L9,by3⟩:=ak.e4 (w.heap.size+1) 0 1 2 3 (J Y sy) (E (some ⟨gy,0,none⟩) ky cy) (J Y ey) (U false);obtain⟨iF,h_,jh,g_,lZ,jM,lY,jL⟩:=ak.y4 (w.heap.size+1+1) 0 1 2 3 (J Y 0) (E none 0 0) (J Y 0) (U false))
  |(go_at_call 129;refine(TC.cmp HT.out _ _ A B _ (aB.gb hbx Gb.g) (aB.gb hby Gb.g)).mono ?_;rintro e w3 ⟨he,aA⟩;rw[hq'.out]at he;subst he;obtain⟨vO,nO,tY,yC⟩:=aA.e4 w.heap.size 0 1 2 3 (J Y sx) (E (some ⟨bx,0,none⟩) kx cx) (J Y ex) (U false);obtain⟨cy0,CQ,cy2,cy3⟩:=aA.e4 (w.heap.size+1) 0 1 2 3 (J Y sy) (E (some ⟨gy,0,none⟩) ky cy) (J Y ey) (U false);obtain⟨lV,kZ,nX,kY,qX,nK,cr3,nJ⟩:=aA.y4 (w.heap.size+1+1) 0 1 2 3 (J Y 0) (E none 0 0) (J Y 0) (U false)))
 go_region_held3 (fun w'=>w'.cell? ⟨w.heap.size,0,none⟩=some (J Y sx)∧w'.cell? ⟨w.heap.size+1,0,none⟩=some (J Y sy))
  ((go_split_ands;(repeat' apply And.intro)<;>exact kh))
  (first|(go_at_call 191;refine(TC.sub HT.out _ _ A B _ (aB.gb hbx Gb.g) (aB.gb hby Gb.g) c2.out).mono ?_;rintro e w4 ⟨b4,k4,c4,hb4,rfl,aF⟩;obtain⟨vH,wK,vG,wJ,BJ,Af,BI,Ae⟩:=aF.y4 (w.heap.size+1+1) 0 1 2 3 (J Y 0) (E none 0 0) (J Y 0) (U false)))
 all_goals (try go_split_ands)
 all_goals go_wp2
 all_goals
  exact YS
theorem DX(sx sy ex ey:Int)(bx kx cx gy ky cy:Nat)(Mx My A B:Nat){w:World}(HX:Hid (aB 4 w (E (some ⟨bx,0,none⟩) kx cx) Mx))(HY:Hid (aB 4 w (E (some ⟨gy,0,none⟩) ky cy) My))(x0:-4000≤ex)(x1:ex≤4000)(y0:-4000≤ey)(y1:ey≤4000)(hle:ex≤ey)(d:Nat)(hd:ey-ex=(d:Int))(hA:A=Mx)(hB:B=My*2^d)(hs:sx≠sy)(hab:A<B):
  CT 215 #[X #[J Y sx,E (some ⟨bx,0,none⟩) kx cx,J Y ex,U false],X #[J Y sy,E (some ⟨gy,0,none⟩) ky cy,J Y ey,U false]] w fun e w'=>∃b k c,aB 1000 w' (E (some ⟨b,0,none⟩) k c) (B-A)∧e=V (X #[J Y sy,E (some ⟨b,0,none⟩) k c,J Y ex,U false])∧Gb w w':=by
 have HT:Hid TC:=tc
 obtain⟨dz,hdz⟩:∃dz:Int,ey-ex=dz:=⟨_,rfl⟩
 have u1:IntKind.i64.wrap (ey-ex)=dz:=by rw[hdz,IntKind.wrap_i64];omega
 have hdn:Hid (dz=(d:Int)):=by show _=_;omega
 have hd9:Hid (d≤10000):=by show _≤_;omega
 have hA':Hid (A=Mx):=hA
 have hB':Hid (B=My*2^d):=hB
 clear hd hdz hA hB
 have c1:(sx==sy)=false:=by simp[hs]
 have c2:Hid (A<B):=hab
 clear hab hs
 go_enter func215,ntmps215
 have c3:eG A B<0:=by have:=c2.out;unfold eG;rw[if_pos (by omega)];omega
 generalize hq:eG A B=q at*
 have hq':Hid (eG A B=q):=hq
 clear hq
 go_wp2_with (first
  |(go_at_call 180;with_reducible refine(TC.shl HT.out _ _ _ 0 _ (aB.gb HX.out Gb.g) om om).mono ?_;rintro e w1 ⟨bx1,UC,nO,hb0,rfl,aj⟩;have hbx:aB 400 w1 (E (some ⟨bx1,0,none⟩) UC nO) A:=(by rw[hA'.out];simpa using hb0);clear hb0;obtain⟨AY,AX,oQ,Ih⟩:=aj.e4 w.heap.size 0 1 2 3 (J Y sx) (E (some ⟨bx,0,none⟩) kx cx) (J Y ex) (U false);obtain⟨Et,Oh,sK,Og⟩:=aj.e4 (w.heap.size+1) 0 1 2 3 (J Y sy) (E (some ⟨gy,0,none⟩) ky cy) (J Y ey) (U false);obtain⟨bG,bK,cO,bJ,iW,d_,ar3,dZ⟩:=aj.y4 (w.heap.size+1+1) 0 1 2 3 (J Y 0) (E none 0 0) (J Y 0) (U false))
  |(go_at_call 180;with_reducible refine(TC.shl HT.out _ _ _ d _ (aB.gb HY.out Gb.g) (by exact hdn.out) hd9.out).mono ?_;rintro e w2 ⟨BL,UA,CQ,hb0,rfl,ak⟩;have hby:aB 400 w2 (E (some ⟨BL,0,none⟩) UA CQ) B:=(by rw[hB'.out];exact hb0);clear hb0;obtain⟨bx0,bx1,ug,IC⟩:=ak.e4 w.heap.size 0 1 2 3 (J Y sx) (E (some ⟨bx,0,none⟩) kx cx) (J Y ex) (U false);obtain⟨by0,BL,L9,by3⟩:=ak.e4 (w.heap.size+1) 0 1 2 3 (J Y sy) (E (some ⟨gy,0,none⟩) ky cy) (J Y ey) (U false);obtain⟨iF,h_,jh,g_,lZ,jM,lY,jL⟩:=ak.y4 (w.heap.size+1+1) 0 1 2 3 (J Y 0) (E none 0 0) (J Y 0) (U false))
  |(go_at_call 129;refine(TC.cmp HT.out _ _ A B _ (aB.gb hbx Gb.g) (aB.gb hby Gb.g)).mono ?_;rintro e w3 ⟨he,aA⟩;rw[hq'.out]at he;subst he;obtain⟨vO,nO,tY,yC⟩:=aA.e4 w.heap.size 0 1 2 3 (J Y sx) (E (some ⟨bx,0,none⟩) kx cx) (J Y ex) (U false);obtain⟨cy0,CQ,cy2,cy3⟩:=aA.e4 (w.heap.size+1) 0 1 2 3 (J Y sy) (E (some ⟨gy,0,none⟩) ky cy) (J Y ey) (U false);obtain⟨lV,kZ,nX,kY,qX,nK,cr3,nJ⟩:=aA.y4 (w.heap.size+1+1) 0 1 2 3 (J Y 0) (E none 0 0) (J Y 0) (U false)))
 go_region_held3 (fun w'=>w'.cell? ⟨w.heap.size,0,none⟩=some (J Y sx)∧w'.cell? ⟨w.heap.size+1,0,none⟩=some (J Y sy))
  ((go_split_ands;(repeat' apply And.intro)<;>exact kh))
  (first|(go_at_call 191;refine(TC.sub HT.out _ _ B A _ (aB.gb hby Gb.g) (aB.gb hbx Gb.g) (Nat.le_of_lt c2.out)).mono ?_;rintro e w4 ⟨b4,k4,c4,hb4,rfl,aF⟩;obtain⟨vH,wK,vG,wJ,BJ,Af,BI,Ae⟩:=aF.y4 (w.heap.size+1+1) 0 1 2 3 (J Y 0) (E none 0 0) (J Y 0) (U false)))
 all_goals (try go_split_ands)
 all_goals go_wp2
 all_goals
  refine bodyPost_ret (v:=X #[J Y sy,E (some ⟨b4,0,none⟩) k4 c4,J Y ex,U false]) (by simp[results,Tryz.results215,go_sem,vH,vG,BJ,BI]) rfl ⟨b4,k4,c4,?_,rfl,?_⟩
  ·exact hb4.Rz vH vG BJ BI
  ·exact Gb.g
theorem BD(sx sy ex ey:Int)(bx kx cx gy ky cy:Nat)(Mx My A B:Nat){w:World}(HX:Hid (aB 4 w (E (some ⟨bx,0,none⟩) kx cx) Mx))(HY:Hid (aB 4 w (E (some ⟨gy,0,none⟩) ky cy) My))(x0:-4000≤ex)(x1:ex≤4000)(y0:-4000≤ey)(y1:ey≤4000)(hlt:ey<ex)(d:Nat)(hd:ex-ey=(d:Int))(hA:A=Mx*2^d)(hB:B=My)(hs:sx=sy):
  CT 215 #[X #[J Y sx,E (some ⟨bx,0,none⟩) kx cx,J Y ex,U false],X #[J Y sy,E (some ⟨gy,0,none⟩) ky cy,J Y ey,U false]] w fun e w'=>∃b k c,aB 1000 w' (E (some ⟨b,0,none⟩) k c) (A+B)∧e=V (X #[J Y sx,E (some ⟨b,0,none⟩) k c,J Y ey,U false])∧Gb w w':=by
 have HT:Hid TC:=tc
 obtain⟨dz,hdz⟩:∃dz:Int,ex-ey=dz:=⟨_,rfl⟩
 have u1:IntKind.i64.wrap (ex-ey)=dz:=by rw[hdz,IntKind.wrap_i64];omega
 have hdn:Hid (dz=(d:Int)):=by show _=_;omega
 have hd9:Hid (d≤10000):=by show _≤_;omega
 have hA':Hid (A=Mx*2^d):=hA
 have hB':Hid (B=My):=hB
 clear hd hdz hA hB
 subst hs
 go_enter func215,ntmps215
 go_wp2_with (first
  |(go_at_call 180;with_reducible refine(TC.shl HT.out _ _ _ d _ (aB.gb HX.out Gb.g) (by exact hdn.out) hd9.out).mono ?_;rintro e w1 ⟨bx1,UC,nO,hb0,rfl,aj⟩;have hbx:aB 400 w1 (E (some ⟨bx1,0,none⟩) UC nO) A:=(by rw[hA'.out];exact hb0);clear hb0;obtain⟨AY,AX,oQ,Ih⟩:=aj.e4 w.heap.size 0 1 2 3 (J Y sx) (E (some ⟨bx,0,none⟩) kx cx) (J Y ex) (U false);obtain⟨Et,Oh,sK,Og⟩:=aj.e4 (w.heap.size+1) 0 1 2 3 (J Y sx) (E (some ⟨gy,0,none⟩) ky cy) (J Y ey) (U false);obtain⟨bG,bK,cO,bJ,iW,d_,ar3,dZ⟩:=aj.y4 (w.heap.size+1+1) 0 1 2 3 (J Y 0) (E none 0 0) (J Y 0) (U false))
  |(go_at_call 180;with_reducible refine(TC.shl HT.out _ _ _ 0 _ (aB.gb HY.out Gb.g) om om).mono ?_;rintro e w2 ⟨BL,UA,CQ,hb0,rfl,ak⟩;have hby:aB 400 w2 (E (some ⟨BL,0,none⟩) UA CQ) B:=(by rw[hB'.out];simpa using hb0);clear hb0;obtain⟨bx0,bx1,ug,IC⟩:=ak.e4 w.heap.size 0 1 2 3 (J Y sx) (E (some ⟨bx,0,none⟩) kx cx) (J Y ex) (U false);obtain⟨by0,BL,L9,by3⟩:=ak.e4 (w.heap.size+1) 0 1 2 3 (J Y sx) (E (some ⟨gy,0,none⟩) ky cy) (J Y ey) (U false);obtain⟨iF,h_,jh,g_,lZ,jM,lY,jL⟩:=ak.y4 (w.heap.size+1+1) 0 1 2 3 (J Y 0) (E none 0 0) (J Y 0) (U false)))
 go_region_held3 (fun w'=>w'.cell? ⟨w.heap.size,0,none⟩=some (J Y sx)∧w'.cell? ⟨w.heap.size+1,0,none⟩=some (J Y sx))
  ((go_split_ands;(repeat' apply And.intro)<;>exact kh))
  (first|(go_at_call 203;refine(TC.add HT.out _ _ A B _ (aB.gb hbx Gb.g) (aB.gb hby Gb.g)).mono ?_;rintro e w4 ⟨b4,k4,c4,hb4,rfl,aF⟩;obtain⟨vH,wK,vG,wJ,BJ,Af,BI,Ae⟩:=aF.y4 (w.heap.size+1+1) 0 1 2 3 (J Y 0) (E none 0 0) (J Y 0) (U false)))
 all_goals (try go_split_ands)
 all_goals go_wp2
 all_goals
  exact YR
theorem DW(sx sy ex ey:Int)(bx kx cx gy ky cy:Nat)(Mx My A B:Nat){w:World}(HX:Hid (aB 4 w (E (some ⟨bx,0,none⟩) kx cx) Mx))(HY:Hid (aB 4 w (E (some ⟨gy,0,none⟩) ky cy) My))(x0:-4000≤ex)(x1:ex≤4000)(y0:-4000≤ey)(y1:ey≤4000)(hlt:ey<ex)(d:Nat)(hd:ex-ey=(d:Int))(hA:A=Mx*2^d)(hB:B=My)(hs:sx≠sy)(hab:B≤A):
  CT 215 #[X #[J Y sx,E (some ⟨bx,0,none⟩) kx cx,J Y ex,U false],X #[J Y sy,E (some ⟨gy,0,none⟩) ky cy,J Y ey,U false]] w fun e w'=>∃b k c,aB 1000 w' (E (some ⟨b,0,none⟩) k c) (A-B)∧e=V (X #[J Y sx,E (some ⟨b,0,none⟩) k c,J Y ey,U false])∧Gb w w':=by
 have HT:Hid TC:=tc
 obtain⟨dz,hdz⟩:∃dz:Int,ex-ey=dz:=⟨_,rfl⟩
 have u1:IntKind.i64.wrap (ex-ey)=dz:=by rw[hdz,IntKind.wrap_i64];omega
 have hdn:Hid (dz=(d:Int)):=by show _=_;omega
 have hd9:Hid (d≤10000):=by show _≤_;omega
 have hA':Hid (A=Mx*2^d):=hA
 have hB':Hid (B=My):=hB
 clear hd hdz hA hB
 have c1:(sx==sy)=false:=by simp[hs]
 have c2:Hid (B≤A):=hab
 clear hab hs
 go_enter func215,ntmps215
 have c3:0≤eG A B:=by have:=c2.out;unfold eG;split<;>(try split)<;>omega
 generalize hq:eG A B=q at*
 have hq':Hid (eG A B=q):=hq
 clear hq
 go_wp2_with (first
  |(go_at_call 180;with_reducible refine(TC.shl HT.out _ _ _ d _ (aB.gb HX.out Gb.g) (by exact hdn.out) hd9.out).mono ?_;rintro e w1 ⟨bx1,UC,nO,hb0,rfl,aj⟩;have hbx:aB 400 w1 (E (some ⟨bx1,0,none⟩) UC nO) A:=(by rw[hA'.out];exact hb0);clear hb0;obtain⟨AY,AX,oQ,Ih⟩:=aj.e4 w.heap.size 0 1 2 3 (J Y sx) (E (some ⟨bx,0,none⟩) kx cx) (J Y ex) (U false);obtain⟨Et,Oh,sK,Og⟩:=aj.e4 (w.heap.size+1) 0 1 2 3 (J Y sy) (E (some ⟨gy,0,none⟩) ky cy) (J Y ey) (U false);obtain⟨bG,bK,cO,bJ,iW,d_,ar3,dZ⟩:=aj.y4 (w.heap.size+1+1) 0 1 2 3 (J Y 0) (E none 0 0) (J Y 0) (U false))
  |(go_at_call 180;with_reducible refine(TC.shl HT.out _ _ _ 0 _ (aB.gb HY.out Gb.g) om om).mono ?_;rintro e w2 ⟨BL,UA,CQ,hb0,rfl,ak⟩;have hby:aB 400 w2 (E (some ⟨BL,0,none⟩) UA CQ) B:=(by rw[hB'.out];simpa using hb0);clear hb0;obtain⟨bx0,bx1,ug,IC⟩:=ak.e4 w.heap.size 0 1 2 3 (J Y sx) (E (some ⟨bx,0,none⟩) kx cx) (J Y ex) (U false);obtain⟨by0,BL,L9,by3⟩:=ak.e4 (w.heap.size+1) 0 1 2 3 (J Y sy) (E (some ⟨gy,0,none⟩) ky cy) (J Y ey) (U false);obtain⟨iF,h_,jh,g_,lZ,jM,lY,jL⟩:=ak.y4 (w.heap.size+1+1) 0 1 2 3 (J Y 0) (E none 0 0) (J Y 0) (U false))
  |(go_at_call 129;refine(TC.cmp HT.out _ _ A B _ (aB.gb hbx Gb.g) (aB.gb hby Gb.g)).mono ?_;rintro e w3 ⟨he,aA⟩;rw[hq'.out]at he;subst he;obtain⟨vO,nO,tY,yC⟩:=aA.e4 w.heap.size 0 1 2 3 (J Y sx) (E (some ⟨bx,0,none⟩) kx cx) (J Y ex) (U false);obtain⟨cy0,CQ,cy2,cy3⟩:=aA.e4 (w.heap.size+1) 0 1 2 3 (J Y sy) (E (some ⟨gy,0,none⟩) ky cy) (J Y ey) (U false);obtain⟨lV,kZ,nX,kY,qX,nK,cr3,nJ⟩:=aA.y4 (w.heap.size+1+1) 0 1 2 3 (J Y 0) (E none 0 0) (J Y 0) (U false)))
 go_region_held3 (fun w'=>w'.cell? ⟨w.heap.size,0,none⟩=some (J Y sx)∧w'.cell? ⟨w.heap.size+1,0,none⟩=some (J Y sy))
  ((go_split_ands;(repeat' apply And.intro)<;>exact kh))
  (first|(go_at_call 191;refine(TC.sub HT.out _ _ A B _ (aB.gb hbx Gb.g) (aB.gb hby Gb.g) c2.out).mono ?_;rintro e w4 ⟨b4,k4,c4,hb4,rfl,aF⟩;obtain⟨vH,wK,vG,wJ,BJ,Af,BI,Ae⟩:=aF.y4 (w.heap.size+1+1) 0 1 2 3 (J Y 0) (E none 0 0) (J Y 0) (U false)))
 all_goals (try go_split_ands)
 all_goals go_wp2
 all_goals
  exact YR
theorem DV(sx sy ex ey:Int)(bx kx cx gy ky cy:Nat)(Mx My A B:Nat){w:World}(HX:Hid (aB 4 w (E (some ⟨bx,0,none⟩) kx cx) Mx))(HY:Hid (aB 4 w (E (some ⟨gy,0,none⟩) ky cy) My))(x0:-4000≤ex)(x1:ex≤4000)(y0:-4000≤ey)(y1:ey≤4000)(hlt:ey<ex)(d:Nat)(hd:ex-ey=(d:Int))(hA:A=Mx*2^d)(hB:B=My)(hs:sx≠sy)(hab:A<B):
  CT 215 #[X #[J Y sx,E (some ⟨bx,0,none⟩) kx cx,J Y ex,U false],X #[J Y sy,E (some ⟨gy,0,none⟩) ky cy,J Y ey,U false]] w fun e w'=>∃b k c,aB 1000 w' (E (some ⟨b,0,none⟩) k c) (B-A)∧e=V (X #[J Y sy,E (some ⟨b,0,none⟩) k c,J Y ey,U false])∧Gb w w':=by
 have HT:Hid TC:=tc
 obtain⟨dz,hdz⟩:∃dz:Int,ex-ey=dz:=⟨_,rfl⟩
 have u1:IntKind.i64.wrap (ex-ey)=dz:=by rw[hdz,IntKind.wrap_i64];omega
 have hdn:Hid (dz=(d:Int)):=by show _=_;omega
 have hd9:Hid (d≤10000):=by show _≤_;omega
 have hA':Hid (A=Mx*2^d):=hA
 have hB':Hid (B=My):=hB
 clear hd hdz hA hB
 have c1:(sx==sy)=false:=by simp[hs]
 have c2:Hid (A<B):=hab
 clear hab hs
 go_enter func215,ntmps215
 have c3:eG A B<0:=by have:=c2.out;unfold eG;rw[if_pos (by omega)];omega
 generalize hq:eG A B=q at*
 have hq':Hid (eG A B=q):=hq
 clear hq
 go_wp2_with (first
  |(go_at_call 180;with_reducible refine(TC.shl HT.out _ _ _ d _ (aB.gb HX.out Gb.g) (by exact hdn.out) hd9.out).mono ?_;rintro e w1 ⟨bx1,UC,nO,hb0,rfl,aj⟩;have hbx:aB 400 w1 (E (some ⟨bx1,0,none⟩) UC nO) A:=(by rw[hA'.out];exact hb0);clear hb0;obtain⟨AY,AX,oQ,Ih⟩:=aj.e4 w.heap.size 0 1 2 3 (J Y sx) (E (some ⟨bx,0,none⟩) kx cx) (J Y ex) (U false);obtain⟨Et,Oh,sK,Og⟩:=aj.e4 (w.heap.size+1) 0 1 2 3 (J Y sy) (E (some ⟨gy,0,none⟩) ky cy) (J Y ey) (U false);obtain⟨bG,bK,cO,bJ,iW,d_,ar3,dZ⟩:=aj.y4 (w.heap.size+1+1) 0 1 2 3 (J Y 0) (E none 0 0) (J Y 0) (U false))
  |(go_at_call 180;with_reducible refine(TC.shl HT.out _ _ _ 0 _ (aB.gb HY.out Gb.g) om om).mono ?_;rintro e w2 ⟨BL,UA,CQ,hb0,rfl,ak⟩;have hby:aB 400 w2 (E (some ⟨BL,0,none⟩) UA CQ) B:=(by rw[hB'.out];simpa using hb0);clear hb0;obtain⟨bx0,bx1,ug,IC⟩:=ak.e4 w.heap.size 0 1 2 3 (J Y sx) (E (some ⟨bx,0,none⟩) kx cx) (J Y ex) (U false);obtain⟨by0,BL,L9,by3⟩:=ak.e4 (w.heap.size+1) 0 1 2 3 (J Y sy) (E (some ⟨gy,0,none⟩) ky cy) (J Y ey) (U false);obtain⟨iF,h_,jh,g_,lZ,jM,lY,jL⟩:=ak.y4 (w.heap.size+1+1) 0 1 2 3 (J Y 0) (E none 0 0) (J Y 0) (U false))
  |(go_at_call 129;refine(TC.cmp HT.out _ _ A B _ (aB.gb hbx Gb.g) (aB.gb hby Gb.g)).mono ?_;rintro e w3 ⟨he,aA⟩;rw[hq'.out]at he;subst he;obtain⟨vO,nO,tY,yC⟩:=aA.e4 w.heap.size 0 1 2 3 (J Y sx) (E (some ⟨bx,0,none⟩) kx cx) (J Y ex) (U false);obtain⟨cy0,CQ,cy2,cy3⟩:=aA.e4 (w.heap.size+1) 0 1 2 3 (J Y sy) (E (some ⟨gy,0,none⟩) ky cy) (J Y ey) (U false);obtain⟨lV,kZ,nX,kY,qX,nK,cr3,nJ⟩:=aA.y4 (w.heap.size+1+1) 0 1 2 3 (J Y 0) (E none 0 0) (J Y 0) (U false)))
 go_region_held3 (fun w'=>w'.cell? ⟨w.heap.size,0,none⟩=some (J Y sx)∧w'.cell? ⟨w.heap.size+1,0,none⟩=some (J Y sy))
  ((go_split_ands;(repeat' apply And.intro)<;>exact kh))
  (first|(go_at_call 191;refine(TC.sub HT.out _ _ B A _ (aB.gb hby Gb.g) (aB.gb hbx Gb.g) (Nat.le_of_lt c2.out)).mono ?_;rintro e w4 ⟨b4,k4,c4,hb4,rfl,aF⟩;obtain⟨vH,wK,vG,wJ,BJ,Af,BI,Ae⟩:=aF.y4 (w.heap.size+1+1) 0 1 2 3 (J Y 0) (E none 0 0) (J Y 0) (U false)))
 all_goals (try go_split_ands)
 all_goals go_wp2
 all_goals
  refine bodyPost_ret (v:=X #[J Y sy,E (some ⟨b4,0,none⟩) k4 c4,J Y ey,U false]) (by simp[results,Tryz.results215,go_sem,vH,vG,BJ,BI]) rfl ⟨b4,k4,c4,?_,rfl,?_⟩
  ·exact hb4.Rz vH vG BJ BI
  ·exact Gb.g
theorem Gn(sx sy ex ey:Int)(bx kx cx gy ky cy:Nat)(Mx My:Nat){w:World}(HX:aB 4 w (E (some ⟨bx,0,none⟩) kx cx) Mx)(HY:aB 4 w (E (some ⟨gy,0,none⟩) ky cy) My)(x0:-4000≤ex)(x1:ex≤4000)(y0:-4000≤ey)(y1:ey≤4000)(sT:Int)(MT:Nat)(hT:aAc sx sy (Mx*2^(ex-min ex ey).toNat) (My*2^(ey-min ex ey).toNat) sT MT):
  CT 215 #[X #[J Y sx,E (some ⟨bx,0,none⟩) kx cx,J Y ex,U false],X #[J Y sy,E (some ⟨gy,0,none⟩) ky cy,J Y ey,U false]] w fun e w'=>∃b k c,aB 1000 w' (E (some ⟨b,0,none⟩) k c) MT∧e=V (X #[J Y sT,E (some ⟨b,0,none⟩) k c,J Y (min ex ey),U false])∧Gb w w':=by
 by_cases h:ex≤ey
 ·rw[show min ex ey=ex by omega]at hT⊢
  rw[show(ex-ex).toNat =0 by omega,Nat.pow_zero,Nat.mul_one]at hT
  rcases hT with⟨hs,rfl,rfl⟩|⟨hs,hab,rfl,rfl⟩|⟨hs,hab,rfl,rfl⟩
  ·exact BF _ sy ex ey bx kx cx gy ky cy Mx My _ _ HX HY x0 x1 y0 y1 h (ey-ex).toNat om rfl rfl hs
  ·exact DY _ sy ex ey bx kx cx gy ky cy Mx My _ _ HX HY x0 x1 y0 y1 h (ey-ex).toNat om rfl rfl hs hab
  ·exact DX sx _ ex ey bx kx cx gy ky cy Mx My _ _ HX HY x0 x1 y0 y1 h (ey-ex).toNat om rfl rfl hs hab
 ·rw[show min ex ey=ey by omega]at hT⊢
  rw[show(ey-ey).toNat =0 by omega,Nat.pow_zero,Nat.mul_one]at hT
  rcases hT with⟨hs,rfl,rfl⟩|⟨hs,hab,rfl,rfl⟩|⟨hs,hab,rfl,rfl⟩
  ·exact BD _ sy ex ey bx kx cx gy ky cy Mx My _ _ HX HY x0 x1 y0 y1 om (ex-ey).toNat om rfl rfl hs
  ·exact DW _ sy ex ey bx kx cx gy ky cy Mx My _ _ HX HY x0 x1 y0 y1 om (ex-ey).toNat om rfl rfl hs hab
  ·exact DV sx _ ex ey bx kx cx gy ky cy Mx My _ _ HX HY x0 x1 y0 y1 om (ex-ey).toNat om rfl rfl hs hab
theorem SB{P:Prop}(h:P:=by
 refine bodyPost_ret (v:=X #[J O z,J Y fl]) (by simp[results,Tryz.results168,go_sem,iF,jh]) rfl ⟨z,fl,hq,rfl,?_⟩
 exact Gb.g):P:=h
theorem YT{P:Prop}(h:P:=by
 have HM:Hid (MT=0):=hM
 clear hM
 go_enter func168,ntmps168
 go_wp2_with (first
  |(go_at_call 215;refine(HT.out _ Gb.g).mono ?_;rintro e w1 ⟨b1,k1,c1,hb1,rfl,aj⟩;obtain⟨n1,hn1,hbb⟩:=hb1;obtain rfl:k1=0:=(yH hbb HM.out);obtain⟨AY,AX,oQ,Ih⟩:=aj.e4 w.heap.size 0 1 2 3 (J Y sx) (E (some ⟨bx,0,none⟩) kx cx) (J Y ex) (U false);obtain⟨Et,Oh,sK,Og⟩:=aj.e4 (w.heap.size+1) 0 1 2 3 (J Y sy) (E (some ⟨gy,0,none⟩) ky cy) (J Y ey) (U false);obtain⟨bG,bK⟩:=aj.y1 (w.heap.size+1+1) 0 (J O 0);have BQ:=aK bG;have MK:=bH bK;obtain⟨cO,bJ⟩:=aj.y1 (w.heap.size+1+1) 1 (J Y 0);have BP:=aK cO;have MJ:=bH bJ;have aX:=aK AY;have aY:=aK Et)
  |(go_at_call 64;refine(HZ.out _).mono ?_;rintro e w2 ⟨rfl,ak⟩;obtain⟨iF,h_,jh,g_⟩:=ak.y2 (w.heap.size+1+1) 0 1 (J O 0) (J Y 0)))
 refine bodyPost_ret (v:=X #[J O z,J Y 0]) (by simp[results,Tryz.results168,go_sem,iF,jh]) rfl ⟨rfl,?_⟩
 exact Gb.g):P:=h
theorem SC{P:Prop}(h:P:=by
 have HM:Hid (MT=0):=hM
 clear hM
 go_enter func168,ntmps168
 go_wp2_with (first
  |(go_at_call 215;refine(HT.out _ Gb.g).mono ?_;rintro e w1 ⟨b1,k1,c1,hb1,rfl,aj⟩;obtain⟨n1,hn1,hbb⟩:=hb1;obtain rfl:k1=0:=(yH hbb HM.out);obtain⟨AY,AX,oQ,Ih⟩:=aj.e4 w.heap.size 0 1 2 3 (J Y sx) (E (some ⟨bx,0,none⟩) kx cx) (J Y ey) (U false);obtain⟨Et,Oh,sK,Og⟩:=aj.e4 (w.heap.size+1) 0 1 2 3 (J Y sy) (E (some ⟨gy,0,none⟩) ky cy) (J Y ey) (U false);obtain⟨bG,bK⟩:=aj.y1 (w.heap.size+1+1) 0 (J O 0);have BQ:=aK bG;have MK:=bH bK;obtain⟨cO,bJ⟩:=aj.y1 (w.heap.size+1+1) 1 (J Y 0);have BP:=aK cO;have MJ:=bH bJ;have aX:=aK AY;have aY:=aK Et)
  |(go_at_call 64;refine(HZ.out _).mono ?_;rintro e w2 ⟨rfl,ak⟩;obtain⟨iF,h_,jh,g_⟩:=ak.y2 (w.heap.size+1+1) 0 1 (J O 0) (J Y 0)))
 refine bodyPost_ret (v:=X #[J O z,J Y 0]) (by simp[results,Tryz.results168,go_sem,iF,jh]) rfl ⟨rfl,?_⟩
 exact Gb.g):P:=h
theorem vM{w:World}{b k c n N:Nat}(h:Big w (E (some ⟨b,0,none⟩) k c) n N)(hN:0<N):0<((k:Nat):Int):=by
 obtain⟨hnm,_,b',cap,e,_⟩:=h
 injection e with e1 e2 e3
 have:=hnm.iff
 omega
theorem yH{w:World}{b k c n N:Nat}(h:Big w (E (some ⟨b,0,none⟩) k c) n N)(hN:N=0):k=0:=by
 obtain⟨hnm,_,b',cap,e,_⟩:=h
 injection e with e1 e2 e3
 have:=hnm.iff
 omega
theorem Eo{K:Nat}{w:World}{b k c N:Nat}(h:aB K w (E (some ⟨b,0,none⟩) k c) N):(((k:Nat):Int)==0)=decide (N=0):=by
 obtain⟨n,_,h⟩:=h
 rcases Nat.eq_zero_or_pos N with c|c
 ·rw[yH h c];simp[c]
 ·have:=vM h c
  rw[decide_eq_false (by omega)];simp;omega
theorem wC(f mode sx sy ex ey sT eT:Int)(bx kx cx gy ky cy MT:Nat){w:World}(hkx:(((kx:Nat):Int)==0)=false)(hky:(((ky:Nat):Int)==0)=false)(HT:Hid (∀w',Gb w w'→CT 215 #[X #[J Y sx,E (some ⟨bx,0,none⟩) kx cx,J Y ex,U false],X #[J Y sy,E (some ⟨gy,0,none⟩) ky cy,J Y ey,U false]] w' fun e w''=>∃b k c,aB 1000 w'' (E (some ⟨b,0,none⟩) k c) MT∧e=V (X #[J Y sT,E (some ⟨b,0,none⟩) k c,J Y eT,U false])∧Gb w' w''))(hM:0<MT)(Q:Int→Int→Prop)(HR:Hid (∀v w,aB 1000 w v MT→CT 65 #[J Y f,J Y mode,X #[J Y sT,v,J Y eT,U false]] w fun x w'=>∃z fl,Q z fl∧x=V (X #[J O z,J Y fl])∧Gb w w')):
  CT 168 #[J Y f,J Y mode,X #[J Y sx,E (some ⟨bx,0,none⟩) kx cx,J Y ex,U false],X #[J Y sy,E (some ⟨gy,0,none⟩) ky cy,J Y ey,U false]] w fun e w'=>∃z fl,Q z fl∧e=V (X #[J O z,J Y fl])∧Gb w w':=by
 have HM:Hid (0<MT):=hM
 clear hM
 go_enter func168,ntmps168
 go_wp2_with (first
  |(go_at_call 215;refine(HT.out _ Gb.g).mono ?_;rintro e w1 ⟨b1,k1,c1,hb1,rfl,aj⟩;obtain⟨n1,hn1,hbb⟩:=hb1;have hk1:(0<((k1:Nat):Int)):=(vM hbb HM.out);have hb1':aB 1000 w1 (E (some ⟨b1,0,none⟩) k1 c1) MT:=⟨n1,hn1,hbb⟩;obtain⟨AY,AX,oQ,Ih⟩:=aj.e4 w.heap.size 0 1 2 3 (J Y sx) (E (some ⟨bx,0,none⟩) kx cx) (J Y ex) (U false);obtain⟨Et,Oh,sK,Og⟩:=aj.e4 (w.heap.size+1) 0 1 2 3 (J Y sy) (E (some ⟨gy,0,none⟩) ky cy) (J Y ey) (U false);obtain⟨bG,bK⟩:=aj.y1 (w.heap.size+1+1) 0 (J O 0);have BQ:=aK bG;have MK:=bH bK;obtain⟨cO,bJ⟩:=aj.y1 (w.heap.size+1+1) 1 (J Y 0);have BP:=aK cO;have MJ:=bH bJ;have aX:=aK AY;have aY:=aK Et;have hA:=(fun ob=>aB.gb hb1' ((Gb.refl w1).alloc ob)))
  |(go_at_call 65;refine(HR.out _ _ (aB.gb hb1' Gb.g)).mono ?_;rintro e w2 ⟨z,fl,hq,rfl,ak⟩;obtain⟨iF,h_,jh,g_⟩:=ak.y2 (w.heap.size+1+1) 0 1 (J O 0) (J Y 0)))
 exact SB
theorem Qw(f mode sx sy ex ey sT eT:Int)(bx kx cx gy ky cy MT:Nat){w:World}(hkx:(((kx:Nat):Int)==0)=false)(hky:(((ky:Nat):Int)==0)=false)(HT:Hid (∀w',Gb w w'→CT 215 #[X #[J Y sx,E (some ⟨bx,0,none⟩) kx cx,J Y ex,U false],X #[J Y sy,E (some ⟨gy,0,none⟩) ky cy,J Y ey,U false]] w' fun e w''=>∃b k c,aB 1000 w'' (E (some ⟨b,0,none⟩) k c) MT∧e=V (X #[J Y sT,E (some ⟨b,0,none⟩) k c,J Y eT,U false])∧Gb w' w''))(hM:MT=0)(hs:(sx==sy)=false)(hmd:(mode==4)=true)(z:Int)(HZ:KR 64 #[J Y f,J Y 1] (X #[J O z,J Y 0])):
  QB 168 #[J Y f,J Y mode,X #[J Y sx,E (some ⟨bx,0,none⟩) kx cx,J Y ex,U false],X #[J Y sy,E (some ⟨gy,0,none⟩) ky cy,J Y ey,U false]] w (X #[J O z,J Y 0]):=by
 exact YT
theorem Qv(f mode sx sy ex ey sT eT:Int)(bx kx cx gy ky cy MT:Nat){w:World}(hkx:(((kx:Nat):Int)==0)=false)(hky:(((ky:Nat):Int)==0)=false)(HT:Hid (∀w',Gb w w'→CT 215 #[X #[J Y sx,E (some ⟨bx,0,none⟩) kx cx,J Y ex,U false],X #[J Y sy,E (some ⟨gy,0,none⟩) ky cy,J Y ey,U false]] w' fun e w''=>∃b k c,aB 1000 w'' (E (some ⟨b,0,none⟩) k c) MT∧e=V (X #[J Y sT,E (some ⟨b,0,none⟩) k c,J Y eT,U false])∧Gb w' w''))(hM:MT=0)(hs:(sx==sy)=false)(hmd:(mode==4)=false)(z:Int)(HZ:KR 64 #[J Y f,J Y 0] (X #[J O z,J Y 0])):
  QB 168 #[J Y f,J Y mode,X #[J Y sx,E (some ⟨bx,0,none⟩) kx cx,J Y ex,U false],X #[J Y sy,E (some ⟨gy,0,none⟩) ky cy,J Y ey,U false]] w (X #[J O z,J Y 0]):=by
 exact YT
theorem Qs(f mode sx sy ex ey sT eT:Int)(bx kx cx gy ky cy MT:Nat){w:World}(hkx:(((kx:Nat):Int)==0)=true)(hky:(((ky:Nat):Int)==0)=false)(HT:Hid (∀w',Gb w w'→CT 215 #[X #[J Y sx,E (some ⟨bx,0,none⟩) kx cx,J Y ey,U false],X #[J Y sy,E (some ⟨gy,0,none⟩) ky cy,J Y ey,U false]] w' fun e w''=>∃b k c,aB 1000 w'' (E (some ⟨b,0,none⟩) k c) MT∧e=V (X #[J Y sT,E (some ⟨b,0,none⟩) k c,J Y eT,U false])∧Gb w' w''))(hM:0<MT)(Q:Int→Int→Prop)(HR:Hid (∀v w,aB 1000 w v MT→CT 65 #[J Y f,J Y mode,X #[J Y sT,v,J Y eT,U false]] w fun x w'=>∃z fl,Q z fl∧x=V (X #[J O z,J Y fl])∧Gb w w')):
  CT 168 #[J Y f,J Y mode,X #[J Y sx,E (some ⟨bx,0,none⟩) kx cx,J Y ex,U false],X #[J Y sy,E (some ⟨gy,0,none⟩) ky cy,J Y ey,U false]] w fun e w'=>∃z fl,Q z fl∧e=V (X #[J O z,J Y fl])∧Gb w w':=by
 have HM:Hid (0<MT):=hM
 clear hM
 go_enter func168,ntmps168
 go_wp2_with (first
  |(go_at_call 215;refine(HT.out _ Gb.g).mono ?_;rintro e w1 ⟨b1,k1,c1,hb1,rfl,aj⟩;obtain⟨n1,hn1,hbb⟩:=hb1;have hk1:(0<((k1:Nat):Int)):=(vM hbb HM.out);have hb1':aB 1000 w1 (E (some ⟨b1,0,none⟩) k1 c1) MT:=⟨n1,hn1,hbb⟩;obtain⟨AY,AX,oQ,Ih⟩:=aj.e4 w.heap.size 0 1 2 3 (J Y sx) (E (some ⟨bx,0,none⟩) kx cx) (J Y ey) (U false);obtain⟨Et,Oh,sK,Og⟩:=aj.e4 (w.heap.size+1) 0 1 2 3 (J Y sy) (E (some ⟨gy,0,none⟩) ky cy) (J Y ey) (U false);obtain⟨bG,bK⟩:=aj.y1 (w.heap.size+1+1) 0 (J O 0);have BQ:=aK bG;have MK:=bH bK;obtain⟨cO,bJ⟩:=aj.y1 (w.heap.size+1+1) 1 (J Y 0);have BP:=aK cO;have MJ:=bH bJ;have aX:=aK AY;have aY:=aK Et;have hA:=(fun ob=>aB.gb hb1' ((Gb.refl w1).alloc ob)))
  |(go_at_call 65;refine(HR.out _ _ (aB.gb hb1' Gb.g)).mono ?_;rintro e w2 ⟨z,fl,hq,rfl,ak⟩;obtain⟨iF,h_,jh,g_⟩:=ak.y2 (w.heap.size+1+1) 0 1 (J O 0) (J Y 0)))
 exact SB
theorem Qu(f mode sx sy ex ey sT eT:Int)(bx kx cx gy ky cy MT:Nat){w:World}(hkx:(((kx:Nat):Int)==0)=false)(hky:(((ky:Nat):Int)==0)=true)(HT:Hid (∀w',Gb w w'→CT 215 #[X #[J Y sx,E (some ⟨bx,0,none⟩) kx cx,J Y ex,U false],X #[J Y sy,E (some ⟨gy,0,none⟩) ky cy,J Y ex,U false]] w' fun e w''=>∃b k c,aB 1000 w'' (E (some ⟨b,0,none⟩) k c) MT∧e=V (X #[J Y sT,E (some ⟨b,0,none⟩) k c,J Y eT,U false])∧Gb w' w''))(hM:0<MT)(Q:Int→Int→Prop)(HR:Hid (∀v w,aB 1000 w v MT→CT 65 #[J Y f,J Y mode,X #[J Y sT,v,J Y eT,U false]] w fun x w'=>∃z fl,Q z fl∧x=V (X #[J O z,J Y fl])∧Gb w w')):
  CT 168 #[J Y f,J Y mode,X #[J Y sx,E (some ⟨bx,0,none⟩) kx cx,J Y ex,U false],X #[J Y sy,E (some ⟨gy,0,none⟩) ky cy,J Y ey,U false]] w fun e w'=>∃z fl,Q z fl∧e=V (X #[J O z,J Y fl])∧Gb w w':=by
 have HM:Hid (0<MT):=hM
 clear hM
 go_enter func168,ntmps168
 go_wp2_with (first
  |(go_at_call 215;refine(HT.out _ Gb.g).mono ?_;rintro e w1 ⟨b1,k1,c1,hb1,rfl,aj⟩;obtain⟨n1,hn1,hbb⟩:=hb1;have hk1:(0<((k1:Nat):Int)):=(vM hbb HM.out);have hb1':aB 1000 w1 (E (some ⟨b1,0,none⟩) k1 c1) MT:=⟨n1,hn1,hbb⟩;obtain⟨AY,AX,oQ,Ih⟩:=aj.e4 w.heap.size 0 1 2 3 (J Y sx) (E (some ⟨bx,0,none⟩) kx cx) (J Y ex) (U false);obtain⟨Et,Oh,sK,Og⟩:=aj.e4 (w.heap.size+1) 0 1 2 3 (J Y sy) (E (some ⟨gy,0,none⟩) ky cy) (J Y ex) (U false);obtain⟨bG,bK⟩:=aj.y1 (w.heap.size+1+1) 0 (J O 0);have BQ:=aK bG;have MK:=bH bK;obtain⟨cO,bJ⟩:=aj.y1 (w.heap.size+1+1) 1 (J Y 0);have BP:=aK cO;have MJ:=bH bJ;have aX:=aK AY;have aY:=aK Et;have hA:=(fun ob=>aB.gb hb1' ((Gb.refl w1).alloc ob)))
  |(go_at_call 65;refine(HR.out _ _ (aB.gb hb1' Gb.g)).mono ?_;rintro e w2 ⟨z,fl,hq,rfl,ak⟩;obtain⟨iF,h_,jh,g_⟩:=ak.y2 (w.heap.size+1+1) 0 1 (J O 0) (J Y 0)))
 exact SB
theorem Qp(f mode sx sy ex ey sT eT:Int)(bx kx cx gy ky cy MT:Nat){w:World}(hkx:(((kx:Nat):Int)==0)=true)(hky:(((ky:Nat):Int)==0)=true)(HT:Hid (∀w',Gb w w'→CT 215 #[X #[J Y sx,E (some ⟨bx,0,none⟩) kx cx,J Y ey,U false],X #[J Y sy,E (some ⟨gy,0,none⟩) ky cy,J Y ey,U false]] w' fun e w''=>∃b k c,aB 1000 w'' (E (some ⟨b,0,none⟩) k c) MT∧e=V (X #[J Y sT,E (some ⟨b,0,none⟩) k c,J Y eT,U false])∧Gb w' w''))(hM:MT=0)(hs:(sx==sy)=true)(z:Int)(HZ:KR 64 #[J Y f,J Y sx] (X #[J O z,J Y 0])):
  QB 168 #[J Y f,J Y mode,X #[J Y sx,E (some ⟨bx,0,none⟩) kx cx,J Y ex,U false],X #[J Y sy,E (some ⟨gy,0,none⟩) ky cy,J Y ey,U false]] w (X #[J O z,J Y 0]):=by
 exact SC
theorem Qr(f mode sx sy ex ey sT eT:Int)(bx kx cx gy ky cy MT:Nat){w:World}(hkx:(((kx:Nat):Int)==0)=true)(hky:(((ky:Nat):Int)==0)=true)(HT:Hid (∀w',Gb w w'→CT 215 #[X #[J Y sx,E (some ⟨bx,0,none⟩) kx cx,J Y ey,U false],X #[J Y sy,E (some ⟨gy,0,none⟩) ky cy,J Y ey,U false]] w' fun e w''=>∃b k c,aB 1000 w'' (E (some ⟨b,0,none⟩) k c) MT∧e=V (X #[J Y sT,E (some ⟨b,0,none⟩) k c,J Y eT,U false])∧Gb w' w''))(hM:MT=0)(hs:(sx==sy)=false)(hmd:(mode==4)=true)(z:Int)(HZ:KR 64 #[J Y f,J Y 1] (X #[J O z,J Y 0])):
  QB 168 #[J Y f,J Y mode,X #[J Y sx,E (some ⟨bx,0,none⟩) kx cx,J Y ex,U false],X #[J Y sy,E (some ⟨gy,0,none⟩) ky cy,J Y ey,U false]] w (X #[J O z,J Y 0]):=by
 exact SC
theorem Qq(f mode sx sy ex ey sT eT:Int)(bx kx cx gy ky cy MT:Nat){w:World}(hkx:(((kx:Nat):Int)==0)=true)(hky:(((ky:Nat):Int)==0)=true)(HT:Hid (∀w',Gb w w'→CT 215 #[X #[J Y sx,E (some ⟨bx,0,none⟩) kx cx,J Y ey,U false],X #[J Y sy,E (some ⟨gy,0,none⟩) ky cy,J Y ey,U false]] w' fun e w''=>∃b k c,aB 1000 w'' (E (some ⟨b,0,none⟩) k c) MT∧e=V (X #[J Y sT,E (some ⟨b,0,none⟩) k c,J Y eT,U false])∧Gb w' w''))(hM:MT=0)(hs:(sx==sy)=false)(hmd:(mode==4)=false)(z:Int)(HZ:KR 64 #[J Y f,J Y 0] (X #[J O z,J Y 0])):
  QB 168 #[J Y f,J Y mode,X #[J Y sx,E (some ⟨bx,0,none⟩) kx cx,J Y ex,U false],X #[J Y sy,E (some ⟨gy,0,none⟩) ky cy,J Y ey,U false]] w (X #[J O z,J Y 0]):=by
 exact SC
theorem YU{P:Prop}(h:P:=by
 go_enter func79,ntmps79
 go_wp2_with (first
  |(go_at_call 117;refine kw (HF.out _) ?_)
  |(go_at_call 31;first|(with_reducible refine(fB.out _).mono ?_;rintro e w1 ⟨rfl,aj⟩;obtain⟨dK,fZ,jY,fV⟩:=aj.y2 w.heap.size 0 1 (J O 0) (J Y 0);have hz0:=au dK)|(with_reducible refine(iq.out _).mono ?_;rintro e w2 ⟨rfl,ak⟩;obtain⟨fC,iQ,mG,iO⟩:=ak.y2 w.heap.size 0 1 (J O 0) (J Y 0);have bU:=ak.e1 w1.heap.size 0 (J Y ca);have fG:=aK bU;have bT:=ak.e1 w1.heap.size 1 (J Y sa);have fF:=aK bT;have bQ:=ak.e1 w1.heap.size 2 (J Y xa);have fE:=aK bQ;have bP:=ak.e1 w1.heap.size 3 (J O ga);have fD:=aK bP;have hz1:=au fC))
  |(go_at_call 118;first|(with_reducible refine(jU.out _).mono ?_;rintro e va ⟨rfl,aC⟩;obtain⟨kC,gu,ku,f_⟩:=aC.y2 w.heap.size 0 1 (J O 0) (J Y 0);obtain⟨gJ,gI,gG,gB⟩:=aC.e4 w1.heap.size 0 1 2 3 (J Y ca) (J Y sa) (J Y xa) (J O ga);obtain⟨iV,iU,iT,iR⟩:=aC.e4 w2.heap.size 0 1 2 3 (J Y cb) (J Y sb) (J Y xb) (J O gb))|(with_reducible refine(oq.out _).mono ?_;rintro e vb ⟨rfl,aN⟩;obtain⟨nR,jv,nP,jo⟩:=aN.y2 w.heap.size 0 1 (J O 0) (J Y 0);obtain⟨jF,jE,jD,jC⟩:=aN.e4 w1.heap.size 0 1 2 3 (J Y ca) (J Y sa) (J Y xa) (J O ga);obtain⟨jB,jA,jy,jw⟩:=aN.e4 w2.heap.size 0 1 2 3 (J Y cb) (J Y sb) (J Y xb) (J O gb)))
  |(go_at_call 119;refine(HL.out _).mono ?_;rintro e w9 ⟨rfl,aP⟩;obtain⟨fP,fU,fO,fQ⟩:=aP.y2 w.heap.size 0 1 (J O 0) (J Y 0)))
 refine bodyPost_ret (v:=X #[J O z,J Y fl]) (by simp[results,Tryz.results79,go_sem,fP,fO]) rfl ⟨rfl,?_⟩
 exact Gb.g):P:=h
theorem SE{P:Prop}(h:P:=by
 go_enter func79,ntmps79
 go_wp2_with (first
  |(go_at_call 117;refine kw (HF.out _) ?_)
  |(go_at_call 31;first|(with_reducible refine(fB.out _).mono ?_;rintro e w1 ⟨rfl,aj⟩;obtain⟨dK,fZ,jY,fV⟩:=aj.y2 w.heap.size 0 1 (J O 0) (J Y 0);have hz0:=au dK)|(with_reducible refine(iq.out _).mono ?_;rintro e w2 ⟨rfl,ak⟩;obtain⟨fC,iQ,mG,iO⟩:=ak.y2 w.heap.size 0 1 (J O 0) (J Y 0);have bU:=ak.e1 w1.heap.size 0 (J Y ca);have fG:=aK bU;have bT:=ak.e1 w1.heap.size 1 (J Y sa);have fF:=aK bT;have bQ:=ak.e1 w1.heap.size 2 (J Y xa);have fE:=aK bQ;have bP:=ak.e1 w1.heap.size 3 (J O ga);have fD:=aK bP;have hz1:=au fC))
  |(go_at_call 118;first|(with_reducible refine(jU.out _).mono ?_;rintro e va ⟨rfl,aC⟩;obtain⟨kC,gu,ku,f_⟩:=aC.y2 w.heap.size 0 1 (J O 0) (J Y 0);obtain⟨gJ,gI,gG,gB⟩:=aC.e4 w1.heap.size 0 1 2 3 (J Y ca) (J Y sa) (J Y xa) (J O ga);obtain⟨iV,iU,iT,iR⟩:=aC.e4 w2.heap.size 0 1 2 3 (J Y cb) (J Y sb) (J Y xb) (J O gb)))
  |(go_at_call 119;refine(HL.out _).mono ?_;rintro e w9 ⟨rfl,aP⟩;obtain⟨fP,fU,fO,fQ⟩:=aP.y2 w.heap.size 0 1 (J O 0) (J Y 0)))
 refine bodyPost_ret (v:=X #[J O z,J Y fl]) (by simp[results,Tryz.results79,go_sem,fP,fO]) rfl ⟨rfl,?_⟩
 exact Gb.g):P:=h
theorem zk(f mode a b:Int)(HF:KW 117 #[J Y f,J Y mode,J O a,J O b] (U false))(z fl:Int)(HL:KR 63 #[J Y f] (X #[J O z,J Y fl]))(w:World):
  QB 79 #[J Y f,J Y mode,J O a,J O b] w (X #[J O z,J Y fl]):=by
 go_enter func79,ntmps79
 go_wp2_with (first
  |(go_at_call 117;refine kw (HF.out _) ?_)
  |(go_at_call 63;refine(HL.out _).mono ?_;rintro e w9 ⟨rfl,aP⟩;obtain⟨fP,fU,fO,fQ⟩:=aP.y2 w.heap.size 0 1 (J O 0) (J Y 0)))
 refine bodyPost_ret (v:=X #[J O z,J Y fl]) (by simp[results,Tryz.results79,go_sem,fP,fO]) rfl ⟨rfl,?_⟩
 exact Gb.g
theorem Pg(f mode a b ca sa xa ga cb sb xb gb:Int)(HF:KW 117 #[J Y f,J Y mode,J O a,J O b] (U true))(fB:KR 31 #[J Y f,J O a] (X #[J Y ca,J Y sa,J Y xa,J O ga]))(iq:KR 31 #[J Y f,J O b] (X #[J Y cb,J Y sb,J Y xb,J O gb]))(jU:KR 118 #[X #[J Y ca,J Y sa,J Y xa,J O ga]] (U true))(e4:(ca==4)=true)(z fl:Int)(HL:KR 119 #[J Y f,U true] (X #[J O z,J Y fl]))(w:World):
  QB 79 #[J Y f,J Y mode,J O a,J O b] w (X #[J O z,J Y fl]):=by
 exact SE
theorem O_(f mode a b ca sa xa ga cb sb xb gb:Int)(HF:KW 117 #[J Y f,J Y mode,J O a,J O b] (U true))(fB:KR 31 #[J Y f,J O a] (X #[J Y ca,J Y sa,J Y xa,J O ga]))(iq:KR 31 #[J Y f,J O b] (X #[J Y cb,J Y sb,J Y xb,J O gb]))(jU:KR 118 #[X #[J Y ca,J Y sa,J Y xa,J O ga]] (U true))(e4:(ca==4)=false)(t:Bool)(e5:(cb==4)=t)(z fl:Int)(HL:KR 119 #[J Y f,U t] (X #[J O z,J Y fl]))(w:World):
  QB 79 #[J Y f,J Y mode,J O a,J O b] w (X #[J O z,J Y fl]):=by
 cases t
 ·exact SE
 ·exact SE
theorem O9(f mode a b ca sa xa ga cb sb xb gb:Int)(HF:KW 117 #[J Y f,J Y mode,J O a,J O b] (U true))(fB:KR 31 #[J Y f,J O a] (X #[J Y ca,J Y sa,J Y xa,J O ga]))(iq:KR 31 #[J Y f,J O b] (X #[J Y cb,J Y sb,J Y xb,J O gb]))(jU:KR 118 #[X #[J Y ca,J Y sa,J Y xa,J O ga]] (U false))(oq:KR 118 #[X #[J Y cb,J Y sb,J Y xb,J O gb]] (U true))(e4:(ca==4)=false)(t:Bool)(e5:(cb==4)=t)(z fl:Int)(HL:KR 119 #[J Y f,U t] (X #[J O z,J Y fl]))(w:World):
  QB 79 #[J Y f,J Y mode,J O a,J O b] w (X #[J O z,J Y fl]):=by
 cases t
 ·exact YU
 ·exact YU
theorem Po(f mode a b ca sa xa ga cb sb xb gb:Int)(HF:KW 117 #[J Y f,J Y mode,J O a,J O b] (U true))(fB:KR 31 #[J Y f,J O a] (X #[J Y ca,J Y sa,J Y xa,J O ga]))(iq:KR 31 #[J Y f,J O b] (X #[J Y cb,J Y sb,J Y xb,J O gb]))(jU:KR 118 #[X #[J Y ca,J Y sa,J Y xa,J O ga]] (U false))(oq:KR 118 #[X #[J Y cb,J Y sb,J Y xb,J O gb]] (U false))(e1:ca=2)(e2:cb=2)(e3:(sa==sb)=false)(z fl:Int)(HL:KR 63 #[J Y f] (X #[J O z,J Y fl]))(w:World):
  QB 79 #[J Y f,J Y mode,J O a,J O b] w (X #[J O z,J Y fl]):=by
 subst e1 e2
 go_enter func79,ntmps79
 go_wp2_with (first
  |(go_at_call 117;refine kw (HF.out _) ?_)
  |(go_at_call 31;first|(with_reducible refine(fB.out _).mono ?_;rintro e w1 ⟨rfl,aj⟩;obtain⟨dK,fZ,jY,fV⟩:=aj.y2 w.heap.size 0 1 (J O 0) (J Y 0);have hz0:=au dK)|(with_reducible refine(iq.out _).mono ?_;rintro e w2 ⟨rfl,ak⟩;obtain⟨fC,iQ,mG,iO⟩:=ak.y2 w.heap.size 0 1 (J O 0) (J Y 0);have bU:=ak.e1 w1.heap.size 0 (J Y 2);have fG:=aK bU;have bT:=ak.e1 w1.heap.size 1 (J Y sa);have fF:=aK bT;have bQ:=ak.e1 w1.heap.size 2 (J Y xa);have fE:=aK bQ;have bP:=ak.e1 w1.heap.size 3 (J O ga);have fD:=aK bP;have hz1:=au fC))
  |(go_at_call 118;first|(with_reducible refine(jU.out _).mono ?_;rintro e va ⟨rfl,aC⟩;obtain⟨kC,gu,ku,f_⟩:=aC.y2 w.heap.size 0 1 (J O 0) (J Y 0);obtain⟨gJ,gI,gG,gB⟩:=aC.e4 w1.heap.size 0 1 2 3 (J Y 2) (J Y sa) (J Y xa) (J O ga);obtain⟨iV,iU,iT,iR⟩:=aC.e4 w2.heap.size 0 1 2 3 (J Y 2) (J Y sb) (J Y xb) (J O gb))|(with_reducible refine(oq.out _).mono ?_;rintro e vb ⟨rfl,aN⟩;obtain⟨nR,jv,nP,jo⟩:=aN.y2 w.heap.size 0 1 (J O 0) (J Y 0);obtain⟨jF,jE,jD,jC⟩:=aN.e4 w1.heap.size 0 1 2 3 (J Y 2) (J Y sa) (J Y xa) (J O ga);obtain⟨jB,jA,jy,jw⟩:=aN.e4 w2.heap.size 0 1 2 3 (J Y 2) (J Y sb) (J Y xb) (J O gb)))
  |(go_at_call 63;refine(HL.out _).mono ?_;rintro e w9 ⟨rfl,aP⟩;obtain⟨fP,fU,fO,fQ⟩:=aP.y2 w.heap.size 0 1 (J O 0) (J Y 0)))
 refine bodyPost_ret (v:=X #[J O z,J Y fl]) (by simp[results,Tryz.results79,go_sem,fP,fO]) rfl ⟨rfl,?_⟩
 exact Gb.g
theorem Pm(f mode a b ca sa xa ga cb sb xb gb:Int)(HF:KW 117 #[J Y f,J Y mode,J O a,J O b] (U true))(fB:KR 31 #[J Y f,J O a] (X #[J Y ca,J Y sa,J Y xa,J O ga]))(iq:KR 31 #[J Y f,J O b] (X #[J Y cb,J Y sb,J Y xb,J O gb]))(jU:KR 118 #[X #[J Y ca,J Y sa,J Y xa,J O ga]] (U false))(oq:KR 118 #[X #[J Y cb,J Y sb,J Y xb,J O gb]] (U false))(e1:ca=2)(e2:(cb==2)=false)(z fl:Int)(HL:KR 167 #[J Y f,J Y sa] (X #[J O z,J Y fl]))(w:World):
  QB 79 #[J Y f,J Y mode,J O a,J O b] w (X #[J O z,J Y fl]):=by
 subst e1
 go_enter func79,ntmps79
 go_wp2_with (first
  |(go_at_call 117;refine kw (HF.out _) ?_)
  |(go_at_call 31;first|(with_reducible refine(fB.out _).mono ?_;rintro e w1 ⟨rfl,aj⟩;obtain⟨dK,fZ,jY,fV⟩:=aj.y2 w.heap.size 0 1 (J O 0) (J Y 0);have hz0:=au dK)|(with_reducible refine(iq.out _).mono ?_;rintro e w2 ⟨rfl,ak⟩;obtain⟨fC,iQ,mG,iO⟩:=ak.y2 w.heap.size 0 1 (J O 0) (J Y 0);have bU:=ak.e1 w1.heap.size 0 (J Y 2);have fG:=aK bU;have bT:=ak.e1 w1.heap.size 1 (J Y sa);have fF:=aK bT;have bQ:=ak.e1 w1.heap.size 2 (J Y xa);have fE:=aK bQ;have bP:=ak.e1 w1.heap.size 3 (J O ga);have fD:=aK bP;have hz1:=au fC))
  |(go_at_call 118;first|(with_reducible refine(jU.out _).mono ?_;rintro e va ⟨rfl,aC⟩;obtain⟨kC,gu,ku,f_⟩:=aC.y2 w.heap.size 0 1 (J O 0) (J Y 0);obtain⟨gJ,gI,gG,gB⟩:=aC.e4 w1.heap.size 0 1 2 3 (J Y 2) (J Y sa) (J Y xa) (J O ga);obtain⟨iV,iU,iT,iR⟩:=aC.e4 w2.heap.size 0 1 2 3 (J Y cb) (J Y sb) (J Y xb) (J O gb))|(with_reducible refine(oq.out _).mono ?_;rintro e vb ⟨rfl,aN⟩;obtain⟨nR,jv,nP,jo⟩:=aN.y2 w.heap.size 0 1 (J O 0) (J Y 0);obtain⟨jF,jE,jD,jC⟩:=aN.e4 w1.heap.size 0 1 2 3 (J Y 2) (J Y sa) (J Y xa) (J O ga);obtain⟨jB,jA,jy,jw⟩:=aN.e4 w2.heap.size 0 1 2 3 (J Y cb) (J Y sb) (J Y xb) (J O gb)))
  |(go_at_call 167;refine(HL.out _).mono ?_;rintro e w9 ⟨rfl,aP⟩;obtain⟨fP,fU,fO,fQ⟩:=aP.y2 w.heap.size 0 1 (J O 0) (J Y 0)))
 refine bodyPost_ret (v:=X #[J O z,J Y fl]) (by simp[results,Tryz.results79,go_sem,fP,fO]) rfl ⟨rfl,?_⟩
 exact Gb.g
theorem Pj(f mode a b ca sa xa ga cb sb xb gb:Int)(HF:KW 117 #[J Y f,J Y mode,J O a,J O b] (U true))(fB:KR 31 #[J Y f,J O a] (X #[J Y ca,J Y sa,J Y xa,J O ga]))(iq:KR 31 #[J Y f,J O b] (X #[J Y cb,J Y sb,J Y xb,J O gb]))(jU:KR 118 #[X #[J Y ca,J Y sa,J Y xa,J O ga]] (U false))(oq:KR 118 #[X #[J Y cb,J Y sb,J Y xb,J O gb]] (U false))(e1:ca=2)(e2:cb=2)(e3:sa=sb)(z fl:Int)(HL:KR 167 #[J Y f,J Y sa] (X #[J O z,J Y fl]))(w:World):
  QB 79 #[J Y f,J Y mode,J O a,J O b] w (X #[J O z,J Y fl]):=by
 subst e1 e2 e3
 go_enter func79,ntmps79
 go_wp2_with (first
  |(go_at_call 117;refine kw (HF.out _) ?_)
  |(go_at_call 31;first|(with_reducible refine(fB.out _).mono ?_;rintro e w1 ⟨rfl,aj⟩;obtain⟨dK,fZ,jY,fV⟩:=aj.y2 w.heap.size 0 1 (J O 0) (J Y 0);have hz0:=au dK)|(with_reducible refine(iq.out _).mono ?_;rintro e w2 ⟨rfl,ak⟩;obtain⟨fC,iQ,mG,iO⟩:=ak.y2 w.heap.size 0 1 (J O 0) (J Y 0);have bU:=ak.e1 w1.heap.size 0 (J Y 2);have fG:=aK bU;have bT:=ak.e1 w1.heap.size 1 (J Y sa);have fF:=aK bT;have bQ:=ak.e1 w1.heap.size 2 (J Y xa);have fE:=aK bQ;have bP:=ak.e1 w1.heap.size 3 (J O ga);have fD:=aK bP;have hz1:=au fC))
  |(go_at_call 118;first|(with_reducible refine(jU.out _).mono ?_;rintro e va ⟨rfl,aC⟩;obtain⟨kC,gu,ku,f_⟩:=aC.y2 w.heap.size 0 1 (J O 0) (J Y 0);obtain⟨gJ,gI,gG,gB⟩:=aC.e4 w1.heap.size 0 1 2 3 (J Y 2) (J Y sa) (J Y xa) (J O ga);obtain⟨iV,iU,iT,iR⟩:=aC.e4 w2.heap.size 0 1 2 3 (J Y 2) (J Y sa) (J Y xb) (J O gb))|(with_reducible refine(oq.out _).mono ?_;rintro e vb ⟨rfl,aN⟩;obtain⟨nR,jv,nP,jo⟩:=aN.y2 w.heap.size 0 1 (J O 0) (J Y 0);obtain⟨jF,jE,jD,jC⟩:=aN.e4 w1.heap.size 0 1 2 3 (J Y 2) (J Y sa) (J Y xa) (J O ga);obtain⟨jB,jA,jy,jw⟩:=aN.e4 w2.heap.size 0 1 2 3 (J Y 2) (J Y sa) (J Y xb) (J O gb)))
  |(go_at_call 167;refine(HL.out _).mono ?_;rintro e w9 ⟨rfl,aP⟩;obtain⟨fP,fU,fO,fQ⟩:=aP.y2 w.heap.size 0 1 (J O 0) (J Y 0)))
 refine bodyPost_ret (v:=X #[J O z,J Y fl]) (by simp[results,Tryz.results79,go_sem,fP,fO]) rfl ⟨rfl,?_⟩
 exact Gb.g
theorem Ph(f mode a b ca sa xa ga cb sb xb gb:Int)(HF:KW 117 #[J Y f,J Y mode,J O a,J O b] (U true))(fB:KR 31 #[J Y f,J O a] (X #[J Y ca,J Y sa,J Y xa,J O ga]))(iq:KR 31 #[J Y f,J O b] (X #[J Y cb,J Y sb,J Y xb,J O gb]))(jU:KR 118 #[X #[J Y ca,J Y sa,J Y xa,J O ga]] (U false))(oq:KR 118 #[X #[J Y cb,J Y sb,J Y xb,J O gb]] (U false))(e1:(ca==2)=false)(e2:cb=2)(z fl:Int)(HL:KR 167 #[J Y f,J Y sb] (X #[J O z,J Y fl]))(w:World):
  QB 79 #[J Y f,J Y mode,J O a,J O b] w (X #[J O z,J Y fl]):=by
 subst e2
 go_enter func79,ntmps79
 go_wp2_with (first
  |(go_at_call 117;refine kw (HF.out _) ?_)
  |(go_at_call 31;first|(with_reducible refine(fB.out _).mono ?_;rintro e w1 ⟨rfl,aj⟩;obtain⟨dK,fZ,jY,fV⟩:=aj.y2 w.heap.size 0 1 (J O 0) (J Y 0);have hz0:=au dK)|(with_reducible refine(iq.out _).mono ?_;rintro e w2 ⟨rfl,ak⟩;obtain⟨fC,iQ,mG,iO⟩:=ak.y2 w.heap.size 0 1 (J O 0) (J Y 0);have bU:=ak.e1 w1.heap.size 0 (J Y ca);have fG:=aK bU;have bT:=ak.e1 w1.heap.size 1 (J Y sa);have fF:=aK bT;have bQ:=ak.e1 w1.heap.size 2 (J Y xa);have fE:=aK bQ;have bP:=ak.e1 w1.heap.size 3 (J O ga);have fD:=aK bP;have hz1:=au fC))
  |(go_at_call 118;first|(with_reducible refine(jU.out _).mono ?_;rintro e va ⟨rfl,aC⟩;obtain⟨kC,gu,ku,f_⟩:=aC.y2 w.heap.size 0 1 (J O 0) (J Y 0);obtain⟨gJ,gI,gG,gB⟩:=aC.e4 w1.heap.size 0 1 2 3 (J Y ca) (J Y sa) (J Y xa) (J O ga);obtain⟨iV,iU,iT,iR⟩:=aC.e4 w2.heap.size 0 1 2 3 (J Y 2) (J Y sb) (J Y xb) (J O gb))|(with_reducible refine(oq.out _).mono ?_;rintro e vb ⟨rfl,aN⟩;obtain⟨nR,jv,nP,jo⟩:=aN.y2 w.heap.size 0 1 (J O 0) (J Y 0);obtain⟨jF,jE,jD,jC⟩:=aN.e4 w1.heap.size 0 1 2 3 (J Y ca) (J Y sa) (J Y xa) (J O ga);obtain⟨jB,jA,jy,jw⟩:=aN.e4 w2.heap.size 0 1 2 3 (J Y 2) (J Y sb) (J Y xb) (J O gb)))
  |(go_at_call 167;refine(HL.out _).mono ?_;rintro e w9 ⟨rfl,aP⟩;obtain⟨fP,fU,fO,fQ⟩:=aP.y2 w.heap.size 0 1 (J O 0) (J Y 0)))
 refine bodyPost_ret (v:=X #[J O z,J Y fl]) (by simp[results,Tryz.results79,go_sem,fP,fO]) rfl ⟨rfl,?_⟩
 exact Gb.g
theorem TL(f mode a b ca sa xa ga cb sb xb gb:Int)(Ga Gb':Nat)(HF:KW 117 #[J Y f,J Y mode,J O a,J O b] (U true))(fB:KR 31 #[J Y f,J O a] (X #[J Y ca,J Y sa,J Y xa,J O ga]))(iq:KR 31 #[J Y f,J O b] (X #[J Y cb,J Y sb,J Y xb,J O gb]))(jU:KR 118 #[X #[J Y ca,J Y sa,J Y xa,J O ga]] (U false))(oq:KR 118 #[X #[J Y cb,J Y sb,J Y xb,J O gb]] (U false))(e1:(ca==2)=false)(e2:(cb==2)=false)(HNa:Hid (∀w,CT 121 #[X #[J Y ca,J Y sa,J Y xa,J O ga]] w fun e w'=>∃ba ka qa,aB 2 w' (E (some ⟨ba,0,none⟩) ka qa) Ga∧e=V (X #[J Y sa,E (some ⟨ba,0,none⟩) ka qa,J Y xa,U false])∧Gb w w'))(YM:Hid (∀w,CT 121 #[X #[J Y cb,J Y sb,J Y xb,J O gb]] w fun e w'=>∃bb kB qb,aB 2 w' (E (some ⟨bb,0,none⟩) kB qb) Gb'∧e=V (X #[J Y sb,E (some ⟨bb,0,none⟩) kB qb,J Y xb,U false])∧Gb w w'))(Q:Int→Int→Prop)(HS:Hid (∀ba ka qa bb kB qb w,aB 4 w (E (some ⟨ba,0,none⟩) ka qa) Ga→aB 4 w (E (some ⟨bb,0,none⟩) kB qb) Gb'→CT 168 #[J Y f,J Y mode,X #[J Y sa,E (some ⟨ba,0,none⟩) ka qa,J Y xa,U false],X #[J Y sb,E (some ⟨bb,0,none⟩) kB qb,J Y xb,U false]] w fun e w'=>∃z fl,Q z fl∧e=V (X #[J O z,J Y fl])∧Gb w w'))(w:World):
  CT 79 #[J Y f,J Y mode,J O a,J O b] w fun e w'=>∃z fl,Q z fl∧e=V (X #[J O z,J Y fl])∧Gb w w':=by
 go_enter func79,ntmps79
 go_wp2_with (first
  |(go_at_call 117;refine kw (HF.out _) ?_)
  |(go_at_call 31;first|(with_reducible refine(fB.out _).mono ?_;rintro e w1 ⟨rfl,aj⟩;obtain⟨dK,fZ,jY,fV⟩:=aj.y2 w.heap.size 0 1 (J O 0) (J Y 0);have hz0:=au dK)|(with_reducible refine(iq.out _).mono ?_;rintro e w2 ⟨rfl,ak⟩;obtain⟨fC,iQ,mG,iO⟩:=ak.y2 w.heap.size 0 1 (J O 0) (J Y 0);have bU:=ak.e1 w1.heap.size 0 (J Y ca);have fG:=aK bU;have bT:=ak.e1 w1.heap.size 1 (J Y sa);have fF:=aK bT;have bQ:=ak.e1 w1.heap.size 2 (J Y xa);have fE:=aK bQ;have bP:=ak.e1 w1.heap.size 3 (J O ga);have fD:=aK bP;have hz1:=au fC))
  |(go_at_call 118;first|(with_reducible refine(jU.out _).mono ?_;rintro e va ⟨rfl,aC⟩;obtain⟨kC,gu,ku,f_⟩:=aC.y2 w.heap.size 0 1 (J O 0) (J Y 0);obtain⟨gJ,gI,gG,gB⟩:=aC.e4 w1.heap.size 0 1 2 3 (J Y ca) (J Y sa) (J Y xa) (J O ga);obtain⟨iV,iU,iT,iR⟩:=aC.e4 w2.heap.size 0 1 2 3 (J Y cb) (J Y sb) (J Y xb) (J O gb))|(with_reducible refine(oq.out _).mono ?_;rintro e vb ⟨rfl,aN⟩;obtain⟨nR,jv,nP,jo⟩:=aN.y2 w.heap.size 0 1 (J O 0) (J Y 0);obtain⟨jF,jE,jD,jC⟩:=aN.e4 w1.heap.size 0 1 2 3 (J Y ca) (J Y sa) (J Y xa) (J O ga);obtain⟨jB,jA,jy,jw⟩:=aN.e4 w2.heap.size 0 1 2 3 (J Y cb) (J Y sb) (J Y xb) (J O gb))))
 go_region_held3 (fun w'=>w'.cell? ⟨w1.heap.size,0,none⟩=some (J Y ca)∧w'.cell? ⟨w1.heap.size,1,none⟩=some (J Y sa)∧w'.cell? ⟨w1.heap.size,2,none⟩=some (J Y xa)∧w'.cell? ⟨w1.heap.size,3,none⟩=some (J O ga)∧w'.cell? ⟨w2.heap.size,0,none⟩=some (J Y cb)∧w'.cell? ⟨w2.heap.size,1,none⟩=some (J Y sb)∧w'.cell? ⟨w2.heap.size,2,none⟩=some (J Y xb)∧w'.cell? ⟨w2.heap.size,3,none⟩=some (J O gb))
  ((go_split_ands;(repeat' apply And.intro)<;>exact kh))
  (first
   |(go_at_call 121;first|(with_reducible refine(HNa.out _).mono ?_;rintro e na ⟨ba,ka,qa,hba,rfl,aCy⟩;obtain⟨aE7,aEx,aE6,aEw⟩:=aCy.y2 w.heap.size 0 1 (J O 0) (J Y 0))|(with_reducible refine(YM.out _).mono ?_;rintro e nb ⟨bb,kB,qb,hbb,rfl,aCx⟩;obtain⟨aE5,aEv,aE4,aEu⟩:=aCx.y2 w.heap.size 0 1 (J O 0) (J Y 0)))
   |(go_at_call 168;refine(HS.out _ _ _ _ _ _ _ (aB.le (aB.gb hba Gb.g) om) (aB.le (aB.gb hbb Gb.g) om)).mono ?_;rintro e w9 ⟨z,fl,hq,rfl,aP⟩;obtain⟨fP,fU,fO,fQ⟩:=aP.y2 w.heap.size 0 1 (J O 0) (J Y 0)))
 all_goals (try go_split_ands)
 all_goals go_wp2
 all_goals
  refine bodyPost_ret (v:=X #[J O z,J Y fl]) (by simp[results,Tryz.results79,go_sem,fP,fO]) rfl ⟨z,fl,hq,rfl,?_⟩
  exact Gb.g
