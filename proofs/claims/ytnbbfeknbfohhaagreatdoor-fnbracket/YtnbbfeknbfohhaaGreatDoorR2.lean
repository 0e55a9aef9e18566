import Derived.Test.YtnbbfeknbfohhaaGreatDoorA8
import Derived.Deep.RegionHeld3
import Derived.Test.YtnbbfeknbfohhaaGreatDoorA1
set_option linter.unusedVariables false
set_option linter.unusedSimpArgs false
set_option maxRecDepth 1000000
set_option maxHeartbeats 40000000
open Go.Value renaming int → J
open Go.IntKind renaming i64 → Z
namespace Go.Proofs.YtnbbfeknbfohhaaGreatDoor
open Go.RowKit
theorem aB.set{K:Nat}{w:World}{b1 k1 c1 N:Nat}(h:aB K w (.slice (some ⟨b1,0,none⟩) k1 c1) N)(hN:0<N){B:Nat}{s:Int}(hc:w.cell? ⟨B,0,none⟩=some (J Z s))(o:Nat)(u:Value)(ho:o≠0):
  aB K (w.setCell ⟨B,o,none⟩ u) (.slice (some ⟨b1,0,none⟩) k1 c1) N∧(w.setCell ⟨B,o,none⟩ u).cell? ⟨B,0,none⟩=some (J Z s):=by
 obtain⟨n,h1,hnm,hlt,b,cap,e,h3,h4,h5⟩:=h
 simp only[Value.slice.injEq,Option.some.injEq,Addr.mk.injEq,and_true]at e
 obtain⟨rfl,rfl,rfl⟩:=e
 have hn:0<k1:=by
  rcases Nat.eq_zero_or_pos k1 with c|c
  ·have:=hnm.iff.mp c;omega
  ·exact c
 have hne:B≠b1:=by
  intro e
  subst e
  have:=h5 0 hn
  rw[hc]at this
  simp at this
 refine⟨⟨k1,h1,hnm,hlt,b1,c1,rfl,h3,h4,fun j hj=>bW (by simpa using hne) (h5 j hj)⟩,aS ho hc⟩
theorem aB.aAs{K:Nat}{w:World}{b1 k1 c1 N:Nat}(h:aB K w (.slice (some ⟨b1,0,none⟩) k1 c1) N)(hN:0<N){B:Nat}{s:Int}(hc:w.cell? ⟨B,0,none⟩=some (J Z s))(u1 u2 u3:Value):
  aB K (((w.setCell ⟨B,1,none⟩ u1).setCell ⟨B,2,none⟩ u2).setCell ⟨B,3,none⟩ u3) (.slice (some ⟨b1,0,none⟩) k1 c1) N:=by
 obtain⟨a1,a2⟩:=h.set hN hc 1 u1 de
 obtain⟨a3,a4⟩:=a1.set hN a2 2 u2 de
 exact(a3.set hN a4 3 u3 de).1
theorem QE{v:Value}{M:Nat}{w:World}{f p mn mx one mode sign e:Int}{rest:Bool}(HB:Hid (aB 100000 w v M))(HR:Hid (RC f p mn mx one mode sign w))(b1:24≤p)(b2:p≤53)(b3:-1022≤mn)(b4:mn≤-126)(b5:127≤mx)(b6:mx≤1023)(b7:0≤one)(b8:one≤4503599627370496)(n1:(nb M:Int)≤4000000)(e0:-1000000≤e)(e1:e≤1000000)(te top:Int)(ht:(nb M:Int)+e=te)(htop:te-1=top)(c0:top<mn-p-2)(lo half:Nat)(kK:Hid (∀v1 w',aB 100000 w' v1 1→CT 155 #[.agg #[J Z sign,v1,J Z (mn-p-2),.bool true],J Z (mn-p+1)] w' fun x w''=>∃vL,x=.returned (.tuple #[vL,J Z (half:Int)])∧aB 180000 w'' vL lo∧Gb w' w''))(nI:half≤3)(r:Nat)(hr:chosen mode sign lo half=r)(su:r<18446744073709551616)(hL:(nb r:Int)≤60)(z:Int)(mM:KW 151 #[J Z f,J Z sign,J .u64 r] (J .u64 z))(hh:0<(half:Int))(lo2 ji:Nat)(q2 tp:Int)(hq2:mn-p-2-p=tp)(zX:tp+1=q2)(AP:Hid (∀v1 w',aB 100000 w' v1 1→CT 155 #[.agg #[J Z sign,v1,J Z (mn-p-2),.bool true],J Z q2] w' fun x w''=>∃vL,x=.returned (.tuple #[vL,J Z (ji:Int)])∧aB 180000 w'' vL lo2∧Gb w' w''))(sZ:ji≤3)(r2:Nat)(hr2:chosen mode sign lo2 ji=r2)(hL2:(nb r2:Int)≤4000000)(hty:(nb r2:Int)+(mn-p-2)-p<mn):
  QB 65 #[J Z f,J Z mode,.agg #[J Z sign,v,J Z e,.bool rest]] w (.agg #[J .u64 z,J Z 24]):=by
 have u1:IntKind.i64.wrap ((nb M:Int)+e)=te:=by rw[ht];rw[IntKind.wrap_i64];omega
 have u2:IntKind.i64.wrap (te-1)=top:=by rw[htop];rw[IntKind.wrap_i64];omega
 have tb:-1000001≤top∧top≤5000001:=om
 clear ht htop
 have u3:IntKind.i64.wrap (mn-p-2-p)=tp:=by rw[hq2];rw[IntKind.wrap_i64];omega
 have u4:IntKind.i64.wrap (tp+1)=q2:=by rw[zX];rw[IntKind.wrap_i64];omega
 have um:Hid (∀w',CT 150 #[J .u64 1] w' fun x w''=>∃b1 k1 c1,x=.returned (.slice (some ⟨b1,0,none⟩) k1 c1)∧aB 100000 w'' (.slice (some ⟨b1,0,none⟩) k1 c1) 1∧Gb w' w''):=fun w'=>(dU 1 om w').mono (fun x w'' ⟨v',k,a1,a2,a3,a4⟩=>by obtain⟨b,c,rfl,_⟩:=Big.shape a2;exact⟨b,k,c,a1,⟨k,om,a2⟩,a4⟩)
 clear hq2 zX
 go_enter Tryz.func65,Tryz.ntmps65
 go_wp2
 go_region_held3 (fun w'=>w'.cell? ⟨w.heap.size,0,none⟩=some (J Z sign)∧w'.cell? ⟨w.heap.size,1,none⟩=some (v)∧w'.cell? ⟨w.heap.size,2,none⟩=some (J Z e)∧w'.cell? ⟨w.heap.size,3,none⟩=some (.bool rest)∧w'.cell? ⟨w.heap.size+1,0,none⟩=some (J .u64 0)∧w'.frozen? ⟨w.heap.size+1,0,none⟩=false∧w'.cell? ⟨w.heap.size+1,1,none⟩=some (J Z 0)∧w'.frozen? ⟨w.heap.size+1,1,none⟩=false∧w'.frozen? ⟨w.heap.size,1,none⟩=false∧w'.frozen? ⟨w.heap.size,2,none⟩=false∧w'.frozen? ⟨w.heap.size,3,none⟩=false)
  ((go_split_ands;(repeat' apply And.intro)<;>exact kb))
  (first|(go_at_call 152;refine kw (RC.len HR.out 100000 _ M _ om (aB.gb HB.out kg)) ?_))
 all_goals
  (try go_split_ands)
  go_wp2_with (first
   |(go_at_call 153;refine kw (RC.max HR.out _) ?_)
   |(go_at_call 116;refine kw (RC.min HR.out _) ?_)
   |(go_at_call 115;refine kw (RC.prec HR.out _) ?_)
   |(go_at_call 114;refine kw (RC.two HR.out _) ?_)
   |(go_at_call 150;refine(um.out _).mono ?_;rintro x wb ⟨b1,k1,c1,rfl,hb1,aDZ⟩;obtain⟨bx0,bx1,ug,IC⟩:rW wb w.heap.size 0 1 2 3 (J Z sign) (v) (J Z e) (.bool rest):=⟨kb,kb,kb,kb⟩;obtain⟨iF,Z_,jh,Z9⟩:kJ wb (w.heap.size+1) 0 1 (J .u64 0) (J Z 0):=⟨kb,kb,kb,kb⟩;have bq1:wb.frozen? ⟨w.heap.size,1,none⟩=false:=kb;have bq2:wb.frozen? ⟨w.heap.size,2,none⟩=false:=kb;have bq3:wb.frozen? ⟨w.heap.size,3,none⟩=false:=kb;have aFk:=au iF;have hset:=aB.aAs hb1 om bx0)
   |(go_at_call 155;refine(kK.out _ _ (by first|(with_reducible assumption)|(exact hset _ _ _)|(refine aB.gb (hset _ _ _) kg)|(refine aB.gb (by with_reducible assumption) kg))).mono ?_;rintro x wc ⟨vL,rfl,hbL,hgc⟩;obtain⟨vO,nO,tY,yC⟩:rW wc w.heap.size 0 1 2 3 (J Z sign) ((.slice (some ⟨b1,0,none⟩) k1 c1)) (J Z (mn-p-2)) (.bool true):=⟨kb,kb,kb,kb⟩;obtain⟨lV,RJ,nX,RI⟩:kJ wc (w.heap.size+1) 0 1 (J .u64 0) (J Z 0):=⟨kb,kb,kb,kb⟩)
   |(go_at_call 156;refine(RC.choose HR.out _ lo half _ (by first|(with_reducible assumption)|(exact hset _ _ _)|(refine aB.gb (hset _ _ _) kg)|(refine aB.gb (by with_reducible assumption) kg)) nI).mono ?_;rintro x wd ⟨vr,rfl,hbr,hgd⟩;(try rw[hr]at hbr);obtain⟨ZX,QV,QU,ZW⟩:rW wd w.heap.size 0 1 2 3 (J Z sign) ((.slice (some ⟨b1,0,none⟩) k1 c1)) (J Z (mn-p-2)) (.bool true):=⟨kb,kb,kb,kb⟩;obtain⟨vH,dz0,vG,dz1⟩:kJ wd (w.heap.size+1) 0 1 (J .u64 0) (J Z 0):=⟨kb,kb,kb,kb⟩)
   |(go_at_call 152;refine(RC.len HR.out 190000 _ r _ om (by first|(with_reducible assumption)|(exact hset _ _ _)|(refine aB.gb (hset _ _ _) kg)|(refine aB.gb (by with_reducible assumption) kg))).mono ?_;rintro x wk ⟨rfl,hw⟩;subst hw)
   |(go_at_call 157;refine(RC.word HR.out _ r _ (by first|(with_reducible assumption)|(exact hset _ _ _)|(refine aB.gb (hset _ _ _) kg)|(refine aB.gb (by with_reducible assumption) kg)) su).mono ?_;rintro x wk ⟨rfl,hw⟩;subst hw)
   |(go_at_call 151;refine kw (mM.out _) ?_)
   |(go_at_call 154;refine(qw.out _).mono ?_;rintro x wo ⟨rfl,hgo⟩;obtain⟨ox0,WC,WB,ox3⟩:rW wo w.heap.size 0 1 2 3 (J Z sign) ((.slice (some ⟨b1,0,none⟩) k1 c1)) (J Z (mn-p-2)) (.bool true):=⟨kb,kb,kb,kb⟩;obtain⟨AV,WA,AU,Wy⟩:kJ wo (w.heap.size+1) 0 1 (J .u64 0) (J Z 0):=⟨kb,kb,kb,kb⟩))
  go_region_held3 (fun w'=>w'.cell? ⟨w.heap.size,0,none⟩=some (J Z sign)∧w'.cell? ⟨w.heap.size,1,none⟩=some ((.slice (some ⟨b1,0,none⟩) k1 c1))∧w'.cell? ⟨w.heap.size,2,none⟩=some (J Z (mn-p-2))∧w'.cell? ⟨w.heap.size,3,none⟩=some (.bool true)∧w'.cell? ⟨w.heap.size+1,0,none⟩=some (J .u64 0)∧w'.frozen? ⟨w.heap.size+1,0,none⟩=false∧w'.cell? ⟨w.heap.size+1,1,none⟩=some (J Z 0)∧w'.frozen? ⟨w.heap.size+1,1,none⟩=false)
   ((go_split_ands;(repeat' apply And.intro)<;>exact kb))
   (first
    |(go_at_call 115;refine kw (RC.prec HR.out _) ?_)
    |(go_at_call 155;refine(AP.out _ _ (by first|(with_reducible assumption)|(exact hset _ _ _)|(refine aB.gb (hset _ _ _) kg)|(refine aB.gb (by with_reducible assumption) kg))).mono ?_;rintro x we ⟨vL2,rfl,aCE,hge⟩;obtain⟨aCN,aCM,aCL,aCK⟩:rW we w.heap.size 0 1 2 3 (J Z sign) ((.slice (some ⟨b1,0,none⟩) k1 c1)) (J Z (mn-p-2)) (.bool true):=⟨kb,kb,kb,kb⟩;obtain⟨aCP,aCJ,aCO,aCI⟩:kJ we (w.heap.size+1) 0 1 (J .u64 0) (J Z 0):=⟨kb,kb,kb,kb⟩))
  all_goals
   (try go_split_ands)
   go_wp2_with (first
    |(go_at_call 153;refine kw (RC.max HR.out _) ?_)
    |(go_at_call 116;refine kw (RC.min HR.out _) ?_)
    |(go_at_call 115;refine kw (RC.prec HR.out _) ?_)
    |(go_at_call 114;refine kw (RC.two HR.out _) ?_)
    |(go_at_call 150;refine(um.out _).mono ?_;rintro x wb ⟨b1,k1,c1,rfl,hb1,aDZ⟩;obtain⟨bx0,bx1,ug,IC⟩:rW wb w.heap.size 0 1 2 3 (J Z sign) (v) (J Z e) (.bool rest):=⟨kb,kb,kb,kb⟩;obtain⟨iF,Z_,jh,Z9⟩:kJ wb (w.heap.size+1) 0 1 (J .u64 0) (J Z 0):=⟨kb,kb,kb,kb⟩)
    |(go_at_call 156;refine(RC.choose HR.out _ lo2 ji _ (by first|(with_reducible assumption)|(exact hset _ _ _)|(refine aB.gb (hset _ _ _) kg)|(refine aB.gb (by with_reducible assumption) kg)) sZ).mono ?_;rintro x wf ⟨vr2,rfl,U4,hgf⟩;(try rw[hr2]at U4);obtain⟨fx0,fx1,fx2,fx3⟩:rW wf w.heap.size 0 1 2 3 (J Z sign) ((.slice (some ⟨b1,0,none⟩) k1 c1)) (J Z (mn-p-2)) (.bool true):=⟨kb,kb,kb,kb⟩;obtain⟨QS,fz0,QO,fz1⟩:kJ wf (w.heap.size+1) 0 1 (J .u64 0) (J Z 0):=⟨kb,kb,kb,kb⟩)
    |(go_at_call 152;refine(RC.len HR.out 190000 _ r2 _ om (by first|(with_reducible assumption)|(exact hset _ _ _)|(refine aB.gb (hset _ _ _) kg)|(refine aB.gb (by with_reducible assumption) kg))).mono ?_;rintro x wk ⟨rfl,hw⟩;subst hw)
    |(go_at_call 157;refine(RC.word HR.out _ r _ (by first|(with_reducible assumption)|(exact hset _ _ _)|(refine aB.gb (hset _ _ _) kg)|(refine aB.gb (by with_reducible assumption) kg)) su).mono ?_;rintro x wk ⟨rfl,hw⟩;subst hw)
    |(go_at_call 151;refine kw (mM.out _) ?_)
    |(go_at_call 154;refine(qw.out _).mono ?_;rintro x wo ⟨rfl,hgo⟩;obtain⟨ox0,WC,WB,ox3⟩:rW wo w.heap.size 0 1 2 3 (J Z sign) ((.slice (some ⟨b1,0,none⟩) k1 c1)) (J Z (mn-p-2)) (.bool true):=⟨kb,kb,kb,kb⟩;obtain⟨AV,WA,AU,Wy⟩:kJ wo (w.heap.size+1) 0 1 (J .u64 0) (J Z 0):=⟨kb,kb,kb,kb⟩))
   refine bodyPost_ret (v:=.agg #[J .u64 z,J Z 24]) (by simp[results,Tryz.results65,go_sem,QS,QO]) rfl ⟨rfl,?_⟩
   exact kg
theorem qM{r P:Nat}(h:r≤2^P):nb r≤P+1:=nT (by have:=aW (show P≤P+1 by omega);rw[Nat.pow_succ]at*;have:=Nat.pow_pos (n:=P) (show 0<2 by decide);omega)
theorem FZ{r P:Nat}(h:r<2^P):nb r≤P:=nT h
theorem xu{f p mx one inf sg nan:Int}(h:aI f p mx one inf sg nan){v:Value}{n M:Nat}{w:World}(hB:Big w v n M)(hn:n≤100000)(hM:0<M)(hnb:nb M≤3200000)
  (mode sign e:Int) (rest:Bool) (m0:0≤mode) (m1:mode≤4) (hs:sign=0∨sign=1) (e0:-900000≤e) (e1:e≤900000) (hst:rest=true→p+2≤nb M):
  CT 65 #[J Z f,J Z mode,.agg #[J Z sign,v,J Z e,.bool rest]] w fun x w'=>∃z fl,aH p (1-mx) mx one inf mode sign M e rest z fl∧0≤z∧z<sg∧x=.returned (.agg #[J .u64 (sw sign sg z),J Z fl])∧Gb w w':=by
 obtain⟨b1,b2,b3,b4,b5,b6,b7,b8,b9,b10,b11,b12⟩:=h.bounds
 obtain⟨mn,hmn⟩:∃mn,1-mx=mn:=⟨_,rfl⟩
 have HR:Hid (RC f p mn mx one mode sign w):=aBY h hmn mode sign m0 m1 hs w
 have HB:Hid (aB 100000 w v M):=⟨n,hn,hB⟩
 have oL:-1022≤mn∧mn≤-126:=om
 obtain⟨P,hP,aA6,hone⟩:=h.pow
 have hone':one=((2^P:Nat):Int):=by rw[hone];push_cast;rfl
 have oM:inf=one*(2*mx+1):=by rcases h with⟨rfl,rfl,rfl,rfl,rfl,rfl,rfl⟩|⟨rfl,rfl,rfl,rfl,rfl,rfl,rfl⟩<;>decide
 have hov:0≤iw inf mode sign∧iw inf mode sign<sg:=by unfold iw;split<;>omega
 have hP2:2^P≤4503599627370496:=om
 have hsucc:2^(P+1)=2*2^P:=by rw[Nat.pow_succ];omega
 have qw:KR 154 #[J Z f,J Z mode,J Z sign] (.agg #[J .u64 (sw sign sg (iw inf mode sign)),J Z 20]):=fun w'=>J_ h mode sign _ m0 m1 (by
  unfold sw
  rcases hs with rfl|rfl
  ·exact .inl ⟨rfl,by simp⟩
  ·exact .inr ⟨rfl,by simp⟩) w'
 have mM:∀z:Int,0≤z→z<sg→KW 151 #[J Z f,J Z sign,J .u64 z] (J .u64 (sw sign sg z)):=fun z z0 z1 w'=>oH h sign z _ (by
  unfold sw
  rcases hs with rfl|rfl
  ·exact .inl ⟨rfl,by simp⟩
  ·exact .inr ⟨rfl,by simp⟩) z0 z1 w'
 obtain⟨top,htop⟩:∃top:Int,top=nb M+e-1:=⟨_,rfl⟩
 have hpos:=qL M hM
 rw[hmn]
 have kK:∀q:Int,-1000000≤q→q≤1000000→Hid (∀w',Gb w w'→CT 155 #[.agg #[J Z sign,v,J Z e,.bool rest],J Z q] w' fun x w''=>∃vL,x=.returned (.tuple #[vL,J Z (aG M e q rest:Int)])∧aB 180000 w'' vL (aT M e q)∧Gb w' w''):=fun q q0 q1 w' hg=>
  (wH (hB.gb hg) hn sign e q rest om om q0 q1).mono (fun x w'' ⟨vL,k,a1,a2,a3,a4⟩=>⟨vL,a1,⟨k,om,a2⟩,a4⟩)
 by_cases ho:mx<top
 ·refine(QD HB HR b1 b2 oL.1 oL.2 b3 b4 om b6 om om om (nb M+e) top rfl om _ qw ho).mono ?_
  rintro x w' ⟨rfl,hg⟩
  by_cases hc:top<mn
  ·exact⟨_,_,⟨top,mn,_,_,_,htop,.inl ⟨hc,rfl⟩,rfl,rfl,rfl,.inl ⟨ho,rfl,rfl⟩⟩,hov.1,hov.2,rfl,hg⟩
  ·exact⟨_,_,⟨top,top,_,_,_,htop,.inr ⟨om,rfl⟩,rfl,rfl,rfl,.inl ⟨ho,rfl,rfl⟩⟩,hov.1,hov.2,rfl,hg⟩
 by_cases hlow:top<mn-p-2
 ·
  have UY:=N7 M e (mn-p+1) rest hM om
  have ZP:∀q:Int,-1000000≤q→q≤1000000→Hid (∀v1 w',aB 100000 w' v1 1→CT 155 #[.agg #[J Z sign,v1,J Z (mn-p-2),.bool true],J Z q] w' fun x w''=>∃vL,x=.returned (.tuple #[vL,J Z (aG 1 (mn-p-2) q true:Int)])∧aB 180000 w'' vL (aT 1 (mn-p-2) q)∧Gb w' w''):=fun q q0 q1 v1 w' ⟨k1,hk1,hb1⟩=>
   (wH hb1 hk1 sign (mn-p-2) q true om om q0 q1).mono (fun x w'' ⟨vL,k,a1,a2,a3,a4⟩=>⟨vL,a1,⟨k,om,a2⟩,a4⟩)
  have h1:nb 1=1:=de
  have ZO:=N7 1 (mn-p-2) (mn-p+1) true de (by rw[h1];omega)
  have hr1:=gZ mode sign 0 1
  have hlo2:=kG 1 (mn-p-2) (mn-p-2-p+1) p.toNat (by rw[h1];omega)
  have hr2:=gZ mode sign (aT 1 (mn-p-2) (mn-p-2-p+1)) (aG 1 (mn-p-2) (mn-p-2-p+1) true)
  have aDU:=qM (r:=chosen mode sign (aT 1 (mn-p-2) (mn-p-2-p+1)) (aG 1 (mn-p-2) (mn-p-2-p+1) true)) (P:=p.toNat) om
  have aFg:=qM (r:=chosen mode sign 0 1) (P:=0) om
  have HP':=mM (chosen mode sign 0 1:Nat) om om
  have hC1:=ZP (mn-p+1) om om
  rw[ZO.1,ZO.2]at hC1
  refine(QE HB HR b1 b2 oL.1 oL.2 b3 b4 om b6 om om om (nb M+e) top rfl om hlow 0 1 hC1 om (chosen mode sign 0 1) rfl om om _ HP' om
   _ _ (mn-p-2-p+1) (mn-p-2-p) rfl rfl (ZP (mn-p-2-p+1) om om) (dO _ _ _ _) _ rfl om om).mono ?_
  rintro x w' ⟨rfl,hg⟩
  refine⟨_,_,⟨top,mn,_,_,_,htop,.inl ⟨om,rfl⟩,rfl,rfl,rfl,.inr (.inr ⟨om,?_,?_,.inr (.inl ⟨?_,.inl om,rfl⟩)⟩)⟩,?_,?_,rfl,hg⟩
  ·rw[UY.1,UY.2];simp;omega
  ·rw[UY.1,UY.2];simp
  ·rw[UY.2];decide
  ·omega
  ·omega
 ·by_cases hS:top<mn
  ·
   have hlo:=kG M e (mn-p+1) P om
   have hrl:=gZ mode sign (aT M e (mn-p+1)) (aG M e (mn-p+1) rest)
   obtain⟨r,hr⟩:∃r,chosen mode sign (aT M e (mn-p+1)) (aG M e (mn-p+1) rest)=r:=⟨_,rfl⟩
   obtain⟨r2,hr2⟩:∃r2,chosen mode sign (aT M e (top-p+1)) (aG M e (top-p+1) rest)=r2:=⟨_,rfl⟩
   rw[hr]at hrl
   have hrP:r≤2^P:=om
   have aDT:=qM hrP
   have hlo2:=kG M e (top-p+1) (P+1) om
   have hrl2:=gZ mode sign (aT M e (top-p+1)) (aG M e (top-p+1) rest)
   rw[hr2]at hrl2
   have aDN:r2≤2^(P+1):=om
   have aEy:=qM aDN
   have HP':=mM (r:Int) om om
   have xw:(r:Int)+one*(mn-mn)<inf:=by rw[Int.sub_self,Int.mul_zero];omega
   have hz:((r:Nat):Int)=(r:Int)+one*(mn-mn):=by rw[Int.sub_self,Int.mul_zero];omega
   rcases Nat.eq_zero_or_pos (aG M e (mn-p+1) rest)with c|c
   ·refine(J8 HB HR b1 b2 oL.1 oL.2 b3 b4 om b6 om om om (nb M+e) top rfl om om hS _ _ (kK (mn-p+1) om om) (dO _ _ _ _) r hr om _ HP' om om).mono ?_
    rintro x w' ⟨rfl,hg⟩
    exact⟨_,_,⟨top,mn,r,r2,_,htop,.inl ⟨hS,rfl⟩,rfl,hr.symm,hr2.symm,.inr (.inr ⟨om,xw,hz,.inl ⟨c,rfl⟩⟩)⟩,om,om,rfl,hg⟩
   ·by_cases hty:(nb r2:Int)+top-p<mn
    ·refine(J7 HB HR b1 b2 oL.1 oL.2 b3 b4 om b6 om om om (nb M+e) top rfl om om hS _ _ (kK (mn-p+1) om om) (dO _ _ _ _) r hr om _ HP' om om _ _ (top-p+1) (top-p) rfl rfl (kK (top-p+1) om om) (dO _ _ _ _) r2 hr2 om hty).mono ?_
     rintro x w' ⟨rfl,hg⟩
     refine⟨_,_,⟨top,mn,r,r2,_,htop,.inl ⟨hS,rfl⟩,rfl,hr.symm,hr2.symm,.inr (.inr ⟨om,xw,hz,.inr (.inl ⟨c,?_,rfl⟩)⟩)⟩,om,om,rfl,hg⟩
     by_cases ht1:top=mn-1
     ·refine .inr ⟨ht1,?_⟩
      have:r2<2^(P+1):=by
       rcases Nat.lt_or_ge r2 (2^(P+1))with k|k
       ·exact k
       ·have:=sG k;omega
      omega
     ·exact .inl om
    ·refine(J6 HB HR b1 b2 oL.1 oL.2 b3 b4 om b6 om om om (nb M+e) top rfl om om hS _ _ (kK (mn-p+1) om om) (dO _ _ _ _) r hr om _ HP' om om _ _ (top-p+1) (top-p) rfl rfl (kK (top-p+1) om om) (dO _ _ _ _) r2 hr2 om om).mono ?_
     rintro x w' ⟨rfl,hg⟩
     refine⟨_,_,⟨top,mn,r,r2,_,htop,.inl ⟨hS,rfl⟩,rfl,hr.symm,hr2.symm,.inr (.inr ⟨om,xw,hz,.inr (.inr ⟨c,.inr ⟨om,?_⟩,rfl⟩)⟩)⟩,om,om,rfl,hg⟩
     have:2^(P+1)≤r2:=by
      rcases Nat.lt_or_ge r2 (2^(P+1))with k|k
      ·have:=FZ k;omega
      ·exact k
     omega
  ·
   have hlo:=kG M e (top-p+1) (P+1) om
   have hge:=Ap M e (top-p+1) P hM om
   have hrl:=gZ mode sign (aT M e (top-p+1)) (aG M e (top-p+1) rest)
   obtain⟨r,hr⟩:∃r,chosen mode sign (aT M e (top-p+1)) (aG M e (top-p+1) rest)=r:=⟨_,rfl⟩
   rw[hr]at hrl
   have aDT:=qM (r:=r) (P:=P+1) om
   have aFf:=sG (N:=r) (k:=P) om
   obtain⟨Y,hY⟩:∃Y,one*(top-mn)=Y:=⟨_,rfl⟩
   have hYb:0≤Y∧Y≤one*(mx-mn):=by
    rw[←hY]
    exact⟨Int.mul_nonneg om om,Int.mul_le_mul_of_nonneg_left om om⟩
   have hYm:one*(mx-mn)=inf-2*one:=by rw[oM,show mx-mn=(2*mx+1)-2 by omega,Int.mul_sub,Int.mul_comm one 2]
   have hYs:top<mx→Y≤inf-3*one:=by
    intro k
    have:Y≤one*(mx-1-mn):=by rw[←hY];exact Int.mul_le_mul_of_nonneg_left om om
    rw[show mx-1-mn=(2*mx+1)-3 by omega,Int.mul_sub,←oM,Int.mul_comm one 3]at this
    omega
   by_cases aDQ:mx<(nb r:Int)+(top-p+1)-1
   ·have hrr:r=2^(P+1)∧top=mx:=by
     have hb:P+1<nb r:=om
     have:2^(P+1)≤r:=by
      rcases Nat.lt_or_ge r (2^(P+1))with k|k
      ·have:=FZ k;omega
      ·exact k
     omega
    refine(J3 HB HR b1 b2 oL.1 oL.2 b3 b4 om b6 om om om (nb M+e) top rfl om om om _ _ (kK (top-p+1) om om) (dO _ _ _ _) r hr om om _ qw aDQ).mono ?_
    rintro x w' ⟨rfl,hg⟩
    refine⟨_,_,⟨top,top,r,r,_,htop,.inr ⟨om,rfl⟩,rfl,hr.symm,hr.symm,.inr (.inl ⟨om,?_,rfl,rfl⟩)⟩,hov.1,hov.2,rfl,hg⟩
    rw[hY]
    have:Y=one*(mx-mn):=by rw[←hY,hrr.2]
    omega
   ·have hlt:(r:Int)+Y<inf:=by
     rcases Nat.lt_or_ge r (2^(P+1))with k|k
     ·omega
     ·have:=sG k
      have:=hYs om
      omega
    have hz:(r:Int)+Y=(r:Int)+one*(top-mn):=by rw[hY]
    have xw:(r:Int)+one*(top-mn)<inf:=by rw[hY];exact hlt
    by_cases hE:top=mn
    ·have hY0:Y=0:=by rw[←hY,hE,Int.sub_self,Int.mul_zero]
     have HP':=mM (r:Int) om om
     have hz':(r:Int)=(r:Int)+one*(top-mn):=by rw[hY];omega
     rcases Nat.eq_zero_or_pos (aG M e (top-p+1) rest)with c|c
     ·refine(Gs HB HR b1 b2 oL.1 oL.2 b3 b4 om b6 om om om (nb M+e) top rfl om om om om _ _ (kK (top-p+1) om om) (dO _ _ _ _) r hr om om _ HP' om om).mono ?_
      rintro x w' ⟨rfl,hg⟩
      exact⟨_,_,⟨top,top,r,r,_,htop,.inr ⟨om,rfl⟩,rfl,hr.symm,hr.symm,.inr (.inr ⟨om,xw,hz',.inl ⟨c,rfl⟩⟩)⟩,om,om,rfl,hg⟩
     ·refine(Gq HB HR b1 b2 oL.1 oL.2 b3 b4 om b6 om om om (nb M+e) top rfl om (top-p+1) (top-p) rfl rfl om om om _ _ (kK (top-p+1) om om) (dO _ _ _ _) r hr om om _ HP' om om _ _ (kK (top-p+1) om om) (dO _ _ _ _) r hr om om).mono ?_
      rintro x w' ⟨rfl,hg⟩
      exact⟨_,_,⟨top,top,r,r,_,htop,.inr ⟨om,rfl⟩,rfl,hr.symm,hr.symm,.inr (.inr ⟨om,xw,hz',.inr (.inr ⟨c,.inl om,rfl⟩)⟩)⟩,om,om,rfl,hg⟩
    ·have HP':=mM ((r:Int)+Y) om om
     have hYw:IntKind.u64.wrap (one*(top-p+1-(mn-p+1)))=Y:=by
      rw[show top-p+1-(mn-p+1)=top-mn by omega,hY,IntKind.wrap_u64];omega
     rcases Nat.eq_zero_or_pos (aG M e (top-p+1) rest)with c|c
     ·refine(J5 HB HR b1 b2 oL.1 oL.2 b3 b4 om b6 om om om (nb M+e) top rfl om om om _ _ (kK (top-p+1) om om) (dO _ _ _ _) r hr om om _ Y hYw om om HP' om om).mono ?_
      rintro x w' ⟨rfl,hg⟩
      exact⟨_,_,⟨top,top,r,r,_,htop,.inr ⟨om,rfl⟩,rfl,hr.symm,hr.symm,.inr (.inr ⟨om,xw,hz,.inl ⟨c,rfl⟩⟩)⟩,om,om,rfl,hg⟩
     ·refine(J4 HB HR b1 b2 oL.1 oL.2 b3 b4 om b6 om om om (nb M+e) top rfl om (top-p+1) (top-p) rfl rfl om om om _ _ (kK (top-p+1) om om) (dO _ _ _ _) r hr om om _ Y hYw om om HP' om om _ _ (kK (top-p+1) om om) (dO _ _ _ _) r hr om om).mono ?_
      rintro x w' ⟨rfl,hg⟩
      exact⟨_,_,⟨top,top,r,r,_,htop,.inr ⟨om,rfl⟩,rfl,hr.symm,hr.symm,.inr (.inr ⟨om,xw,hz,.inr (.inr ⟨c,.inl om,rfl⟩)⟩)⟩,om,om,rfl,hg⟩
