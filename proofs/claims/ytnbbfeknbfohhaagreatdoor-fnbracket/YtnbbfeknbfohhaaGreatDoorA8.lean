import Derived.Test.YtnbbfeknbfohhaaGreatDoorA1
import Derived.Test.YtnbbfeknbfohhaaGreatDoorB0
import Derived.Test.YtnbbfeknbfohhaaGreatDoorA9
import Derived.Deep.RegionHeld3
set_option linter.unusedVariables false
set_option linter.unusedSimpArgs false
set_option maxHeartbeats 40000000
open Go.Value renaming int → J, agg → O, bool → V
open Go.IntKind renaming i64 → Y, u64 → Z
open Go.Ending renaming returned → X
open Go.Proofs.Tryz
namespace Go.Proofs.YtnbbfeknbfohhaaGreatDoor
open Go.RowKit
theorem oH{f p mx one inf sg nan:Int}(h:aI f p mx one inf sg nan)(s v z:Int)(hs:s=0∧z=v∨s=1∧z=v+sg)(v0:0≤v)(v1:v<sg)(w:World):
  QW 151 #[J Y f,J Y s,J Z v] w (J Z z):=by
 rcases hs with⟨rfl,rfl⟩|⟨rfl,rfl⟩
 ·exact J9 f _ w
 ·exact QF h v v0 v1 w
theorem mO(m:Int)(b:Bool)(hb:b=decide (0≤m∧m≤4))(w:World):
  QW 62 #[J Y m] w (V b):=by
 rcases(show(m<0∧b=false)∨(0≤m∧m≤4∧b=true)∨(4<m∧b=false) by
  cases b
  ·have:=of_decide_eq_false hb.symm
   simp only[and_true,Bool.false_eq_true,and_false,false_or];omega
  ·have:=of_decide_eq_true hb.symm
   simp only[and_true,Bool.true_eq_false,and_false,false_or,or_false];omega)with⟨c,rfl⟩|⟨c,d,rfl⟩|⟨c,rfl⟩
 all_goals
  clear hb
  go_enter func62,ntmps62
  go_wp2
  go_returns
  first|exact⟨rfl,rfl⟩|exact⟨aU (congrArg Value.bool (decide_eq_false om)),rfl⟩|exact⟨aU (congrArg Value.bool (decide_eq_true om)),rfl⟩
theorem J_{f p mx one inf sg nan:Int}(h:aI f p mx one inf sg nan)(mode sign z:Int)(m0:0≤mode)(m1:mode≤4)(hs:sign=0∧z=iw inf mode sign∨sign=1∧z=iw inf mode sign+sg)(w:World):
  QR 154 #[J Y f,J Y mode,J Y sign] w (O #[J Z z,J Y 20]):=by
 obtain⟨b1,b2,b3,b4,b5,b6,b7,b8,b9,b10,b11,b12⟩:=h.bounds
 have HI:KW 112 #[J Y f] (J Z inf):=fun w=>dQ h w
 have HP:Hid (∀v w,v=inf∨v=inf-1→v=iw inf mode sign→QW 151 #[J Y f,J Y sign,J Z v] w (J Z z)):=fun v w hv hz=>oH h sign v z (by rw[hz];exact hs) om om w
 have hcase:(mode=0∧iw inf mode sign=inf)∨(mode=1∧iw inf mode sign=inf)∨(mode=2∧iw inf mode sign=inf-1)∨(mode=3∧sign=0∧iw inf mode sign=inf)∨(mode=3∧sign=1∧iw inf mode sign=inf-1)∨(mode=4∧sign=0∧iw inf mode sign=inf-1)∨(mode=4∧sign=1∧iw inf mode sign=inf):=by
  have hs':sign=0∨sign=1:=om
  unfold iw
  rcases(show mode=0∨mode=1∨mode=2∨mode=3∨mode=4 by omega)with rfl|rfl|rfl|rfl|rfl<;>rcases hs' with rfl|rfl<;>simp
 clear hs h
 rcases hcase with⟨rfl,e⟩|⟨rfl,e⟩|⟨rfl,e⟩|⟨rfl,rfl,e⟩|⟨rfl,rfl,e⟩|⟨rfl,rfl,e⟩|⟨rfl,rfl,e⟩
 all_goals
  have HE:Hid _:=e.symm
  clear e
  go_enter func154,ntmps154
  go_wp2_with (first
   |(go_at_call 112;refine kw (HI.out _) ?_)
   |(go_at_call 151;refine kw (HP.out _ _ om HE.out) ?_))
  go_returns
  exact⟨rfl,kr⟩
def aB(K:Nat)(w:World)(v:Value)(N:Nat):Prop:=∃n,n≤K∧Big w v n N
theorem aB.gb{K:Nat}{w w':World}{v:Value}{N:Nat}(h:aB K w v N)(k:Gb w w'):aB K w' v N:=by
 obtain⟨n,h1,h2⟩:=h
 exact⟨n,h1,h2.gb k⟩
structure RC (f p mn mx one mode sign:Int) (w:World):Prop where
 max:∀w,QW 153 #[J Y f] w (J Y mx)
 min:∀w,QW 116 #[J Y f] w (J Y mn)
 prec:∀w,QW 115 #[J Y f] w (J Y p)
 two:∀w,QW 114 #[J Y (p-1)] w (J Z one)
 len:∀K v N w,K≤200000→aB K w v N→QW 152 #[v] w (J Y (nb N))
 word:∀v N w,aB 190000 w v N→N<18446744073709551616→QW 157 #[v] w (J Z N)
 choose:∀v (L:Nat) (half:Nat) w,aB 180000 w v L→half≤3→CT 156 #[J Y mode,J Y sign,v,J Y half] w fun x w'=>∃v',x=X v'∧aB 190000 w' v' (chosen mode sign L half)∧Gb w w'
theorem aBY{f p mn mx one inf sg nan:Int}(h:aI f p mx one inf sg nan)(hmn:1-mx=mn)(mode sign:Int)(m0:0≤mode)(m1:mode≤4)(hs:sign=0∨sign=1)(w:World):RC f p mn mx one mode sign w where
 max:=fun w=>wF h w
 min:=fun w=>hmn▸oI h w
 prec:=fun w=>lD h w
 two:=fun w=>mQ h w
 len:=fun K v N w hK ⟨n,h1,h2⟩=>wG h2 om
 word:=fun v N w ⟨n,h1,h2⟩ hN=>zQ h2 om hN
 choose:=fun v L half w ⟨n,h1,h2⟩ hh=>(vk h2 om mode sign half m0 m1 hs hh).mono (fun x w' ⟨v',k,a1,a2,a3,a4⟩=>⟨v',a1,⟨k,om,a2⟩,a4⟩)
set_option maxRecDepth 1000000
theorem Zp{P:Prop}(h:P:=by
 have u1:IntKind.i64.wrap ((nb M:Int)+e)=te:=by rw[ht];rw[IntKind.wrap_i64];omega
 have u2:IntKind.i64.wrap (te-1)=top:=by rw[htop];rw[IntKind.wrap_i64];omega
 have tb:-1000001≤top∧top≤5000001:=om
 clear ht htop
 go_enter func65,ntmps65
 go_wp2
 go_region_held3 (fun w'=>w'.cell? ⟨w.heap.size,0,none⟩=some (J Y sign)∧w'.cell? ⟨w.heap.size,1,none⟩=some (v)∧w'.cell? ⟨w.heap.size,2,none⟩=some (J Y e)∧w'.cell? ⟨w.heap.size,3,none⟩=some (V rest)∧w'.cell? ⟨w.heap.size+1,0,none⟩=some (J Z 0)∧w'.frozen? ⟨w.heap.size+1,0,none⟩=false∧w'.cell? ⟨w.heap.size+1,1,none⟩=some (J Y 0)∧w'.frozen? ⟨w.heap.size+1,1,none⟩=false)
  ((go_split_ands;(repeat' apply And.intro)<;>exact kb))
  (first|(go_at_call 152;refine kw (RC.len HR.out 100000 _ M _ om (aB.gb HB.out kg)) ?_))
 all_goals
  (try go_split_ands)
  go_wp2_with (first
   |(go_at_call 153;refine kw (RC.max HR.out _) ?_)
   |(go_at_call 116;refine kw (RC.min HR.out _) ?_)
   |(go_at_call 115;refine kw (RC.prec HR.out _) ?_)
   |(go_at_call 114;refine kw (RC.two HR.out _) ?_)
   |(go_at_call 155;refine(kK.out _ kg).mono ?_;rintro x wc ⟨vL,rfl,hbL,hgc⟩;obtain⟨vO,nO,tY,yC⟩:rW wc w.heap.size 0 1 2 3 (J Y sign) (v) (J Y e) (V rest):=⟨ks,ks,ks,ks⟩;obtain⟨lV,RJ,nX,RI⟩:kJ wc (w.heap.size+1) 0 1 (J Z 0) (J Y 0):=⟨ks,ks,ks,ks⟩)
   |(go_at_call 156;refine(RC.choose HR.out _ lo half _ (by first|(with_reducible assumption)|(refine aB.gb (by with_reducible assumption) kg)) nI).mono ?_;rintro x wd ⟨vr,rfl,hbr,hgd⟩;(try rw[hr]at hbr);obtain⟨ZX,QV,QU,ZW⟩:rW wd w.heap.size 0 1 2 3 (J Y sign) (v) (J Y e) (V rest):=⟨ks,ks,ks,ks⟩;obtain⟨vH,dz0,vG,dz1⟩:kJ wd (w.heap.size+1) 0 1 (J Z 0) (J Y 0):=⟨ks,ks,ks,ks⟩)
   |(go_at_call 152;refine(RC.len HR.out 190000 _ r _ om (by first|(with_reducible assumption)|(refine aB.gb (by with_reducible assumption) kg))).mono ?_;rintro x wk ⟨rfl,hw⟩;subst hw)
   |(go_at_call 157;refine(RC.word HR.out _ r _ (by first|(with_reducible assumption)|(refine aB.gb (by with_reducible assumption) kg)) su).mono ?_;rintro x wk ⟨rfl,hw⟩;subst hw)
   |(go_at_call 151;refine kw (mM.out _) ?_)
   |(go_at_call 154;refine(qw.out _).mono ?_;rintro x wo ⟨rfl,hgo⟩;obtain⟨ox0,WC,WB,ox3⟩:rW wo w.heap.size 0 1 2 3 (J Y sign) (v) (J Y e) (V rest):=⟨ks,ks,ks,ks⟩;obtain⟨AV,WA,AU,Wy⟩:kJ wo (w.heap.size+1) 0 1 (J Z 0) (J Y 0):=⟨ks,ks,ks,ks⟩))
  refine bodyPost_ret (v:=O #[J Z z,J Y 20]) (by simp[results,Tryz.results65,go_sem,AV,AU]) rfl ⟨rfl,?_⟩
  exact kg):P:=h
theorem SY{P:Prop}(h:P:=by
 have u1:IntKind.i64.wrap ((nb M:Int)+e)=te:=by rw[ht];rw[IntKind.wrap_i64];omega
 have u2:IntKind.i64.wrap (te-1)=top:=by rw[htop];rw[IntKind.wrap_i64];omega
 have tb:-1000001≤top∧top≤5000001:=om
 clear ht htop
 go_enter func65,ntmps65
 go_wp2
 go_region_held3 (fun w'=>w'.cell? ⟨w.heap.size,0,none⟩=some (J Y sign)∧w'.cell? ⟨w.heap.size,1,none⟩=some (v)∧w'.cell? ⟨w.heap.size,2,none⟩=some (J Y e)∧w'.cell? ⟨w.heap.size,3,none⟩=some (V rest)∧w'.cell? ⟨w.heap.size+1,0,none⟩=some (J Z 0)∧w'.frozen? ⟨w.heap.size+1,0,none⟩=false∧w'.cell? ⟨w.heap.size+1,1,none⟩=some (J Y 0)∧w'.frozen? ⟨w.heap.size+1,1,none⟩=false)
  ((go_split_ands;(repeat' apply And.intro)<;>exact kb))
  (first|(go_at_call 152;refine kw (RC.len HR.out 100000 _ M _ om (aB.gb HB.out kg)) ?_))
 all_goals
  (try go_split_ands)
  go_wp2_with (first
   |(go_at_call 153;refine kw (RC.max HR.out _) ?_)
   |(go_at_call 116;refine kw (RC.min HR.out _) ?_)
   |(go_at_call 115;refine kw (RC.prec HR.out _) ?_)
   |(go_at_call 114;refine kw (RC.two HR.out _) ?_)
   |(go_at_call 155;refine(kK.out _ kg).mono ?_;rintro x wc ⟨vL,rfl,hbL,hgc⟩;obtain⟨vO,nO,tY,yC⟩:rW wc w.heap.size 0 1 2 3 (J Y sign) (v) (J Y e) (V rest):=⟨ks,ks,ks,ks⟩;obtain⟨lV,RJ,nX,RI⟩:kJ wc (w.heap.size+1) 0 1 (J Z 0) (J Y 0):=⟨ks,ks,ks,ks⟩)
   |(go_at_call 156;refine(RC.choose HR.out _ lo half _ (by first|(with_reducible assumption)|(refine aB.gb (by with_reducible assumption) kg)) nI).mono ?_;rintro x wd ⟨vr,rfl,hbr,hgd⟩;(try rw[hr]at hbr);obtain⟨ZX,QV,QU,ZW⟩:rW wd w.heap.size 0 1 2 3 (J Y sign) (v) (J Y e) (V rest):=⟨ks,ks,ks,ks⟩;obtain⟨vH,dz0,vG,dz1⟩:kJ wd (w.heap.size+1) 0 1 (J Z 0) (J Y 0):=⟨ks,ks,ks,ks⟩)
   |(go_at_call 152;refine(RC.len HR.out 190000 _ r _ om (by first|(with_reducible assumption)|(refine aB.gb (by with_reducible assumption) kg))).mono ?_;rintro x wk ⟨rfl,hw⟩;subst hw)
   |(go_at_call 157;refine(RC.word HR.out _ r _ (by first|(with_reducible assumption)|(refine aB.gb (by with_reducible assumption) kg)) su).mono ?_;rintro x wk ⟨rfl,hw⟩;subst hw)
   |(go_at_call 151;refine kw (mM.out _) ?_)
   |(go_at_call 154;refine(qw.out _).mono ?_;rintro x wo ⟨rfl,hgo⟩;obtain⟨ox0,WC,WB,ox3⟩:rW wo w.heap.size 0 1 2 3 (J Y sign) (v) (J Y e) (V rest):=⟨ks,ks,ks,ks⟩;obtain⟨AV,WA,AU,Wy⟩:kJ wo (w.heap.size+1) 0 1 (J Z 0) (J Y 0):=⟨ks,ks,ks,ks⟩))
  refine bodyPost_ret (v:=O #[J Z z,J Y 0]) (by simp[results,Tryz.results65,go_sem,vH,vG]) rfl ⟨rfl,?_⟩
  exact kg):P:=h
theorem QD{v:Value}{M:Nat}{w:World}{f p mn mx one mode sign e:Int}{rest:Bool}(HB:Hid (aB 100000 w v M))(HR:Hid (RC f p mn mx one mode sign w))(b1:24≤p)(b2:p≤53)(b3:-1022≤mn)(b4:mn≤-126)(b5:127≤mx)(b6:mx≤1023)(b7:0≤one)(b8:one≤4503599627370496)(n1:(nb M:Int)≤4000000)(e0:-1000000≤e)(e1:e≤1000000)(te top:Int)(ht:(nb M:Int)+e=te)(htop:te-1=top)(z:Int)(qw:KR 154 #[J Y f,J Y mode,J Y sign] (O #[J Z z,J Y 20]))(c:mx<top):
  QB 65 #[J Y f,J Y mode,O #[J Y sign,v,J Y e,V rest]] w (O #[J Z z,J Y 20]):=by
 exact Zp
theorem J8{v:Value}{M:Nat}{w:World}{f p mn mx one mode sign e:Int}{rest:Bool}(HB:Hid (aB 100000 w v M))(HR:Hid (RC f p mn mx one mode sign w))(b1:24≤p)(b2:p≤53)(b3:-1022≤mn)(b4:mn≤-126)(b5:127≤mx)(b6:mx≤1023)(b7:0≤one)(b8:one≤4503599627370496)(n1:(nb M:Int)≤4000000)(e0:-1000000≤e)(e1:e≤1000000)(te top:Int)(ht:(nb M:Int)+e=te)(htop:te-1=top)(c0:mn-p-2≤top)(c1:top<mn)(lo half:Nat)(kK:Hid (∀w',Gb w w'→CT 155 #[O #[J Y sign,v,J Y e,V rest],J Y (mn-p+1)] w' fun x w''=>∃vL,x=X (.tuple #[vL,J Y (half:Int)])∧aB 180000 w'' vL lo∧Gb w' w''))(nI:half≤3)(r:Nat)(hr:chosen mode sign lo half=r)(su:r<18446744073709551616)(z:Int)(mM:KW 151 #[J Y f,J Y sign,J Z r] (J Z z))(hL:(nb r:Int)≤60)(hh:(half:Int)≤0):
  QB 65 #[J Y f,J Y mode,O #[J Y sign,v,J Y e,V rest]] w (O #[J Z z,J Y 0]):=by
 exact SY
theorem J3{v:Value}{M:Nat}{w:World}{f p mn mx one mode sign e:Int}{rest:Bool}(HB:Hid (aB 100000 w v M))(HR:Hid (RC f p mn mx one mode sign w))(b1:24≤p)(b2:p≤53)(b3:-1022≤mn)(b4:mn≤-126)(b5:127≤mx)(b6:mx≤1023)(b7:0≤one)(b8:one≤4503599627370496)(n1:(nb M:Int)≤4000000)(e0:-1000000≤e)(e1:e≤1000000)(te top:Int)(ht:(nb M:Int)+e=te)(htop:te-1=top)(c0:mn≤top)(c1:top≤mx)(lo half:Nat)(kK:Hid (∀w',Gb w w'→CT 155 #[O #[J Y sign,v,J Y e,V rest],J Y (top-p+1)] w' fun x w''=>∃vL,x=X (.tuple #[vL,J Y (half:Int)])∧aB 180000 w'' vL lo∧Gb w' w''))(nI:half≤3)(r:Nat)(hr:chosen mode sign lo half=r)(su:r<18446744073709551616)(hL:(nb r:Int)≤60)(z:Int)(qw:KR 154 #[J Y f,J Y mode,J Y sign] (O #[J Z z,J Y 20]))(hov:mx<(nb r:Int)+(top-p+1)-1):
  QB 65 #[J Y f,J Y mode,O #[J Y sign,v,J Y e,V rest]] w (O #[J Z z,J Y 20]):=by
 exact Zp
theorem Gs{v:Value}{M:Nat}{w:World}{f p mn mx one mode sign e:Int}{rest:Bool}(HB:Hid (aB 100000 w v M))(HR:Hid (RC f p mn mx one mode sign w))(b1:24≤p)(b2:p≤53)(b3:-1022≤mn)(b4:mn≤-126)(b5:127≤mx)(b6:mx≤1023)(b7:0≤one)(b8:one≤4503599627370496)(n1:(nb M:Int)≤4000000)(e0:-1000000≤e)(e1:e≤1000000)(te top:Int)(ht:(nb M:Int)+e=te)(htop:te-1=top)(c0:mn≤top)(c2:top≤mn)(c1:top≤mx)(lo half:Nat)(kK:Hid (∀w',Gb w w'→CT 155 #[O #[J Y sign,v,J Y e,V rest],J Y (top-p+1)] w' fun x w''=>∃vL,x=X (.tuple #[vL,J Y (half:Int)])∧aB 180000 w'' vL lo∧Gb w' w''))(nI:half≤3)(r:Nat)(hr:chosen mode sign lo half=r)(su:r<18446744073709551616)(hL:(nb r:Int)≤60)(z:Int)(mM:KW 151 #[J Y f,J Y sign,J Z r] (J Z z))(hov:(nb r:Int)+(top-p+1)-1≤mx)(hh:(half:Int)≤0):
  QB 65 #[J Y f,J Y mode,O #[J Y sign,v,J Y e,V rest]] w (O #[J Z z,J Y 0]):=by
 exact SY
theorem J5{v:Value}{M:Nat}{w:World}{f p mn mx one mode sign e:Int}{rest:Bool}(HB:Hid (aB 100000 w v M))(HR:Hid (RC f p mn mx one mode sign w))(b1:24≤p)(b2:p≤53)(b3:-1022≤mn)(b4:mn≤-126)(b5:127≤mx)(b6:mx≤1023)(b7:0≤one)(b8:one≤4503599627370496)(n1:(nb M:Int)≤4000000)(e0:-1000000≤e)(e1:e≤1000000)(te top:Int)(ht:(nb M:Int)+e=te)(htop:te-1=top)(c2:mn<top)(c1:top≤mx)(lo half:Nat)(kK:Hid (∀w',Gb w w'→CT 155 #[O #[J Y sign,v,J Y e,V rest],J Y (top-p+1)] w' fun x w''=>∃vL,x=X (.tuple #[vL,J Y (half:Int)])∧aB 180000 w'' vL lo∧Gb w' w''))(nI:half≤3)(r:Nat)(hr:chosen mode sign lo half=r)(su:r<18446744073709551616)(hL:(nb r:Int)≤60)(z:Int)(y:Int)(hy:IntKind.u64.wrap (one*(top-p+1-(mn-p+1)))=y)(y0:0≤y)(hry:(r:Int)+y<18446744073709551616)(mM:KW 151 #[J Y f,J Y sign,J Z ((r:Int)+y)] (J Z z))(hov:(nb r:Int)+(top-p+1)-1≤mx)(hh:(half:Int)≤0):
  QB 65 #[J Y f,J Y mode,O #[J Y sign,v,J Y e,V rest]] w (O #[J Z z,J Y 0]):=by
 exact SY
theorem Zo{P:Prop}(h:P:=by
 have u1:IntKind.i64.wrap ((nb M:Int)+e)=te:=by rw[ht];rw[IntKind.wrap_i64];omega
 have u2:IntKind.i64.wrap (te-1)=top:=by rw[htop];rw[IntKind.wrap_i64];omega
 have tb:-1000001≤top∧top≤5000001:=om
 clear ht htop
 have u3:IntKind.i64.wrap (top-p)=tp:=by rw[hq2];rw[IntKind.wrap_i64];omega
 have u4:IntKind.i64.wrap (tp+1)=q2:=by rw[zX];rw[IntKind.wrap_i64];omega
 have qb:-1000060≤q2∧q2≤5000060:=om
 exact Zq):P:=h
theorem Zq{P:Prop}(h:P:=by
 clear hq2 zX
 go_enter func65,ntmps65
 go_wp2
 go_region_held3 (fun w'=>w'.cell? ⟨w.heap.size,0,none⟩=some (J Y sign)∧w'.cell? ⟨w.heap.size,1,none⟩=some (v)∧w'.cell? ⟨w.heap.size,2,none⟩=some (J Y e)∧w'.cell? ⟨w.heap.size,3,none⟩=some (V rest)∧w'.cell? ⟨w.heap.size+1,0,none⟩=some (J Z 0)∧w'.frozen? ⟨w.heap.size+1,0,none⟩=false∧w'.cell? ⟨w.heap.size+1,1,none⟩=some (J Y 0)∧w'.frozen? ⟨w.heap.size+1,1,none⟩=false)
  ((go_split_ands;(repeat' apply And.intro)<;>exact kb))
  (first|(go_at_call 152;refine kw (RC.len HR.out 100000 _ M _ om (aB.gb HB.out kg)) ?_))
 all_goals
  (try go_split_ands)
  go_wp2_with (first
   |(go_at_call 153;refine kw (RC.max HR.out _) ?_)
   |(go_at_call 116;refine kw (RC.min HR.out _) ?_)
   |(go_at_call 115;refine kw (RC.prec HR.out _) ?_)
   |(go_at_call 114;refine kw (RC.two HR.out _) ?_)
   |(go_at_call 155;refine(kK.out _ kg).mono ?_;rintro x wc ⟨vL,rfl,hbL,hgc⟩;obtain⟨vO,nO,tY,yC⟩:rW wc w.heap.size 0 1 2 3 (J Y sign) (v) (J Y e) (V rest):=⟨ks,ks,ks,ks⟩;obtain⟨lV,RJ,nX,RI⟩:kJ wc (w.heap.size+1) 0 1 (J Z 0) (J Y 0):=⟨ks,ks,ks,ks⟩)
   |(go_at_call 156;refine(RC.choose HR.out _ lo half _ (by first|(with_reducible assumption)|(refine aB.gb (by with_reducible assumption) kg)) nI).mono ?_;rintro x wd ⟨vr,rfl,hbr,hgd⟩;(try rw[hr]at hbr);obtain⟨ZX,QV,QU,ZW⟩:rW wd w.heap.size 0 1 2 3 (J Y sign) (v) (J Y e) (V rest):=⟨ks,ks,ks,ks⟩;obtain⟨vH,dz0,vG,dz1⟩:kJ wd (w.heap.size+1) 0 1 (J Z 0) (J Y 0):=⟨ks,ks,ks,ks⟩)
   |(go_at_call 152;refine(RC.len HR.out 190000 _ r _ om (by first|(with_reducible assumption)|(refine aB.gb (by with_reducible assumption) kg))).mono ?_;rintro x wk ⟨rfl,hw⟩;subst hw)
   |(go_at_call 157;refine(RC.word HR.out _ r _ (by first|(with_reducible assumption)|(refine aB.gb (by with_reducible assumption) kg)) su).mono ?_;rintro x wk ⟨rfl,hw⟩;subst hw)
   |(go_at_call 151;refine kw (mM.out _) ?_)
   |(go_at_call 154;refine(qw.out _).mono ?_;rintro x wo ⟨rfl,hgo⟩;obtain⟨ox0,WC,WB,ox3⟩:rW wo w.heap.size 0 1 2 3 (J Y sign) (v) (J Y e) (V rest):=⟨ks,ks,ks,ks⟩;obtain⟨AV,WA,AU,Wy⟩:kJ wo (w.heap.size+1) 0 1 (J Z 0) (J Y 0):=⟨ks,ks,ks,ks⟩))
  go_region_held3 (fun w'=>w'.cell? ⟨w.heap.size,0,none⟩=some (J Y sign)∧w'.cell? ⟨w.heap.size,1,none⟩=some (v)∧w'.cell? ⟨w.heap.size,2,none⟩=some (J Y e)∧w'.cell? ⟨w.heap.size,3,none⟩=some (V rest)∧w'.cell? ⟨w.heap.size+1,0,none⟩=some (J Z 0)∧w'.frozen? ⟨w.heap.size+1,0,none⟩=false∧w'.cell? ⟨w.heap.size+1,1,none⟩=some (J Y 0)∧w'.frozen? ⟨w.heap.size+1,1,none⟩=false)
   ((go_split_ands;(repeat' apply And.intro)<;>exact kb))
   (first
    |(go_at_call 115;refine kw (RC.prec HR.out _) ?_)
    |(go_at_call 155;refine(AP.out _ kg).mono ?_;rintro x we ⟨vL2,rfl,aCE,hge⟩;obtain⟨aCN,aCM,aCL,aCK⟩:rW we w.heap.size 0 1 2 3 (J Y sign) (v) (J Y e) (V rest):=⟨ks,ks,ks,ks⟩;obtain⟨aCP,aCJ,aCO,aCI⟩:kJ we (w.heap.size+1) 0 1 (J Z 0) (J Y 0):=⟨ks,ks,ks,ks⟩))
  all_goals
   (try go_split_ands)
   go_wp2_with (first
    |(go_at_call 153;refine kw (RC.max HR.out _) ?_)
    |(go_at_call 116;refine kw (RC.min HR.out _) ?_)
    |(go_at_call 115;refine kw (RC.prec HR.out _) ?_)
    |(go_at_call 114;refine kw (RC.two HR.out _) ?_)
    |(go_at_call 156;refine(RC.choose HR.out _ lo2 ji _ (by first|(with_reducible assumption)|(refine aB.gb (by with_reducible assumption) kg)) sZ).mono ?_;rintro x wf ⟨vr2,rfl,U4,hgf⟩;(try rw[hr2]at U4);obtain⟨fx0,fx1,fx2,fx3⟩:rW wf w.heap.size 0 1 2 3 (J Y sign) (v) (J Y e) (V rest):=⟨ks,ks,ks,ks⟩;obtain⟨QS,fz0,QO,fz1⟩:kJ wf (w.heap.size+1) 0 1 (J Z 0) (J Y 0):=⟨ks,ks,ks,ks⟩)
    |(go_at_call 152;refine(RC.len HR.out 190000 _ r2 _ om (by first|(with_reducible assumption)|(refine aB.gb (by with_reducible assumption) kg))).mono ?_;rintro x wk ⟨rfl,hw⟩;subst hw)
    |(go_at_call 157;refine(RC.word HR.out _ r _ (by first|(with_reducible assumption)|(refine aB.gb (by with_reducible assumption) kg)) su).mono ?_;rintro x wk ⟨rfl,hw⟩;subst hw)
    |(go_at_call 151;refine kw (mM.out _) ?_)
    |(go_at_call 154;refine(qw.out _).mono ?_;rintro x wo ⟨rfl,hgo⟩;obtain⟨ox0,WC,WB,ox3⟩:rW wo w.heap.size 0 1 2 3 (J Y sign) (v) (J Y e) (V rest):=⟨ks,ks,ks,ks⟩;obtain⟨AV,WA,AU,Wy⟩:kJ wo (w.heap.size+1) 0 1 (J Z 0) (J Y 0):=⟨ks,ks,ks,ks⟩))
   refine bodyPost_ret (v:=O #[J Z z,J Y 16]) (by simp[results,Tryz.results65,go_sem,QS,QO]) rfl ⟨rfl,?_⟩
   exact kg):P:=h
theorem J7{v:Value}{M:Nat}{w:World}{f p mn mx one mode sign e:Int}{rest:Bool}(HB:Hid (aB 100000 w v M))(HR:Hid (RC f p mn mx one mode sign w))(b1:24≤p)(b2:p≤53)(b3:-1022≤mn)(b4:mn≤-126)(b5:127≤mx)(b6:mx≤1023)(b7:0≤one)(b8:one≤4503599627370496)(n1:(nb M:Int)≤4000000)(e0:-1000000≤e)(e1:e≤1000000)(te top:Int)(ht:(nb M:Int)+e=te)(htop:te-1=top)(c0:mn-p-2≤top)(c1:top<mn)(lo half:Nat)(kK:Hid (∀w',Gb w w'→CT 155 #[O #[J Y sign,v,J Y e,V rest],J Y (mn-p+1)] w' fun x w''=>∃vL,x=X (.tuple #[vL,J Y (half:Int)])∧aB 180000 w'' vL lo∧Gb w' w''))(nI:half≤3)(r:Nat)(hr:chosen mode sign lo half=r)(su:r<18446744073709551616)(z:Int)(mM:KW 151 #[J Y f,J Y sign,J Z r] (J Z z))(hL:(nb r:Int)≤60)(hh:0<(half:Int))(lo2 ji:Nat)(q2 tp:Int)(hq2:top-p=tp)(zX:tp+1=q2)(AP:Hid (∀w',Gb w w'→CT 155 #[O #[J Y sign,v,J Y e,V rest],J Y q2] w' fun x w''=>∃vL,x=X (.tuple #[vL,J Y (ji:Int)])∧aB 180000 w'' vL lo2∧Gb w' w''))(sZ:ji≤3)(r2:Nat)(hr2:chosen mode sign lo2 ji=r2)(hL2:(nb r2:Int)≤4000000)(hty:(nb r2:Int)+top-p<mn):
  QB 65 #[J Y f,J Y mode,O #[J Y sign,v,J Y e,V rest]] w (O #[J Z z,J Y 24]):=by
 have u1:IntKind.i64.wrap ((nb M:Int)+e)=te:=by rw[ht];rw[IntKind.wrap_i64];omega
 have u2:IntKind.i64.wrap (te-1)=top:=by rw[htop];rw[IntKind.wrap_i64];omega
 have tb:-1000001≤top∧top≤5000001:=om
 clear ht htop
 have u3:IntKind.i64.wrap (top-p)=tp:=by rw[hq2];rw[IntKind.wrap_i64];omega
 have u4:IntKind.i64.wrap (tp+1)=q2:=by rw[zX];rw[IntKind.wrap_i64];omega
 clear hq2 zX
 go_enter func65,ntmps65
 go_wp2
 go_region_held3 (fun w'=>w'.cell? ⟨w.heap.size,0,none⟩=some (J Y sign)∧w'.cell? ⟨w.heap.size,1,none⟩=some (v)∧w'.cell? ⟨w.heap.size,2,none⟩=some (J Y e)∧w'.cell? ⟨w.heap.size,3,none⟩=some (V rest)∧w'.cell? ⟨w.heap.size+1,0,none⟩=some (J Z 0)∧w'.frozen? ⟨w.heap.size+1,0,none⟩=false∧w'.cell? ⟨w.heap.size+1,1,none⟩=some (J Y 0)∧w'.frozen? ⟨w.heap.size+1,1,none⟩=false)
  ((go_split_ands;(repeat' apply And.intro)<;>exact kb))
  (first|(go_at_call 152;refine kw (RC.len HR.out 100000 _ M _ om (aB.gb HB.out kg)) ?_))
 all_goals
  (try go_split_ands)
  go_wp2_with (first
   |(go_at_call 153;refine kw (RC.max HR.out _) ?_)
   |(go_at_call 116;refine kw (RC.min HR.out _) ?_)
   |(go_at_call 115;refine kw (RC.prec HR.out _) ?_)
   |(go_at_call 114;refine kw (RC.two HR.out _) ?_)
   |(go_at_call 155;refine(kK.out _ kg).mono ?_;rintro x wc ⟨vL,rfl,hbL,hgc⟩;obtain⟨vO,nO,tY,yC⟩:rW wc w.heap.size 0 1 2 3 (J Y sign) (v) (J Y e) (V rest):=⟨ks,ks,ks,ks⟩;obtain⟨lV,RJ,nX,RI⟩:kJ wc (w.heap.size+1) 0 1 (J Z 0) (J Y 0):=⟨ks,ks,ks,ks⟩)
   |(go_at_call 156;refine(RC.choose HR.out _ lo half _ (by first|(with_reducible assumption)|(refine aB.gb (by with_reducible assumption) kg)) nI).mono ?_;rintro x wd ⟨vr,rfl,hbr,hgd⟩;(try rw[hr]at hbr);obtain⟨ZX,QV,QU,ZW⟩:rW wd w.heap.size 0 1 2 3 (J Y sign) (v) (J Y e) (V rest):=⟨ks,ks,ks,ks⟩;obtain⟨vH,dz0,vG,dz1⟩:kJ wd (w.heap.size+1) 0 1 (J Z 0) (J Y 0):=⟨ks,ks,ks,ks⟩)
   |(go_at_call 152;refine(RC.len HR.out 190000 _ r _ om (by first|(with_reducible assumption)|(refine aB.gb (by with_reducible assumption) kg))).mono ?_;rintro x wk ⟨rfl,hw⟩;subst hw)
   |(go_at_call 157;refine(RC.word HR.out _ r _ (by first|(with_reducible assumption)|(refine aB.gb (by with_reducible assumption) kg)) su).mono ?_;rintro x wk ⟨rfl,hw⟩;subst hw)
   |(go_at_call 151;refine kw (mM.out _) ?_)
   |(go_at_call 154;refine(qw.out _).mono ?_;rintro x wo ⟨rfl,hgo⟩;obtain⟨ox0,WC,WB,ox3⟩:rW wo w.heap.size 0 1 2 3 (J Y sign) (v) (J Y e) (V rest):=⟨ks,ks,ks,ks⟩;obtain⟨AV,WA,AU,Wy⟩:kJ wo (w.heap.size+1) 0 1 (J Z 0) (J Y 0):=⟨ks,ks,ks,ks⟩))
  go_region_held3 (fun w'=>w'.cell? ⟨w.heap.size,0,none⟩=some (J Y sign)∧w'.cell? ⟨w.heap.size,1,none⟩=some (v)∧w'.cell? ⟨w.heap.size,2,none⟩=some (J Y e)∧w'.cell? ⟨w.heap.size,3,none⟩=some (V rest)∧w'.cell? ⟨w.heap.size+1,0,none⟩=some (J Z 0)∧w'.frozen? ⟨w.heap.size+1,0,none⟩=false∧w'.cell? ⟨w.heap.size+1,1,none⟩=some (J Y 0)∧w'.frozen? ⟨w.heap.size+1,1,none⟩=false)
   ((go_split_ands;(repeat' apply And.intro)<;>exact kb))
   (first
    |(go_at_call 115;refine kw (RC.prec HR.out _) ?_)
    |(go_at_call 155;refine(AP.out _ kg).mono ?_;rintro x we ⟨vL2,rfl,aCE,hge⟩;obtain⟨aCN,aCM,aCL,aCK⟩:rW we w.heap.size 0 1 2 3 (J Y sign) (v) (J Y e) (V rest):=⟨ks,ks,ks,ks⟩;obtain⟨aCP,aCJ,aCO,aCI⟩:kJ we (w.heap.size+1) 0 1 (J Z 0) (J Y 0):=⟨ks,ks,ks,ks⟩))
  all_goals
   (try go_split_ands)
   go_wp2_with (first
    |(go_at_call 153;refine kw (RC.max HR.out _) ?_)
    |(go_at_call 116;refine kw (RC.min HR.out _) ?_)
    |(go_at_call 115;refine kw (RC.prec HR.out _) ?_)
    |(go_at_call 114;refine kw (RC.two HR.out _) ?_)
    |(go_at_call 156;refine(RC.choose HR.out _ lo2 ji _ (by first|(with_reducible assumption)|(refine aB.gb (by with_reducible assumption) kg)) sZ).mono ?_;rintro x wf ⟨vr2,rfl,U4,hgf⟩;(try rw[hr2]at U4);obtain⟨fx0,fx1,fx2,fx3⟩:rW wf w.heap.size 0 1 2 3 (J Y sign) (v) (J Y e) (V rest):=⟨ks,ks,ks,ks⟩;obtain⟨QS,fz0,QO,fz1⟩:kJ wf (w.heap.size+1) 0 1 (J Z 0) (J Y 0):=⟨ks,ks,ks,ks⟩)
    |(go_at_call 152;refine(RC.len HR.out 190000 _ r2 _ om (by first|(with_reducible assumption)|(refine aB.gb (by with_reducible assumption) kg))).mono ?_;rintro x wk ⟨rfl,hw⟩;subst hw)
    |(go_at_call 157;refine(RC.word HR.out _ r _ (by first|(with_reducible assumption)|(refine aB.gb (by with_reducible assumption) kg)) su).mono ?_;rintro x wk ⟨rfl,hw⟩;subst hw)
    |(go_at_call 151;refine kw (mM.out _) ?_)
    |(go_at_call 154;refine(qw.out _).mono ?_;rintro x wo ⟨rfl,hgo⟩;obtain⟨ox0,WC,WB,ox3⟩:rW wo w.heap.size 0 1 2 3 (J Y sign) (v) (J Y e) (V rest):=⟨ks,ks,ks,ks⟩;obtain⟨AV,WA,AU,Wy⟩:kJ wo (w.heap.size+1) 0 1 (J Z 0) (J Y 0):=⟨ks,ks,ks,ks⟩))
   refine bodyPost_ret (v:=O #[J Z z,J Y 24]) (by simp[results,Tryz.results65,go_sem,QS,QO]) rfl ⟨rfl,?_⟩
   exact kg
theorem J6{v:Value}{M:Nat}{w:World}{f p mn mx one mode sign e:Int}{rest:Bool}(HB:Hid (aB 100000 w v M))(HR:Hid (RC f p mn mx one mode sign w))(b1:24≤p)(b2:p≤53)(b3:-1022≤mn)(b4:mn≤-126)(b5:127≤mx)(b6:mx≤1023)(b7:0≤one)(b8:one≤4503599627370496)(n1:(nb M:Int)≤4000000)(e0:-1000000≤e)(e1:e≤1000000)(te top:Int)(ht:(nb M:Int)+e=te)(htop:te-1=top)(c0:mn-p-2≤top)(c1:top<mn)(lo half:Nat)(kK:Hid (∀w',Gb w w'→CT 155 #[O #[J Y sign,v,J Y e,V rest],J Y (mn-p+1)] w' fun x w''=>∃vL,x=X (.tuple #[vL,J Y (half:Int)])∧aB 180000 w'' vL lo∧Gb w' w''))(nI:half≤3)(r:Nat)(hr:chosen mode sign lo half=r)(su:r<18446744073709551616)(z:Int)(mM:KW 151 #[J Y f,J Y sign,J Z r] (J Z z))(hL:(nb r:Int)≤60)(hh:0<(half:Int))(lo2 ji:Nat)(q2 tp:Int)(hq2:top-p=tp)(zX:tp+1=q2)(AP:Hid (∀w',Gb w w'→CT 155 #[O #[J Y sign,v,J Y e,V rest],J Y q2] w' fun x w''=>∃vL,x=X (.tuple #[vL,J Y (ji:Int)])∧aB 180000 w'' vL lo2∧Gb w' w''))(sZ:ji≤3)(r2:Nat)(hr2:chosen mode sign lo2 ji=r2)(hL2:(nb r2:Int)≤4000000)(hty:mn≤(nb r2:Int)+top-p):
  QB 65 #[J Y f,J Y mode,O #[J Y sign,v,J Y e,V rest]] w (O #[J Z z,J Y 16]):=by
 have u1:IntKind.i64.wrap ((nb M:Int)+e)=te:=by rw[ht];rw[IntKind.wrap_i64];omega
 have u2:IntKind.i64.wrap (te-1)=top:=by rw[htop];rw[IntKind.wrap_i64];omega
 have tb:-1000001≤top∧top≤5000001:=om
 clear ht htop
 have u3:IntKind.i64.wrap (top-p)=tp:=by rw[hq2];rw[IntKind.wrap_i64];omega
 have u4:IntKind.i64.wrap (tp+1)=q2:=by rw[zX];rw[IntKind.wrap_i64];omega
 exact Zq
theorem Gq{v:Value}{M:Nat}{w:World}{f p mn mx one mode sign e:Int}{rest:Bool}(HB:Hid (aB 100000 w v M))(HR:Hid (RC f p mn mx one mode sign w))(b1:24≤p)(b2:p≤53)(b3:-1022≤mn)(b4:mn≤-126)(b5:127≤mx)(b6:mx≤1023)(b7:0≤one)(b8:one≤4503599627370496)(n1:(nb M:Int)≤4000000)(e0:-1000000≤e)(e1:e≤1000000)(te top:Int)(ht:(nb M:Int)+e=te)(htop:te-1=top)(q2 tp:Int)(hq2:top-p=tp)(zX:tp+1=q2)(c0:mn≤top)(c2:q2≤mn-p+1)(c1:top≤mx)(lo half:Nat)(kK:Hid (∀w',Gb w w'→CT 155 #[O #[J Y sign,v,J Y e,V rest],J Y q2] w' fun x w''=>∃vL,x=X (.tuple #[vL,J Y (half:Int)])∧aB 180000 w'' vL lo∧Gb w' w''))(nI:half≤3)(r:Nat)(hr:chosen mode sign lo half=r)(su:r<18446744073709551616)(hL:(nb r:Int)≤60)(z:Int)(mM:KW 151 #[J Y f,J Y sign,J Z r] (J Z z))(hov:(nb r:Int)+q2-1≤mx)(hh:0<(half:Int))(lo2 ji:Nat)(AP:Hid (∀w',Gb w w'→CT 155 #[O #[J Y sign,v,J Y e,V rest],J Y q2] w' fun x w''=>∃vL,x=X (.tuple #[vL,J Y (ji:Int)])∧aB 180000 w'' vL lo2∧Gb w' w''))(sZ:ji≤3)(r2:Nat)(hr2:chosen mode sign lo2 ji=r2)(hL2:(nb r2:Int)≤4000000)(hty:mn≤(nb r2:Int)+top-p):
  QB 65 #[J Y f,J Y mode,O #[J Y sign,v,J Y e,V rest]] w (O #[J Z z,J Y 16]):=by
 exact Zo
theorem J4{v:Value}{M:Nat}{w:World}{f p mn mx one mode sign e:Int}{rest:Bool}(HB:Hid (aB 100000 w v M))(HR:Hid (RC f p mn mx one mode sign w))(b1:24≤p)(b2:p≤53)(b3:-1022≤mn)(b4:mn≤-126)(b5:127≤mx)(b6:mx≤1023)(b7:0≤one)(b8:one≤4503599627370496)(n1:(nb M:Int)≤4000000)(e0:-1000000≤e)(e1:e≤1000000)(te top:Int)(ht:(nb M:Int)+e=te)(htop:te-1=top)(q2 tp:Int)(hq2:top-p=tp)(zX:tp+1=q2)(c2:mn<top)(c3:mn-p+1<q2)(c1:top≤mx)(lo half:Nat)(kK:Hid (∀w',Gb w w'→CT 155 #[O #[J Y sign,v,J Y e,V rest],J Y q2] w' fun x w''=>∃vL,x=X (.tuple #[vL,J Y (half:Int)])∧aB 180000 w'' vL lo∧Gb w' w''))(nI:half≤3)(r:Nat)(hr:chosen mode sign lo half=r)(su:r<18446744073709551616)(hL:(nb r:Int)≤60)(z:Int)(y:Int)(hy:IntKind.u64.wrap (one*(q2-(mn-p+1)))=y)(y0:0≤y)(hry:(r:Int)+y<18446744073709551616)(mM:KW 151 #[J Y f,J Y sign,J Z ((r:Int)+y)] (J Z z))(hov:(nb r:Int)+q2-1≤mx)(hh:0<(half:Int))(lo2 ji:Nat)(AP:Hid (∀w',Gb w w'→CT 155 #[O #[J Y sign,v,J Y e,V rest],J Y q2] w' fun x w''=>∃vL,x=X (.tuple #[vL,J Y (ji:Int)])∧aB 180000 w'' vL lo2∧Gb w' w''))(sZ:ji≤3)(r2:Nat)(hr2:chosen mode sign lo2 ji=r2)(hL2:(nb r2:Int)≤4000000)(hty:mn≤(nb r2:Int)+top-p):
  QB 65 #[J Y f,J Y mode,O #[J Y sign,v,J Y e,V rest]] w (O #[J Z z,J Y 16]):=by
 exact Zo
