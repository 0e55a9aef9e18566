import Derived.Test.YtmiekgjgpmfekaaGreatDoorG3
set_option linter.all false
set_option maxRecDepth 1000000
set_option maxHeartbeats 40000000
open Go.Proofs.YtmiekgjgpmfekaaGreatDoor renaming vI → J, vU → Y
open Go.Ending renaming returned → Z
open Go.Value renaming bool → O, tuple → X
open Go.Proofs.Tryz
namespace Go.Proofs.YtmiekgjgpmfekaaGreatDoor
open Go.RowKit
theorem aEz{P:Prop}(h:P:=by
 have u1:IntKind.i64.wrap ((nb M:Int)+e)=te:=by rw[ht];rw[IntKind.wrap_i64];omega
 have u2:IntKind.i64.wrap (te-1)=top:=by rw[htop];rw[IntKind.wrap_i64];omega
 have tb:-1000001<=top/\top<=5000001:=om;clear ht htop;go_enter func85,ntmps85;go_wp2;go_region_held3 (fun w'=>aj w' w.heap.size 0 (J sign)/\aj w' w.heap.size 1 (v)/\aj w' w.heap.size 2 (J e)/\aj w' w.heap.size 3 (O rest)/\aj w' (w.heap.size+1) 0 (Y 0)/\bG w' (w.heap.size+1) 0/\aj w' (w.heap.size+1) 1 (J 0)/\bG w' (w.heap.size+1) 1)
  ((go_split_ands;(repeat' apply And.intro)<;>exact kb))
  (first|(go_at_call 147;refine kw (RC.len HR.out 100000 _ M _ om (aF.gb HB.out kg)) ?_))
 all_goals
  (try go_split_ands)
  go_wp2_with (first
   |(go_at_call 148;refine kw (RC.max HR.out _) ?_)
   |(go_at_call 121;refine kw (RC.min HR.out _) ?_)
   |(go_at_call 98;refine kw (RC.prec HR.out _) ?_)
   |(go_at_call 120;refine kw (RC.two HR.out _) ?_)
   |(go_at_call 150;refine(mQ _ kg).mono ?_;rintro x wc ⟨vL,rfl,hbL,hgc⟩;obtain⟨cx0,FU,cx2,cx3⟩:pG wc w.heap.size 0 1 2 3 (J sign) (v) (J e) (O rest):=⟨ks,ks,ks,ks⟩;obtain⟨sU,XL,cr1,XK⟩:iH wc (w.heap.size+1) 0 1 (Y 0) (J 0):=⟨ks,ks,ks,ks⟩)
   |(go_at_call 151;refine(RC.choose HR.out _ lo half _ (by first|(with_reducible assumption)|(refine aF.gb (by with_reducible assumption) kg)) ql).mono ?_;rintro x wd ⟨vr,rfl,hbr,hgd⟩;(try rw[hr]at hbr);obtain⟨dx0,dx1,dx2,dx3⟩:pG wd w.heap.size 0 1 2 3 (J sign) (v) (J e) (O rest):=⟨ks,ks,ks,ks⟩;obtain⟨uX,dz0,dr1,dz1⟩:iH wd (w.heap.size+1) 0 1 (Y 0) (J 0):=⟨ks,ks,ks,ks⟩)
   |(go_at_call 147;refine(RC.len HR.out 190000 _ r _ om (by first|(with_reducible assumption)|(refine aF.gb (by with_reducible assumption) kg))).mono ?_;rintro x wk ⟨rfl,hw⟩;subst hw)
   |(go_at_call 152;refine(RC.word HR.out _ r _ (by first|(with_reducible assumption)|(refine aF.gb (by with_reducible assumption) kg)) zZ).mono ?_;rintro x wk ⟨rfl,hw⟩;subst hw)
   |(go_at_call 106;refine kw (ou _) ?_)
   |(go_at_call 149;refine(yJ _).mono ?_;rintro x wo ⟨rfl,hgo⟩;obtain⟨ox0,ox1,ox2,ox3⟩:pG wo w.heap.size 0 1 2 3 (J sign) (v) (J e) (O rest):=⟨ks,ks,ks,ks⟩;obtain⟨AQ,oz0,or1,oz1⟩:iH wo (w.heap.size+1) 0 1 (Y 0) (J 0):=⟨ks,ks,ks,ks⟩))
  exact dB (by simp[results,Tryz.results85,go_sem,AQ,or1])):P:=h
theorem Yn{P:Prop}(h:P:=by
 have u1:IntKind.i64.wrap ((nb M:Int)+e)=te:=by rw[ht];rw[IntKind.wrap_i64];omega
 have u2:IntKind.i64.wrap (te-1)=top:=by rw[htop];rw[IntKind.wrap_i64];omega
 have tb:-1000001<=top/\top<=5000001:=om;clear ht htop;go_enter func85,ntmps85;go_wp2;go_region_held3 (fun w'=>aj w' w.heap.size 0 (J sign)/\aj w' w.heap.size 1 (v)/\aj w' w.heap.size 2 (J e)/\aj w' w.heap.size 3 (O rest)/\aj w' (w.heap.size+1) 0 (Y 0)/\bG w' (w.heap.size+1) 0/\aj w' (w.heap.size+1) 1 (J 0)/\bG w' (w.heap.size+1) 1)
  ((go_split_ands;(repeat' apply And.intro)<;>exact kb))
  (first|(go_at_call 147;refine kw (RC.len HR.out 100000 _ M _ om (aF.gb HB.out kg)) ?_))
 all_goals
  (try go_split_ands)
  go_wp2_with (first
   |(go_at_call 148;refine kw (RC.max HR.out _) ?_)
   |(go_at_call 121;refine kw (RC.min HR.out _) ?_)
   |(go_at_call 98;refine kw (RC.prec HR.out _) ?_)
   |(go_at_call 120;refine kw (RC.two HR.out _) ?_)
   |(go_at_call 150;refine(mQ _ kg).mono ?_;rintro x wc ⟨vL,rfl,hbL,hgc⟩;obtain⟨cx0,FU,cx2,cx3⟩:pG wc w.heap.size 0 1 2 3 (J sign) (v) (J e) (O rest):=⟨ks,ks,ks,ks⟩;obtain⟨sU,XL,cr1,XK⟩:iH wc (w.heap.size+1) 0 1 (Y 0) (J 0):=⟨ks,ks,ks,ks⟩)
   |(go_at_call 151;refine(RC.choose HR.out _ lo half _ (by first|(with_reducible assumption)|(refine aF.gb (by with_reducible assumption) kg)) ql).mono ?_;rintro x wd ⟨vr,rfl,hbr,hgd⟩;(try rw[hr]at hbr);obtain⟨dx0,dx1,dx2,dx3⟩:pG wd w.heap.size 0 1 2 3 (J sign) (v) (J e) (O rest):=⟨ks,ks,ks,ks⟩;obtain⟨uX,dz0,dr1,dz1⟩:iH wd (w.heap.size+1) 0 1 (Y 0) (J 0):=⟨ks,ks,ks,ks⟩)
   |(go_at_call 147;refine(RC.len HR.out 190000 _ r _ om (by first|(with_reducible assumption)|(refine aF.gb (by with_reducible assumption) kg))).mono ?_;rintro x wk ⟨rfl,hw⟩;subst hw)
   |(go_at_call 152;refine(RC.word HR.out _ r _ (by first|(with_reducible assumption)|(refine aF.gb (by with_reducible assumption) kg)) zZ).mono ?_;rintro x wk ⟨rfl,hw⟩;subst hw)
   |(go_at_call 106;refine kw (ou _) ?_)
   |(go_at_call 149;refine(yJ _).mono ?_;rintro x wo ⟨rfl,hgo⟩;obtain⟨ox0,ox1,ox2,ox3⟩:pG wo w.heap.size 0 1 2 3 (J sign) (v) (J e) (O rest):=⟨ks,ks,ks,ks⟩;obtain⟨AQ,oz0,or1,oz1⟩:iH wo (w.heap.size+1) 0 1 (Y 0) (J 0):=⟨ks,ks,ks,ks⟩))
  exact dB (by simp[results,Tryz.results85,go_sem,uX,dr1])):P:=h
attribute [local go_sem] aj bG
theorem WU{v:Value}{M:Nat}{w:World}{f p mn mx one mode sign e:Int}{rest:Bool}(HB:Hid (aF 100000 w v M))(HR:Hid (RC f p mn mx one mode sign w))(b1:24<=p)(b2:p<=53)(b3:-1022<=mn)(b4:mn<=-126)(b5:127<=mx)(b6:mx<=1023)(b7:0<=one)(b8:one<=4503599627370496)(n1:(nb M:Int)<=4000000)(e0:-1000000<=e)(e1:e<=1000000)(te top:Int)(ht:(nb M:Int)+e=te)(htop:te-1=top)(z:Int)(yJ:KR 149 #[J f,J mode,J sign] (aK z 20))(c:mx<top):
  yG f mode sign v e rest w z 20:=by
 exact aEz
theorem RN{v:Value}{M:Nat}{w:World}{f p mn mx one mode sign e:Int}{rest:Bool}(HB:Hid (aF 100000 w v M))(HR:Hid (RC f p mn mx one mode sign w))(b1:24<=p)(b2:p<=53)(b3:-1022<=mn)(b4:mn<=-126)(b5:127<=mx)(b6:mx<=1023)(b7:0<=one)(b8:one<=4503599627370496)(n1:(nb M:Int)<=4000000)(e0:-1000000<=e)(e1:e<=1000000)(te top:Int)(ht:(nb M:Int)+e=te)(htop:te-1=top)(c0:mn-p-2<=top)(c1:top<mn)(lo half:Nat)(mQ:Hid (∀w',Gb w w'->CT 150 #[.agg #[J sign,v,J e,O rest],J (mn-p+1)] w' fun x w''=>∃vL,x=Z (X #[vL,J (half:Int)])/\aF 180000 w'' vL lo/\Gb w' w''))(ql:half<=3)(r:Nat)(hr:chosen mode sign lo half=r)(zZ:r<18446744073709551616)(z:Int)(ou:uT f sign r z)(hL:(nb r:Int)<=60)(hh:(half:Int)<=0):
  yG f mode sign v e rest w z 0:=by
 exact Yn
theorem RF{v:Value}{M:Nat}{w:World}{f p mn mx one mode sign e:Int}{rest:Bool}(HB:Hid (aF 100000 w v M))(HR:Hid (RC f p mn mx one mode sign w))(b1:24<=p)(b2:p<=53)(b3:-1022<=mn)(b4:mn<=-126)(b5:127<=mx)(b6:mx<=1023)(b7:0<=one)(b8:one<=4503599627370496)(n1:(nb M:Int)<=4000000)(e0:-1000000<=e)(e1:e<=1000000)(te top:Int)(ht:(nb M:Int)+e=te)(htop:te-1=top)(c0:mn<=top)(c1:top<=mx)(lo half:Nat)(mQ:Hid (∀w',Gb w w'->CT 150 #[.agg #[J sign,v,J e,O rest],J (top-p+1)] w' fun x w''=>∃vL,x=Z (X #[vL,J (half:Int)])/\aF 180000 w'' vL lo/\Gb w' w''))(ql:half<=3)(r:Nat)(hr:chosen mode sign lo half=r)(zZ:r<18446744073709551616)(hL:(nb r:Int)<=60)(z:Int)(yJ:KR 149 #[J f,J mode,J sign] (aK z 20))(hov:mx<(nb r:Int)+(top-p+1)-1):
  yG f mode sign v e rest w z 20:=by
 exact aEz
theorem N9{v:Value}{M:Nat}{w:World}{f p mn mx one mode sign e:Int}{rest:Bool}(HB:Hid (aF 100000 w v M))(HR:Hid (RC f p mn mx one mode sign w))(b1:24<=p)(b2:p<=53)(b3:-1022<=mn)(b4:mn<=-126)(b5:127<=mx)(b6:mx<=1023)(b7:0<=one)(b8:one<=4503599627370496)(n1:(nb M:Int)<=4000000)(e0:-1000000<=e)(e1:e<=1000000)(te top:Int)(ht:(nb M:Int)+e=te)(htop:te-1=top)(c0:mn<=top)(c2:top<=mn)(c1:top<=mx)(lo half:Nat)(mQ:Hid (∀w',Gb w w'->CT 150 #[.agg #[J sign,v,J e,O rest],J (top-p+1)] w' fun x w''=>∃vL,x=Z (X #[vL,J (half:Int)])/\aF 180000 w'' vL lo/\Gb w' w''))(ql:half<=3)(r:Nat)(hr:chosen mode sign lo half=r)(zZ:r<18446744073709551616)(hL:(nb r:Int)<=60)(z:Int)(ou:uT f sign r z)(hov:(nb r:Int)+(top-p+1)-1<=mx)(hh:(half:Int)<=0):
  yG f mode sign v e rest w z 0:=by
 exact Yn
theorem RH{v:Value}{M:Nat}{w:World}{f p mn mx one mode sign e:Int}{rest:Bool}(HB:Hid (aF 100000 w v M))(HR:Hid (RC f p mn mx one mode sign w))(b1:24<=p)(b2:p<=53)(b3:-1022<=mn)(b4:mn<=-126)(b5:127<=mx)(b6:mx<=1023)(b7:0<=one)(b8:one<=4503599627370496)(n1:(nb M:Int)<=4000000)(e0:-1000000<=e)(e1:e<=1000000)(te top:Int)(ht:(nb M:Int)+e=te)(htop:te-1=top)(c2:mn<top)(c1:top<=mx)(lo half:Nat)(mQ:Hid (∀w',Gb w w'->CT 150 #[.agg #[J sign,v,J e,O rest],J (top-p+1)] w' fun x w''=>∃vL,x=Z (X #[vL,J (half:Int)])/\aF 180000 w'' vL lo/\Gb w' w''))(ql:half<=3)(r:Nat)(hr:chosen mode sign lo half=r)(zZ:r<18446744073709551616)(hL:(nb r:Int)<=60)(z:Int)(y:Int)(hy:IntKind.u64.wrap (one*(top-p+1-(mn-p+1)))=y)(y0:0<=y)(hry:(r:Int)+y<18446744073709551616)(ou:uT f sign ((r:Int)+y) z)(hov:(nb r:Int)+(top-p+1)-1<=mx)(hh:(half:Int)<=0):
  yG f mode sign v e rest w z 0:=by
 exact Yn
set_option maxRecDepth 1000000
theorem aEx{P:Prop}(h:P:=by
 have u1:IntKind.i64.wrap ((nb M:Int)+e)=te:=by rw[ht];rw[IntKind.wrap_i64];omega
 have u2:IntKind.i64.wrap (te-1)=top:=by rw[htop];rw[IntKind.wrap_i64];omega
 have tb:-1000001<=top/\top<=5000001:=om;clear ht htop;have u3:IntKind.i64.wrap (top-p)=tp:=by rw[hq2];rw[IntKind.wrap_i64];omega
 have u4:IntKind.i64.wrap (tp+1)=q2:=by rw[J5];rw[IntKind.wrap_i64];omega
 exact aEA):P:=h
theorem aEy{P:Prop}(h:P:=by
 have u1:IntKind.i64.wrap ((nb M:Int)+e)=te:=by rw[ht];rw[IntKind.wrap_i64];omega
 have u2:IntKind.i64.wrap (te-1)=top:=by rw[htop];rw[IntKind.wrap_i64];omega
 have tb:-1000001<=top/\top<=5000001:=om;clear ht htop;have u3:IntKind.i64.wrap (top-p)=tp:=by rw[hq2];rw[IntKind.wrap_i64];omega
 have u4:IntKind.i64.wrap (tp+1)=q2:=by rw[J5];rw[IntKind.wrap_i64];omega
 have qb:-1000060<=q2/\q2<=5000060:=om;exact aEA):P:=h
theorem aEA{P:Prop}(h:P:=by
 clear hq2 J5;go_enter func85,ntmps85;go_wp2;go_region_held3 (fun w'=>aj w' w.heap.size 0 (J sign)/\aj w' w.heap.size 1 (v)/\aj w' w.heap.size 2 (J e)/\aj w' w.heap.size 3 (O rest)/\aj w' (w.heap.size+1) 0 (Y 0)/\bG w' (w.heap.size+1) 0/\aj w' (w.heap.size+1) 1 (J 0)/\bG w' (w.heap.size+1) 1)
  ((go_split_ands;(repeat' apply And.intro)<;>exact kb))
  (first|(go_at_call 147;refine kw (RC.len HR.out 100000 _ M _ om (aF.gb HB.out kg)) ?_))
 all_goals
  (try go_split_ands)
  go_wp2_with (first
   |(go_at_call 148;refine kw (RC.max HR.out _) ?_)
   |(go_at_call 121;refine kw (RC.min HR.out _) ?_)
   |(go_at_call 98;refine kw (RC.prec HR.out _) ?_)
   |(go_at_call 120;refine kw (RC.two HR.out _) ?_)
   |(go_at_call 150;refine(mQ _ kg).mono ?_;rintro x wc ⟨vL,rfl,hbL,hgc⟩;obtain⟨cx0,FU,cx2,cx3⟩:pG wc w.heap.size 0 1 2 3 (J sign) (v) (J e) (O rest):=⟨ks,ks,ks,ks⟩;obtain⟨sU,XL,cr1,XK⟩:iH wc (w.heap.size+1) 0 1 (Y 0) (J 0):=⟨ks,ks,ks,ks⟩)
   |(go_at_call 151;refine(RC.choose HR.out _ lo half _ (by first|(with_reducible assumption)|(refine aF.gb (by with_reducible assumption) kg)) ql).mono ?_;rintro x wd ⟨vr,rfl,hbr,hgd⟩;(try rw[hr]at hbr);obtain⟨dx0,dx1,dx2,dx3⟩:pG wd w.heap.size 0 1 2 3 (J sign) (v) (J e) (O rest):=⟨ks,ks,ks,ks⟩;obtain⟨uX,dz0,dr1,dz1⟩:iH wd (w.heap.size+1) 0 1 (Y 0) (J 0):=⟨ks,ks,ks,ks⟩)
   |(go_at_call 147;refine(RC.len HR.out 190000 _ r _ om (by first|(with_reducible assumption)|(refine aF.gb (by with_reducible assumption) kg))).mono ?_;rintro x wk ⟨rfl,hw⟩;subst hw)
   |(go_at_call 152;refine(RC.word HR.out _ r _ (by first|(with_reducible assumption)|(refine aF.gb (by with_reducible assumption) kg)) zZ).mono ?_;rintro x wk ⟨rfl,hw⟩;subst hw)
   |(go_at_call 106;refine kw (ou _) ?_)
   |(go_at_call 149;refine(yJ _).mono ?_;rintro x wo ⟨rfl,hgo⟩;obtain⟨ox0,ox1,ox2,ox3⟩:pG wo w.heap.size 0 1 2 3 (J sign) (v) (J e) (O rest):=⟨ks,ks,ks,ks⟩;obtain⟨AQ,oz0,or1,oz1⟩:iH wo (w.heap.size+1) 0 1 (Y 0) (J 0):=⟨ks,ks,ks,ks⟩))
  go_region_held3 (fun w'=>aj w' w.heap.size 0 (J sign)/\aj w' w.heap.size 1 (v)/\aj w' w.heap.size 2 (J e)/\aj w' w.heap.size 3 (O rest)/\aj w' (w.heap.size+1) 0 (Y 0)/\bG w' (w.heap.size+1) 0/\aj w' (w.heap.size+1) 1 (J 0)/\bG w' (w.heap.size+1) 1)
   ((go_split_ands;(repeat' apply And.intro)<;>exact kb))
   (first
    |(go_at_call 98;refine kw (RC.prec HR.out _) ?_)
    |(go_at_call 150;refine(I_ _ kg).mono ?_;rintro x we ⟨vL2,rfl,aKb,hge⟩;obtain⟨aKr,aKq,aKp,aKo⟩:pG we w.heap.size 0 1 2 3 (J sign) (v) (J e) (O rest):=⟨ks,ks,ks,ks⟩;obtain⟨aKt,aKn,aKs,aKm⟩:iH we (w.heap.size+1) 0 1 (Y 0) (J 0):=⟨ks,ks,ks,ks⟩))
  all_goals
   (try go_split_ands)
   go_wp2_with (first
    |(go_at_call 148;refine kw (RC.max HR.out _) ?_)
    |(go_at_call 121;refine kw (RC.min HR.out _) ?_)
    |(go_at_call 98;refine kw (RC.prec HR.out _) ?_)
    |(go_at_call 120;refine kw (RC.two HR.out _) ?_)
    |(go_at_call 151;refine(RC.choose HR.out _ lo2 kD _ (by first|(with_reducible assumption)|(refine aF.gb (by with_reducible assumption) kg)) BG).mono ?_;rintro x wf ⟨vr2,rfl,aGk,hgf⟩;(try rw[hr2]at aGk);obtain⟨fx0,fx1,fx2,fx3⟩:pG wf w.heap.size 0 1 2 3 (J sign) (v) (J e) (O rest):=⟨ks,ks,ks,ks⟩;obtain⟨XG,fz0,fr1,fz1⟩:iH wf (w.heap.size+1) 0 1 (Y 0) (J 0):=⟨ks,ks,ks,ks⟩)
    |(go_at_call 147;refine(RC.len HR.out 190000 _ r2 _ om (by first|(with_reducible assumption)|(refine aF.gb (by with_reducible assumption) kg))).mono ?_;rintro x wk ⟨rfl,hw⟩;subst hw)
    |(go_at_call 152;refine(RC.word HR.out _ r _ (by first|(with_reducible assumption)|(refine aF.gb (by with_reducible assumption) kg)) zZ).mono ?_;rintro x wk ⟨rfl,hw⟩;subst hw)
    |(go_at_call 106;refine kw (ou _) ?_)
    |(go_at_call 149;refine(yJ _).mono ?_;rintro x wo ⟨rfl,hgo⟩;obtain⟨ox0,ox1,ox2,ox3⟩:pG wo w.heap.size 0 1 2 3 (J sign) (v) (J e) (O rest):=⟨ks,ks,ks,ks⟩;obtain⟨AQ,oz0,or1,oz1⟩:iH wo (w.heap.size+1) 0 1 (Y 0) (J 0):=⟨ks,ks,ks,ks⟩))
   exact dB (by simp[results,Tryz.results85,go_sem,XG,fr1])):P:=h
theorem RJ{v:Value}{M:Nat}{w:World}{f p mn mx one mode sign e:Int}{rest:Bool}(HB:Hid (aF 100000 w v M))(HR:Hid (RC f p mn mx one mode sign w))(b1:24<=p)(b2:p<=53)(b3:-1022<=mn)(b4:mn<=-126)(b5:127<=mx)(b6:mx<=1023)(b7:0<=one)(b8:one<=4503599627370496)(n1:(nb M:Int)<=4000000)(e0:-1000000<=e)(e1:e<=1000000)(te top:Int)(ht:(nb M:Int)+e=te)(htop:te-1=top)(c0:mn-p-2<=top)(c1:top<mn)(lo half:Nat)(mQ:Hid (∀w',Gb w w'->CT 150 #[.agg #[J sign,v,J e,O rest],J (mn-p+1)] w' fun x w''=>∃vL,x=Z (X #[vL,J (half:Int)])/\aF 180000 w'' vL lo/\Gb w' w''))(ql:half<=3)(r:Nat)(hr:chosen mode sign lo half=r)(zZ:r<18446744073709551616)(z:Int)(ou:uT f sign r z)(hL:(nb r:Int)<=60)(hh:0<(half:Int))(lo2 kD:Nat)(q2 tp:Int)(hq2:top-p=tp)(J5:tp+1=q2)(I_:Hid (∀w',Gb w w'->CT 150 #[.agg #[J sign,v,J e,O rest],J q2] w' fun x w''=>∃vL,x=Z (X #[vL,J (kD:Int)])/\aF 180000 w'' vL lo2/\Gb w' w''))(BG:kD<=3)(r2:Nat)(hr2:chosen mode sign lo2 kD=r2)(hL2:(nb r2:Int)<=4000000)(hty:(nb r2:Int)+top-p<mn):
  yG f mode sign v e rest w z 24:=by
 exact aEx
theorem RI{v:Value}{M:Nat}{w:World}{f p mn mx one mode sign e:Int}{rest:Bool}(HB:Hid (aF 100000 w v M))(HR:Hid (RC f p mn mx one mode sign w))(b1:24<=p)(b2:p<=53)(b3:-1022<=mn)(b4:mn<=-126)(b5:127<=mx)(b6:mx<=1023)(b7:0<=one)(b8:one<=4503599627370496)(n1:(nb M:Int)<=4000000)(e0:-1000000<=e)(e1:e<=1000000)(te top:Int)(ht:(nb M:Int)+e=te)(htop:te-1=top)(c0:mn-p-2<=top)(c1:top<mn)(lo half:Nat)(mQ:Hid (∀w',Gb w w'->CT 150 #[.agg #[J sign,v,J e,O rest],J (mn-p+1)] w' fun x w''=>∃vL,x=Z (X #[vL,J (half:Int)])/\aF 180000 w'' vL lo/\Gb w' w''))(ql:half<=3)(r:Nat)(hr:chosen mode sign lo half=r)(zZ:r<18446744073709551616)(z:Int)(ou:uT f sign r z)(hL:(nb r:Int)<=60)(hh:0<(half:Int))(lo2 kD:Nat)(q2 tp:Int)(hq2:top-p=tp)(J5:tp+1=q2)(I_:Hid (∀w',Gb w w'->CT 150 #[.agg #[J sign,v,J e,O rest],J q2] w' fun x w''=>∃vL,x=Z (X #[vL,J (kD:Int)])/\aF 180000 w'' vL lo2/\Gb w' w''))(BG:kD<=3)(r2:Nat)(hr2:chosen mode sign lo2 kD=r2)(hL2:(nb r2:Int)<=4000000)(hty:mn<=(nb r2:Int)+top-p):
  yG f mode sign v e rest w z 16:=by
 exact aEx
theorem N8{v:Value}{M:Nat}{w:World}{f p mn mx one mode sign e:Int}{rest:Bool}(HB:Hid (aF 100000 w v M))(HR:Hid (RC f p mn mx one mode sign w))(b1:24<=p)(b2:p<=53)(b3:-1022<=mn)(b4:mn<=-126)(b5:127<=mx)(b6:mx<=1023)(b7:0<=one)(b8:one<=4503599627370496)(n1:(nb M:Int)<=4000000)(e0:-1000000<=e)(e1:e<=1000000)(te top:Int)(ht:(nb M:Int)+e=te)(htop:te-1=top)(q2 tp:Int)(hq2:top-p=tp)(J5:tp+1=q2)(c0:mn<=top)(c2:q2<=mn-p+1)(c1:top<=mx)(lo half:Nat)(mQ:Hid (∀w',Gb w w'->CT 150 #[.agg #[J sign,v,J e,O rest],J q2] w' fun x w''=>∃vL,x=Z (X #[vL,J (half:Int)])/\aF 180000 w'' vL lo/\Gb w' w''))(ql:half<=3)(r:Nat)(hr:chosen mode sign lo half=r)(zZ:r<18446744073709551616)(hL:(nb r:Int)<=60)(z:Int)(ou:uT f sign r z)(hov:(nb r:Int)+q2-1<=mx)(hh:0<(half:Int))(lo2 kD:Nat)(I_:Hid (∀w',Gb w w'->CT 150 #[.agg #[J sign,v,J e,O rest],J q2] w' fun x w''=>∃vL,x=Z (X #[vL,J (kD:Int)])/\aF 180000 w'' vL lo2/\Gb w' w''))(BG:kD<=3)(r2:Nat)(hr2:chosen mode sign lo2 kD=r2)(hL2:(nb r2:Int)<=4000000)(hty:mn<=(nb r2:Int)+top-p):
  yG f mode sign v e rest w z 16:=by
 exact aEy
theorem RG{v:Value}{M:Nat}{w:World}{f p mn mx one mode sign e:Int}{rest:Bool}(HB:Hid (aF 100000 w v M))(HR:Hid (RC f p mn mx one mode sign w))(b1:24<=p)(b2:p<=53)(b3:-1022<=mn)(b4:mn<=-126)(b5:127<=mx)(b6:mx<=1023)(b7:0<=one)(b8:one<=4503599627370496)(n1:(nb M:Int)<=4000000)(e0:-1000000<=e)(e1:e<=1000000)(te top:Int)(ht:(nb M:Int)+e=te)(htop:te-1=top)(q2 tp:Int)(hq2:top-p=tp)(J5:tp+1=q2)(c2:mn<top)(c3:mn-p+1<q2)(c1:top<=mx)(lo half:Nat)(mQ:Hid (∀w',Gb w w'->CT 150 #[.agg #[J sign,v,J e,O rest],J q2] w' fun x w''=>∃vL,x=Z (X #[vL,J (half:Int)])/\aF 180000 w'' vL lo/\Gb w' w''))(ql:half<=3)(r:Nat)(hr:chosen mode sign lo half=r)(zZ:r<18446744073709551616)(hL:(nb r:Int)<=60)(z:Int)(y:Int)(hy:IntKind.u64.wrap (one*(q2-(mn-p+1)))=y)(y0:0<=y)(hry:(r:Int)+y<18446744073709551616)(ou:uT f sign ((r:Int)+y) z)(hov:(nb r:Int)+q2-1<=mx)(hh:0<(half:Int))(lo2 kD:Nat)(I_:Hid (∀w',Gb w w'->CT 150 #[.agg #[J sign,v,J e,O rest],J q2] w' fun x w''=>∃vL,x=Z (X #[vL,J (kD:Int)])/\aF 180000 w'' vL lo2/\Gb w' w''))(BG:kD<=3)(r2:Nat)(hr2:chosen mode sign lo2 kD=r2)(hL2:(nb r2:Int)<=4000000)(hty:mn<=(nb r2:Int)+top-p):
  yG f mode sign v e rest w z 16:=by
 exact aEy
set_option maxRecDepth 1000000
theorem aF.set{K:Nat}{w:World}{b1 k1 c1 N:Nat}(h:aF K w (aB b1 k1 c1) N)(hN:0<N){B:Nat}{s:Int}(hc:aj w B 0 (J s))(o:Nat)(u:Value)(ho:o≠0):
  aF K (w.setCell ⟨B,o,none⟩ u) (aB b1 k1 c1) N/\aj (w.setCell ⟨B,o,none⟩ u) B 0 (J s):=by
 obtain⟨n,h1,hnm,hlt,b,cap,e,h3,h4,h5⟩:=h;simp only[Value.slice.injEq,Option.some.injEq,Addr.mk.injEq,and_true]at e;obtain⟨rfl,rfl,rfl⟩:=e;have hn:0<k1:=by
  rcases Nat.eq_zero_or_pos k1 with c|c
  ·have:=hnm.iff.mp c;omega
  ·exact c
 have hne:B≠b1:=by
  intro e;subst e;have:=h5 0 hn;rw[hc]at this;simp at this
 refine⟨⟨k1,h1,hnm,hlt,b1,c1,rfl,h3,h4,fun j hj=>aI (by simpa using hne) (h5 j hj)⟩,aS ho hc⟩
theorem aF.aFC{K:Nat}{w:World}{b1 k1 c1 N:Nat}(h:aF K w (aB b1 k1 c1) N)(hN:0<N){B:Nat}{s:Int}(hc:aj w B 0 (J s))(u1 u2 u3:Value):
  aF K (((w.setCell ⟨B,1,none⟩ u1).setCell ⟨B,2,none⟩ u2).setCell ⟨B,3,none⟩ u3) (aB b1 k1 c1) N:=by
 obtain⟨a1,a2⟩:=h.set hN hc 1 u1 de;obtain⟨a3,a4⟩:=a1.set hN a2 2 u2 de;exact(a3.set hN a4 3 u3 de).1
theorem WV{v:Value}{M:Nat}{w:World}{f p mn mx one mode sign e:Int}{rest:Bool}(HB:Hid (aF 100000 w v M))(HR:Hid (RC f p mn mx one mode sign w))(b1:24<=p)(b2:p<=53)(b3:-1022<=mn)(b4:mn<=-126)(b5:127<=mx)(b6:mx<=1023)(b7:0<=one)(b8:one<=4503599627370496)(n1:(nb M:Int)<=4000000)(e0:-1000000<=e)(e1:e<=1000000)(te top:Int)(ht:(nb M:Int)+e=te)(htop:te-1=top)(c0:top<mn-p-2)(lo half:Nat)(mQ:Hid (∀v1 w',aF 100000 w' v1 1->CT 150 #[.agg #[J sign,v1,J (mn-p-2),O true],J (mn-p+1)] w' fun x w''=>∃vL,x=Z (X #[vL,J (half:Int)])/\aF 180000 w'' vL lo/\Gb w' w''))(ql:half<=3)(r:Nat)(hr:chosen mode sign lo half=r)(zZ:r<18446744073709551616)(hL:(nb r:Int)<=60)(z:Int)(ou:uT f sign r z)(hh:0<(half:Int))(lo2 kD:Nat)(q2 tp:Int)(hq2:mn-p-2-p=tp)(J5:tp+1=q2)(I_:Hid (∀v1 w',aF 100000 w' v1 1->CT 150 #[.agg #[J sign,v1,J (mn-p-2),O true],J q2] w' fun x w''=>∃vL,x=Z (X #[vL,J (kD:Int)])/\aF 180000 w'' vL lo2/\Gb w' w''))(BG:kD<=3)(r2:Nat)(hr2:chosen mode sign lo2 kD=r2)(hL2:(nb r2:Int)<=4000000)(hty:(nb r2:Int)+(mn-p-2)-p<mn):
  yG f mode sign v e rest w z 24:=by
 have u1:IntKind.i64.wrap ((nb M:Int)+e)=te:=by rw[ht];rw[IntKind.wrap_i64];omega
 have u2:IntKind.i64.wrap (te-1)=top:=by rw[htop];rw[IntKind.wrap_i64];omega
 have tb:-1000001<=top/\top<=5000001:=om;clear ht htop;have u3:IntKind.i64.wrap (mn-p-2-p)=tp:=by rw[hq2];rw[IntKind.wrap_i64];omega
 have u4:IntKind.i64.wrap (tp+1)=q2:=by rw[J5];rw[IntKind.wrap_i64];omega
 have zh:Hid (∀w',CT 100 #[Y 1] w' fun x w''=>∃b1 k1 c1,x=Z (aB b1 k1 c1)/\aF 100000 w'' (aB b1 k1 c1) 1/\Gb w' w''):=fun w'=>(fE 1 om w').mono (fun x w'' ⟨v',k,a1,a2,a3,a4⟩=>by obtain⟨b,c,rfl,_⟩:=Big.shape a2;exact⟨b,k,c,a1,⟨k,om,a2⟩,a4⟩);clear hq2 J5;go_enter func85,ntmps85;go_wp2;go_region_held3 (fun w'=>aj w' w.heap.size 0 (J sign)/\aj w' w.heap.size 1 (v)/\aj w' w.heap.size 2 (J e)/\aj w' w.heap.size 3 (O rest)/\aj w' (w.heap.size+1) 0 (Y 0)/\bG w' (w.heap.size+1) 0/\aj w' (w.heap.size+1) 1 (J 0)/\bG w' (w.heap.size+1) 1/\bG w' w.heap.size 1/\bG w' w.heap.size 2/\bG w' w.heap.size 3)
  ((go_split_ands;(repeat' apply And.intro)<;>exact kb))
  (first|(go_at_call 147;refine kw (RC.len HR.out 100000 _ M _ om (aF.gb HB.out kg)) ?_))
 all_goals
  (try go_split_ands)
  go_wp2_with (first
   |(go_at_call 148;refine kw (RC.max HR.out _) ?_)
   |(go_at_call 121;refine kw (RC.min HR.out _) ?_)
   |(go_at_call 98;refine kw (RC.prec HR.out _) ?_)
   |(go_at_call 120;refine kw (RC.two HR.out _) ?_)
   |(go_at_call 100;refine(zh _).mono ?_;rintro x wb ⟨b1,k1,c1,rfl,hb1,aJX⟩;obtain⟨bx0,bx1,bx2,bx3⟩:pG wb w.heap.size 0 1 2 3 (J sign) (v) (J e) (O rest):=⟨kb,kb,kb,kb⟩;obtain⟨jy,bz0,br1,bz1⟩:iH wb (w.heap.size+1) 0 1 (Y 0) (J 0):=⟨kb,kb,kb,kb⟩;have bq1:bG wb w.heap.size 1:=kb;have bq2:bG wb w.heap.size 2:=kb;have bq3:bG wb w.heap.size 3:=kb;have aLl:=au jy;have hset:=aF.aFC hb1 om bx0)
   |(go_at_call 150;refine(mQ _ _ (by first|(with_reducible assumption)|(exact hset _ _ _)|(refine aF.gb (hset _ _ _) kg)|(refine aF.gb (by with_reducible assumption) kg))).mono ?_;rintro x wc ⟨vL,rfl,hbL,hgc⟩;obtain⟨cx0,FU,cx2,cx3⟩:pG wc w.heap.size 0 1 2 3 (J sign) ((.slice (some ⟨b1,0,none⟩) k1 c1)) (J (mn-p-2)) (O true):=⟨kb,kb,kb,kb⟩;obtain⟨sU,XL,cr1,XK⟩:iH wc (w.heap.size+1) 0 1 (Y 0) (J 0):=⟨kb,kb,kb,kb⟩)
   |(go_at_call 151;refine(RC.choose HR.out _ lo half _ (by first|(with_reducible assumption)|(exact hset _ _ _)|(refine aF.gb (hset _ _ _) kg)|(refine aF.gb (by with_reducible assumption) kg)) ql).mono ?_;rintro x wd ⟨vr,rfl,hbr,hgd⟩;(try rw[hr]at hbr);obtain⟨dx0,dx1,dx2,dx3⟩:pG wd w.heap.size 0 1 2 3 (J sign) ((.slice (some ⟨b1,0,none⟩) k1 c1)) (J (mn-p-2)) (O true):=⟨kb,kb,kb,kb⟩;obtain⟨uX,dz0,dr1,dz1⟩:iH wd (w.heap.size+1) 0 1 (Y 0) (J 0):=⟨kb,kb,kb,kb⟩)
   |(go_at_call 147;refine(RC.len HR.out 190000 _ r _ om (by first|(with_reducible assumption)|(exact hset _ _ _)|(refine aF.gb (hset _ _ _) kg)|(refine aF.gb (by with_reducible assumption) kg))).mono ?_;rintro x wk ⟨rfl,hw⟩;subst hw)
   |(go_at_call 152;refine(RC.word HR.out _ r _ (by first|(with_reducible assumption)|(exact hset _ _ _)|(refine aF.gb (hset _ _ _) kg)|(refine aF.gb (by with_reducible assumption) kg)) zZ).mono ?_;rintro x wk ⟨rfl,hw⟩;subst hw)
   |(go_at_call 106;refine kw (ou _) ?_)
   |(go_at_call 149;refine(yJ _).mono ?_;rintro x wo ⟨rfl,hgo⟩;obtain⟨ox0,ox1,ox2,ox3⟩:pG wo w.heap.size 0 1 2 3 (J sign) ((.slice (some ⟨b1,0,none⟩) k1 c1)) (J (mn-p-2)) (O true):=⟨kb,kb,kb,kb⟩;obtain⟨AQ,oz0,or1,oz1⟩:iH wo (w.heap.size+1) 0 1 (Y 0) (J 0):=⟨kb,kb,kb,kb⟩))
  go_region_held3 (fun w'=>aj w' w.heap.size 0 (J sign)/\aj w' w.heap.size 1 ((aB b1 k1 c1))/\aj w' w.heap.size 2 (J (mn-p-2))/\aj w' w.heap.size 3 (O true)/\aj w' (w.heap.size+1) 0 (Y 0)/\bG w' (w.heap.size+1) 0/\aj w' (w.heap.size+1) 1 (J 0)/\bG w' (w.heap.size+1) 1)
   ((go_split_ands;(repeat' apply And.intro)<;>exact kb))
   (first
    |(go_at_call 98;refine kw (RC.prec HR.out _) ?_)
    |(go_at_call 150;refine(I_ _ _ (by first|(with_reducible assumption)|(exact hset _ _ _)|(refine aF.gb (hset _ _ _) kg)|(refine aF.gb (by with_reducible assumption) kg))).mono ?_;rintro x we ⟨vL2,rfl,aKb,hge⟩;obtain⟨aKr,aKq,aKp,aKo⟩:pG we w.heap.size 0 1 2 3 (J sign) ((.slice (some ⟨b1,0,none⟩) k1 c1)) (J (mn-p-2)) (O true):=⟨kb,kb,kb,kb⟩;obtain⟨aKt,aKn,aKs,aKm⟩:iH we (w.heap.size+1) 0 1 (Y 0) (J 0):=⟨kb,kb,kb,kb⟩))
  all_goals
   (try go_split_ands)
   go_wp2_with (first
    |(go_at_call 148;refine kw (RC.max HR.out _) ?_)
    |(go_at_call 121;refine kw (RC.min HR.out _) ?_)
    |(go_at_call 98;refine kw (RC.prec HR.out _) ?_)
    |(go_at_call 120;refine kw (RC.two HR.out _) ?_)
    |(go_at_call 100;refine(zh _).mono ?_;rintro x wb ⟨b1,k1,c1,rfl,hb1,aJX⟩;obtain⟨bx0,bx1,bx2,bx3⟩:pG wb w.heap.size 0 1 2 3 (J sign) (v) (J e) (O rest):=⟨kb,kb,kb,kb⟩;obtain⟨jy,bz0,br1,bz1⟩:iH wb (w.heap.size+1) 0 1 (Y 0) (J 0):=⟨kb,kb,kb,kb⟩)
    |(go_at_call 151;refine(RC.choose HR.out _ lo2 kD _ (by first|(with_reducible assumption)|(exact hset _ _ _)|(refine aF.gb (hset _ _ _) kg)|(refine aF.gb (by with_reducible assumption) kg)) BG).mono ?_;rintro x wf ⟨vr2,rfl,aGk,hgf⟩;(try rw[hr2]at aGk);obtain⟨fx0,fx1,fx2,fx3⟩:pG wf w.heap.size 0 1 2 3 (J sign) ((.slice (some ⟨b1,0,none⟩) k1 c1)) (J (mn-p-2)) (O true):=⟨kb,kb,kb,kb⟩;obtain⟨XG,fz0,fr1,fz1⟩:iH wf (w.heap.size+1) 0 1 (Y 0) (J 0):=⟨kb,kb,kb,kb⟩)
    |(go_at_call 147;refine(RC.len HR.out 190000 _ r2 _ om (by first|(with_reducible assumption)|(exact hset _ _ _)|(refine aF.gb (hset _ _ _) kg)|(refine aF.gb (by with_reducible assumption) kg))).mono ?_;rintro x wk ⟨rfl,hw⟩;subst hw)
    |(go_at_call 152;refine(RC.word HR.out _ r _ (by first|(with_reducible assumption)|(exact hset _ _ _)|(refine aF.gb (hset _ _ _) kg)|(refine aF.gb (by with_reducible assumption) kg)) zZ).mono ?_;rintro x wk ⟨rfl,hw⟩;subst hw)
    |(go_at_call 106;refine kw (ou _) ?_)
    |(go_at_call 149;refine(yJ _).mono ?_;rintro x wo ⟨rfl,hgo⟩;obtain⟨ox0,ox1,ox2,ox3⟩:pG wo w.heap.size 0 1 2 3 (J sign) ((.slice (some ⟨b1,0,none⟩) k1 c1)) (J (mn-p-2)) (O true):=⟨kb,kb,kb,kb⟩;obtain⟨AQ,oz0,or1,oz1⟩:iH wo (w.heap.size+1) 0 1 (Y 0) (J 0):=⟨kb,kb,kb,kb⟩))
   exact dB (by simp[results,Tryz.results85,go_sem,XG,fr1])
def Wo(a:Int):Prop:=0<=a/\a<18446744073709551616
abbrev qR:Int:=4602678819172646912
abbrev c32:Int:=4751297606875873280
abbrev c63:Int:=4890909195324358656
structure O7 where
 int:Int->Int
 sub:Int->Int->Int
 mul:Int->Int->Int
 jc:Int->Int
 fix:Int->Int
 whole:Int->Int
structure O7.In (o:O7):Prop where
 int:∀n,Wo (o.int n)
 sub:∀{a b},Wo a->Wo b->Wo (o.sub a b)
 aHg:∀{a b},Wo a->Wo b->9223372036854775808<=o.sub a b->o.sub a b%9223372036854775808<=9218868437227405312
 mul:∀{a b},Wo a->Wo b->Wo (o.mul a b)
 jc:∀{a},Wo a->Wo (o.jc a)
 fix:∀{a},Wo a->Wo (o.fix a)
 whole:∀{a},Wo a->Wo (o.whole a)
def uU(a b:Int):Int:=if a.tmod 9223372036854775808=0/\b.tmod 9223372036854775808=0 then 0 else if decide (9223372036854775808<=a)≠decide (9223372036854775808<=b)then(if 9223372036854775808<=a then-1 else 1)else if a.tmod 9223372036854775808=b.tmod 9223372036854775808 then 0 else if decide (a.tmod 9223372036854775808<b.tmod 9223372036854775808)=decide (a<9223372036854775808)then-1 else 1
def Unp(a c s:Int):Prop:=(s=0\/s=1)/\(1<c↔9218868437227405312<=a%9223372036854775808)/\(c=0↔a%9223372036854775808=0)/\(s=1->9223372036854775808<=a)
structure O7.S (o:O7):Prop where
 word:Hid (∀n,-9223372036854775808<=n->n<=9223372036854775807->∀w,QB 40 #[J n] w (Y (o.int n)))
 minus:Hid (∀a b,Wo a->Wo b->∀w,QB 59 #[Y a,Y b] w (Y (o.sub a b)))
 times:Hid (∀a b,Wo a->Wo b->∀w,QB 42 #[Y a,Y b] w (Y (o.mul a b)))
 half:KB 44 #[] (Y qR)
 aAF:Hid (∀w,CT 36 #[J 1,J 0,J 3,Y 4294967296] w fun e w'=>∃fl:Int,e=Z (aK c32 fl)/\Gb w w')
 aAE:Hid (∀w,CT 36 #[J 1,J 0,J 3,Y 9223372036854775808] w fun e w'=>∃fl:Int,e=Z (aK c63 fl)/\Gb w w')
 unp:∀{a},Wo a->∃c s x g:Int,Unp a c s/\bD 1 a c s x g
 order:Hid (∀a b,Wo a->Wo b->∀w,QW 116 #[J 1,Y a,Y b] w (J (uU a b)))
 jc:Hid (∀a,Wo a->∀w,CT 58 #[J 1,J 4,Y a,O false] w fun e w'=>∃fl:Int,e=Z (aK (o.jc a) fl)/\Gb w w')
 fix:Hid (∀a,Wo a->∀w,CT 63 #[J 1,J 2,J 3,Y a] w fun e w'=>∃fl:Int,e=Z (aK (o.fix a) fl)/\Gb w w')
 whole:Hid (∀a,Wo a->∀w,CT 63 #[J 1,J 0,J 1,Y a] w fun e w'=>∃fl:Int,e=Z (aK (o.whole a) fl)/\Gb w w')
 k1:o.mul (o.int (-2199023255552)) qR=14010698440749613056
 k2:o.mul (o.int 2199023255552) qR=4787326403894837248
 k3:o.mul (o.int 1) qR=qR
 k4:o.mul (o.int 2) qR=4607182418800017408
 k5:o.mul (o.int 0) qR=0
 k6:o.mul qR qR=4598175219545276416
 k7:o.mul 4598175219545276416 qR=4593671619917905920
 neg:∀{x},Wo x->9223372036854775808<=x->x%9223372036854775808<=9218868437227405312->o.fix (o.mul x c32)=0
structure O7.I (o:O7):Prop where
 word:Hid (∀n,-9223372036854775808<=n->n<=9223372036854775807->∀w,Fm w->QR 139 #[J n] w (Y (o.int n)))
 minus:Hid (∀a b,Wo a->Wo b->∀w,Fm w->QR 66 #[Y a,Y b] w (Y (o.sub a b)))
 times:Hid (∀a b,Wo a->Wo b->∀w,Fm w->QR 67 #[Y a,Y b] w (Y (o.mul a b)))
 fix:Hid (∀a,Wo a->∀w,Fm w->QR 68 #[Y a] w (Y (o.fix a)))
 jc:Hid (∀a,Wo a->∀w,Fm w->CT 65 #[J 1,J 4,Y a,O false] w fun e w'=>∃fl:Int,e=Z (aK (o.jc a) fl)/\Gr w w')
 whole:Hid (∀a,Wo a->a%9223372036854775808<=4787326403894837248->∀w,Fm w->CT 37 #[J 1,J 2,J 1,Y (o.jc a)] w fun e w'=>∃fl:Int,e=Z (aK (o.whole (o.jc a)) fl)/\Gr w w')
def isC(mu inv scale:Int):Bool:=decide (mu%9223372036854775808<=4787326403894837248)&&(decide (qR<=inv)&&decide (inv<=4607182418800017408))&&(decide (0<scale)&&decide (scale<=4607182418800017408))
namespace O7
variable (o:O7)
def above(mu:Int):Int:=o.sub mu (o.jc mu)
def narrow(inv:Int):Int:=o.mul (o.mul inv inv) qR
def shr(scale:Int):Int:=o.fix (o.mul scale c63)
def DK(z:Int)(n:Nat)(r h:Int):Int:=o.sub (o.mul (o.mul (o.sub (o.int z) r) (o.sub (o.int z) r)) h) (o.mul (o.int ((n:Int)*n)) 4593671619917905920)
def leaves(z:Int)(n:Nat)(r h e:Int):Int:=share (jV (o.fix (o.mul (o.DK z n r h) c32))) e
def acc(z:Int)(n:Nat)(r h e v:Int):Bool:=decide (v/2<o.leaves z n r h e)
end O7
def PI(n:Nat)(c:Int):Int:=if c%2=1 then(n:Int)+1 else-(n:Int)
theorem PS(n:Nat)(c:Int)(hn:n<=18):-18<=PI n c/\PI n c<=19:=by unfold PI;split<;>omega
theorem Wo.c(x:Int)(h0:0<=x:=by first|decide)(h1:x<18446744073709551616:=by first|decide):Wo x:=⟨h0,h1⟩
