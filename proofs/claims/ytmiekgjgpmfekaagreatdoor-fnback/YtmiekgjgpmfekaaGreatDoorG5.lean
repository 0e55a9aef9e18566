import Derived.Test.YtmiekgjgpmfekaaGreatDoorG3
set_option linter.all false
set_option maxRecDepth 1000000
set_option maxHeartbeats 40000000
open Go.Proofs.YtmiekgjgpmfekaaGreatDoor renaming vI → J
open Go.Value renaming int → Y, bool → X, tuple → V
open Go.IntKind renaming u64 → Z
open Go.Ending renaming returned → O
open Go.Proofs.Tryz
namespace Go.Proofs.YtmiekgjgpmfekaaGreatDoor
open Go.RowKit
variable{w:World}{v:Value}{M K b1 k1 c1 N B:Nat}{f p mn mx one mode sign e s:Int}{rest:Bool}
theorem aDC{P:Prop}(h:P:=by
 have u1:IntKind.i64.wrap ((nb M:Int)+e)=te:=by rw[ht];rw[IntKind.wrap_i64];omega
 have u2:IntKind.i64.wrap (te-1)=top:=by rw[htop];rw[IntKind.wrap_i64];omega
 have tb:-1000001<=top/\top<=5000001:=om;clear ht htop;go_enter func85,ntmps85;go_wp2;go_region_held3 (fun w'=>aj w' w.heap.size 0 (J sign)/\aj w' w.heap.size 1 (v)/\aj w' w.heap.size 2 (J e)/\aj w' w.heap.size 3 (X rest)/\aj w' (w.heap.size+1) 0 (Y Z 0)/\bK w' (w.heap.size+1) 0/\aj w' (w.heap.size+1) 1 (J 0)/\bK w' (w.heap.size+1) 1)
  ((go_split_ands;(repeat' apply And.intro)<;>exact kb))
  (first|(go_at_call 147;refine kw (RC.len HR.out 100000 _ M _ om (aC.gb HB.out kg)) ?_))
 all_goals
  (try go_split_ands)
  go_wp2_with (first
   |(go_at_call 148;refine kw (RC.max HR.out _) ?_)
   |(go_at_call 121;refine kw (RC.min HR.out _) ?_)
   |(go_at_call 98;refine kw (RC.prec HR.out _) ?_)
   |(go_at_call 120;refine kw (RC.two HR.out _) ?_)
   |(go_at_call 150;refine(lU _ kg).mono ?_;rintro x wc ⟨vL,rfl,hbL,hgc⟩;obtain⟨cx0,Fp,cx2,cx3⟩:oN wc w.heap.size 0 1 2 3 (J sign) (v) (J e) (X rest):=⟨ks,ks,ks,ks⟩;obtain⟨rQ,Z_,cr1,Z9⟩:iE wc (w.heap.size+1) 0 1 (Y Z 0) (J 0):=⟨ks,ks,ks,ks⟩)
   |(go_at_call 151;refine(RC.choose HR.out _ lo half _ (by first|(with_reducible assumption)|(refine aC.gb (by with_reducible assumption) kg)) pG).mono ?_;rintro x wd ⟨vr,rfl,hbr,hgd⟩;(try rw[hr]at hbr);obtain⟨dx0,dx1,dx2,dx3⟩:oN wd w.heap.size 0 1 2 3 (J sign) (v) (J e) (X rest):=⟨ks,ks,ks,ks⟩;obtain⟨uo,dz0,dr1,dz1⟩:iE wd (w.heap.size+1) 0 1 (Y Z 0) (J 0):=⟨ks,ks,ks,ks⟩)
   |(go_at_call 147;refine(RC.len HR.out 190000 _ r _ om (by first|(with_reducible assumption)|(refine aC.gb (by with_reducible assumption) kg))).mono ?_;rintro x wk ⟨rfl,hw⟩;subst hw)
   |(go_at_call 152;refine(RC.word HR.out _ r _ (by first|(with_reducible assumption)|(refine aC.gb (by with_reducible assumption) kg)) zu).mono ?_;rintro x wk ⟨rfl,hw⟩;subst hw)
   |(go_at_call 106;refine kw (nN _) ?_)
   |(go_at_call 149;refine(xR _).mono ?_;rintro x wo ⟨rfl,hgo⟩;obtain⟨ox0,ox1,ox2,ox3⟩:oN wo w.heap.size 0 1 2 3 (J sign) (v) (J e) (X rest):=⟨ks,ks,ks,ks⟩;obtain⟨BK,oz0,or1,oz1⟩:iE wo (w.heap.size+1) 0 1 (Y Z 0) (J 0):=⟨ks,ks,ks,ks⟩))
  exact dA (by simp[results,Tryz.results85,go_sem,BK,or1])):P:=h
theorem XA{P:Prop}(h:P:=by
 have u1:IntKind.i64.wrap ((nb M:Int)+e)=te:=by rw[ht];rw[IntKind.wrap_i64];omega
 have u2:IntKind.i64.wrap (te-1)=top:=by rw[htop];rw[IntKind.wrap_i64];omega
 have tb:-1000001<=top/\top<=5000001:=om;clear ht htop;go_enter func85,ntmps85;go_wp2;go_region_held3 (fun w'=>aj w' w.heap.size 0 (J sign)/\aj w' w.heap.size 1 (v)/\aj w' w.heap.size 2 (J e)/\aj w' w.heap.size 3 (X rest)/\aj w' (w.heap.size+1) 0 (Y Z 0)/\bK w' (w.heap.size+1) 0/\aj w' (w.heap.size+1) 1 (J 0)/\bK w' (w.heap.size+1) 1)
  ((go_split_ands;(repeat' apply And.intro)<;>exact kb))
  (first|(go_at_call 147;refine kw (RC.len HR.out 100000 _ M _ om (aC.gb HB.out kg)) ?_))
 all_goals
  (try go_split_ands)
  go_wp2_with (first
   |(go_at_call 148;refine kw (RC.max HR.out _) ?_)
   |(go_at_call 121;refine kw (RC.min HR.out _) ?_)
   |(go_at_call 98;refine kw (RC.prec HR.out _) ?_)
   |(go_at_call 120;refine kw (RC.two HR.out _) ?_)
   |(go_at_call 150;refine(lU _ kg).mono ?_;rintro x wc ⟨vL,rfl,hbL,hgc⟩;obtain⟨cx0,Fp,cx2,cx3⟩:oN wc w.heap.size 0 1 2 3 (J sign) (v) (J e) (X rest):=⟨ks,ks,ks,ks⟩;obtain⟨rQ,Z_,cr1,Z9⟩:iE wc (w.heap.size+1) 0 1 (Y Z 0) (J 0):=⟨ks,ks,ks,ks⟩)
   |(go_at_call 151;refine(RC.choose HR.out _ lo half _ (by first|(with_reducible assumption)|(refine aC.gb (by with_reducible assumption) kg)) pG).mono ?_;rintro x wd ⟨vr,rfl,hbr,hgd⟩;(try rw[hr]at hbr);obtain⟨dx0,dx1,dx2,dx3⟩:oN wd w.heap.size 0 1 2 3 (J sign) (v) (J e) (X rest):=⟨ks,ks,ks,ks⟩;obtain⟨uo,dz0,dr1,dz1⟩:iE wd (w.heap.size+1) 0 1 (Y Z 0) (J 0):=⟨ks,ks,ks,ks⟩)
   |(go_at_call 147;refine(RC.len HR.out 190000 _ r _ om (by first|(with_reducible assumption)|(refine aC.gb (by with_reducible assumption) kg))).mono ?_;rintro x wk ⟨rfl,hw⟩;subst hw)
   |(go_at_call 152;refine(RC.word HR.out _ r _ (by first|(with_reducible assumption)|(refine aC.gb (by with_reducible assumption) kg)) zu).mono ?_;rintro x wk ⟨rfl,hw⟩;subst hw)
   |(go_at_call 106;refine kw (nN _) ?_)
   |(go_at_call 149;refine(xR _).mono ?_;rintro x wo ⟨rfl,hgo⟩;obtain⟨ox0,ox1,ox2,ox3⟩:oN wo w.heap.size 0 1 2 3 (J sign) (v) (J e) (X rest):=⟨ks,ks,ks,ks⟩;obtain⟨BK,oz0,or1,oz1⟩:iE wo (w.heap.size+1) 0 1 (Y Z 0) (J 0):=⟨ks,ks,ks,ks⟩))
  exact dA (by simp[results,Tryz.results85,go_sem,uo,dr1])):P:=h
attribute [local go_sem] aj bK
theorem VT(HB:Hid (aC 100000 w v M))(HR:Hid (RC f p mn mx one mode sign w))(b1:24<=p)(b2:p<=53)(b3:-1022<=mn)(b4:mn<=-126)(b5:127<=mx)(b6:mx<=1023)(b7:0<=one)(b8:one<=4503599627370496)(n1:(nb M:Int)<=4000000)(e0:-1000000<=e)(e1:e<=1000000)(te top:Int)(ht:(nb M:Int)+e=te)(htop:te-1=top)(z:Int)(xR:KR 149 #[J f,J mode,J sign] (aK z 20))(c:mx<top):
  xO f mode sign v e rest w z 20:=by
 exact aDC
theorem QL(HB:Hid (aC 100000 w v M))(HR:Hid (RC f p mn mx one mode sign w))(b1:24<=p)(b2:p<=53)(b3:-1022<=mn)(b4:mn<=-126)(b5:127<=mx)(b6:mx<=1023)(b7:0<=one)(b8:one<=4503599627370496)(n1:(nb M:Int)<=4000000)(e0:-1000000<=e)(e1:e<=1000000)(te top:Int)(ht:(nb M:Int)+e=te)(htop:te-1=top)(c0:mn-p-2<=top)(c1:top<mn)(lo half:Nat)(lU:Hid (∀w',Gb w w'->CT 150 #[.agg #[J sign,v,J e,X rest],J (mn-p+1)] w' fun x w''=>∃vL,x=O (V #[vL,J (half:Int)])/\aC 180000 w'' vL lo/\Gb w' w''))(pG:half<=3)(r:Nat)(hr:chosen mode sign lo half=r)(zu:r<18446744073709551616)(z:Int)(nN:tX f sign r z)(hL:(nb r:Int)<=60)(hh:(half:Int)<=0):
  xO f mode sign v e rest w z 0:=by
 exact XA
theorem QG(HB:Hid (aC 100000 w v M))(HR:Hid (RC f p mn mx one mode sign w))(b1:24<=p)(b2:p<=53)(b3:-1022<=mn)(b4:mn<=-126)(b5:127<=mx)(b6:mx<=1023)(b7:0<=one)(b8:one<=4503599627370496)(n1:(nb M:Int)<=4000000)(e0:-1000000<=e)(e1:e<=1000000)(te top:Int)(ht:(nb M:Int)+e=te)(htop:te-1=top)(c0:mn<=top)(c1:top<=mx)(lo half:Nat)(lU:Hid (∀w',Gb w w'->CT 150 #[.agg #[J sign,v,J e,X rest],J (top-p+1)] w' fun x w''=>∃vL,x=O (V #[vL,J (half:Int)])/\aC 180000 w'' vL lo/\Gb w' w''))(pG:half<=3)(r:Nat)(hr:chosen mode sign lo half=r)(zu:r<18446744073709551616)(hL:(nb r:Int)<=60)(z:Int)(xR:KR 149 #[J f,J mode,J sign] (aK z 20))(hov:mx<(nb r:Int)+(top-p+1)-1):
  xO f mode sign v e rest w z 20:=by
 exact aDC
theorem Nh(HB:Hid (aC 100000 w v M))(HR:Hid (RC f p mn mx one mode sign w))(b1:24<=p)(b2:p<=53)(b3:-1022<=mn)(b4:mn<=-126)(b5:127<=mx)(b6:mx<=1023)(b7:0<=one)(b8:one<=4503599627370496)(n1:(nb M:Int)<=4000000)(e0:-1000000<=e)(e1:e<=1000000)(te top:Int)(ht:(nb M:Int)+e=te)(htop:te-1=top)(c0:mn<=top)(c2:top<=mn)(c1:top<=mx)(lo half:Nat)(lU:Hid (∀w',Gb w w'->CT 150 #[.agg #[J sign,v,J e,X rest],J (top-p+1)] w' fun x w''=>∃vL,x=O (V #[vL,J (half:Int)])/\aC 180000 w'' vL lo/\Gb w' w''))(pG:half<=3)(r:Nat)(hr:chosen mode sign lo half=r)(zu:r<18446744073709551616)(hL:(nb r:Int)<=60)(z:Int)(nN:tX f sign r z)(hov:(nb r:Int)+(top-p+1)-1<=mx)(hh:(half:Int)<=0):
  xO f mode sign v e rest w z 0:=by
 exact XA
theorem QI(HB:Hid (aC 100000 w v M))(HR:Hid (RC f p mn mx one mode sign w))(b1:24<=p)(b2:p<=53)(b3:-1022<=mn)(b4:mn<=-126)(b5:127<=mx)(b6:mx<=1023)(b7:0<=one)(b8:one<=4503599627370496)(n1:(nb M:Int)<=4000000)(e0:-1000000<=e)(e1:e<=1000000)(te top:Int)(ht:(nb M:Int)+e=te)(htop:te-1=top)(c2:mn<top)(c1:top<=mx)(lo half:Nat)(lU:Hid (∀w',Gb w w'->CT 150 #[.agg #[J sign,v,J e,X rest],J (top-p+1)] w' fun x w''=>∃vL,x=O (V #[vL,J (half:Int)])/\aC 180000 w'' vL lo/\Gb w' w''))(pG:half<=3)(r:Nat)(hr:chosen mode sign lo half=r)(zu:r<18446744073709551616)(hL:(nb r:Int)<=60)(z:Int)(y:Int)(hy:IntKind.u64.wrap (one*(top-p+1-(mn-p+1)))=y)(y0:0<=y)(hry:(r:Int)+y<18446744073709551616)(nN:tX f sign ((r:Int)+y) z)(hov:(nb r:Int)+(top-p+1)-1<=mx)(hh:(half:Int)<=0):
  xO f mode sign v e rest w z 0:=by
 exact XA
theorem aDA{P:Prop}(h:P:=by
 have u1:IntKind.i64.wrap ((nb M:Int)+e)=te:=by rw[ht];rw[IntKind.wrap_i64];omega
 have u2:IntKind.i64.wrap (te-1)=top:=by rw[htop];rw[IntKind.wrap_i64];omega
 have tb:-1000001<=top/\top<=5000001:=om;clear ht htop;have u3:IntKind.i64.wrap (top-p)=tp:=by rw[hq2];rw[IntKind.wrap_i64];omega
 have u4:IntKind.i64.wrap (tp+1)=q2:=by rw[Jy];rw[IntKind.wrap_i64];omega
 exact aDD):P:=h
theorem aDB{P:Prop}(h:P:=by
 have u1:IntKind.i64.wrap ((nb M:Int)+e)=te:=by rw[ht];rw[IntKind.wrap_i64];omega
 have u2:IntKind.i64.wrap (te-1)=top:=by rw[htop];rw[IntKind.wrap_i64];omega
 have tb:-1000001<=top/\top<=5000001:=om;clear ht htop;have u3:IntKind.i64.wrap (top-p)=tp:=by rw[hq2];rw[IntKind.wrap_i64];omega
 have u4:IntKind.i64.wrap (tp+1)=q2:=by rw[Jy];rw[IntKind.wrap_i64];omega
 have qb:-1000060<=q2/\q2<=5000060:=om;exact aDD):P:=h
theorem aDD{P:Prop}(h:P:=by
 clear hq2 Jy;go_enter func85,ntmps85;go_wp2;go_region_held3 (fun w'=>aj w' w.heap.size 0 (J sign)/\aj w' w.heap.size 1 (v)/\aj w' w.heap.size 2 (J e)/\aj w' w.heap.size 3 (X rest)/\aj w' (w.heap.size+1) 0 (Y Z 0)/\bK w' (w.heap.size+1) 0/\aj w' (w.heap.size+1) 1 (J 0)/\bK w' (w.heap.size+1) 1)
  ((go_split_ands;(repeat' apply And.intro)<;>exact kb))
  (first|(go_at_call 147;refine kw (RC.len HR.out 100000 _ M _ om (aC.gb HB.out kg)) ?_))
 all_goals
  (try go_split_ands)
  go_wp2_with (first
   |(go_at_call 148;refine kw (RC.max HR.out _) ?_)
   |(go_at_call 121;refine kw (RC.min HR.out _) ?_)
   |(go_at_call 98;refine kw (RC.prec HR.out _) ?_)
   |(go_at_call 120;refine kw (RC.two HR.out _) ?_)
   |(go_at_call 150;refine(lU _ kg).mono ?_;rintro x wc ⟨vL,rfl,hbL,hgc⟩;obtain⟨cx0,Fp,cx2,cx3⟩:oN wc w.heap.size 0 1 2 3 (J sign) (v) (J e) (X rest):=⟨ks,ks,ks,ks⟩;obtain⟨rQ,Z_,cr1,Z9⟩:iE wc (w.heap.size+1) 0 1 (Y Z 0) (J 0):=⟨ks,ks,ks,ks⟩)
   |(go_at_call 151;refine(RC.choose HR.out _ lo half _ (by first|(with_reducible assumption)|(refine aC.gb (by with_reducible assumption) kg)) pG).mono ?_;rintro x wd ⟨vr,rfl,hbr,hgd⟩;(try rw[hr]at hbr);obtain⟨dx0,dx1,dx2,dx3⟩:oN wd w.heap.size 0 1 2 3 (J sign) (v) (J e) (X rest):=⟨ks,ks,ks,ks⟩;obtain⟨uo,dz0,dr1,dz1⟩:iE wd (w.heap.size+1) 0 1 (Y Z 0) (J 0):=⟨ks,ks,ks,ks⟩)
   |(go_at_call 147;refine(RC.len HR.out 190000 _ r _ om (by first|(with_reducible assumption)|(refine aC.gb (by with_reducible assumption) kg))).mono ?_;rintro x wk ⟨rfl,hw⟩;subst hw)
   |(go_at_call 152;refine(RC.word HR.out _ r _ (by first|(with_reducible assumption)|(refine aC.gb (by with_reducible assumption) kg)) zu).mono ?_;rintro x wk ⟨rfl,hw⟩;subst hw)
   |(go_at_call 106;refine kw (nN _) ?_)
   |(go_at_call 149;refine(xR _).mono ?_;rintro x wo ⟨rfl,hgo⟩;obtain⟨ox0,ox1,ox2,ox3⟩:oN wo w.heap.size 0 1 2 3 (J sign) (v) (J e) (X rest):=⟨ks,ks,ks,ks⟩;obtain⟨BK,oz0,or1,oz1⟩:iE wo (w.heap.size+1) 0 1 (Y Z 0) (J 0):=⟨ks,ks,ks,ks⟩))
  go_region_held3 (fun w'=>aj w' w.heap.size 0 (J sign)/\aj w' w.heap.size 1 (v)/\aj w' w.heap.size 2 (J e)/\aj w' w.heap.size 3 (X rest)/\aj w' (w.heap.size+1) 0 (Y Z 0)/\bK w' (w.heap.size+1) 0/\aj w' (w.heap.size+1) 1 (J 0)/\bK w' (w.heap.size+1) 1)
   ((go_split_ands;(repeat' apply And.intro)<;>exact kb))
   (first
    |(go_at_call 98;refine kw (RC.prec HR.out _) ?_)
    |(go_at_call 150;refine(Ir _ kg).mono ?_;rintro x we ⟨vL2,rfl,aI6,hge⟩;obtain⟨aJm,aJl,aJk,aJj⟩:oN we w.heap.size 0 1 2 3 (J sign) (v) (J e) (X rest):=⟨ks,ks,ks,ks⟩;obtain⟨aJo,aJi,aJn,aJh⟩:iE we (w.heap.size+1) 0 1 (Y Z 0) (J 0):=⟨ks,ks,ks,ks⟩))
  all_goals
   (try go_split_ands)
   go_wp2_with (first
    |(go_at_call 148;refine kw (RC.max HR.out _) ?_)
    |(go_at_call 121;refine kw (RC.min HR.out _) ?_)
    |(go_at_call 98;refine kw (RC.prec HR.out _) ?_)
    |(go_at_call 120;refine kw (RC.two HR.out _) ?_)
    |(go_at_call 151;refine(RC.choose HR.out _ lo2 jS _ (by first|(with_reducible assumption)|(refine aC.gb (by with_reducible assumption) kg)) AO).mono ?_;rintro x wf ⟨vr2,rfl,aFf,hgf⟩;(try rw[hr2]at aFf);obtain⟨fx0,fx1,fx2,fx3⟩:oN wf w.heap.size 0 1 2 3 (J sign) (v) (J e) (X rest):=⟨ks,ks,ks,ks⟩;obtain⟨fr0,fz0,fr1,fz1⟩:iE wf (w.heap.size+1) 0 1 (Y Z 0) (J 0):=⟨ks,ks,ks,ks⟩)
    |(go_at_call 147;refine(RC.len HR.out 190000 _ r2 _ om (by first|(with_reducible assumption)|(refine aC.gb (by with_reducible assumption) kg))).mono ?_;rintro x wk ⟨rfl,hw⟩;subst hw)
    |(go_at_call 152;refine(RC.word HR.out _ r _ (by first|(with_reducible assumption)|(refine aC.gb (by with_reducible assumption) kg)) zu).mono ?_;rintro x wk ⟨rfl,hw⟩;subst hw)
    |(go_at_call 106;refine kw (nN _) ?_)
    |(go_at_call 149;refine(xR _).mono ?_;rintro x wo ⟨rfl,hgo⟩;obtain⟨ox0,ox1,ox2,ox3⟩:oN wo w.heap.size 0 1 2 3 (J sign) (v) (J e) (X rest):=⟨ks,ks,ks,ks⟩;obtain⟨BK,oz0,or1,oz1⟩:iE wo (w.heap.size+1) 0 1 (Y Z 0) (J 0):=⟨ks,ks,ks,ks⟩))
   exact dA (by simp[results,Tryz.results85,go_sem,fr0,fr1])):P:=h
theorem QK(HB:Hid (aC 100000 w v M))(HR:Hid (RC f p mn mx one mode sign w))(b1:24<=p)(b2:p<=53)(b3:-1022<=mn)(b4:mn<=-126)(b5:127<=mx)(b6:mx<=1023)(b7:0<=one)(b8:one<=4503599627370496)(n1:(nb M:Int)<=4000000)(e0:-1000000<=e)(e1:e<=1000000)(te top:Int)(ht:(nb M:Int)+e=te)(htop:te-1=top)(c0:mn-p-2<=top)(c1:top<mn)(lo half:Nat)(lU:Hid (∀w',Gb w w'->CT 150 #[.agg #[J sign,v,J e,X rest],J (mn-p+1)] w' fun x w''=>∃vL,x=O (V #[vL,J (half:Int)])/\aC 180000 w'' vL lo/\Gb w' w''))(pG:half<=3)(r:Nat)(hr:chosen mode sign lo half=r)(zu:r<18446744073709551616)(z:Int)(nN:tX f sign r z)(hL:(nb r:Int)<=60)(hh:0<(half:Int))(lo2 jS:Nat)(q2 tp:Int)(hq2:top-p=tp)(Jy:tp+1=q2)(Ir:Hid (∀w',Gb w w'->CT 150 #[.agg #[J sign,v,J e,X rest],J q2] w' fun x w''=>∃vL,x=O (V #[vL,J (jS:Int)])/\aC 180000 w'' vL lo2/\Gb w' w''))(AO:jS<=3)(r2:Nat)(hr2:chosen mode sign lo2 jS=r2)(hL2:(nb r2:Int)<=4000000)(hty:(nb r2:Int)+top-p<mn):
  xO f mode sign v e rest w z 24:=by
 exact aDA
theorem QJ(HB:Hid (aC 100000 w v M))(HR:Hid (RC f p mn mx one mode sign w))(b1:24<=p)(b2:p<=53)(b3:-1022<=mn)(b4:mn<=-126)(b5:127<=mx)(b6:mx<=1023)(b7:0<=one)(b8:one<=4503599627370496)(n1:(nb M:Int)<=4000000)(e0:-1000000<=e)(e1:e<=1000000)(te top:Int)(ht:(nb M:Int)+e=te)(htop:te-1=top)(c0:mn-p-2<=top)(c1:top<mn)(lo half:Nat)(lU:Hid (∀w',Gb w w'->CT 150 #[.agg #[J sign,v,J e,X rest],J (mn-p+1)] w' fun x w''=>∃vL,x=O (V #[vL,J (half:Int)])/\aC 180000 w'' vL lo/\Gb w' w''))(pG:half<=3)(r:Nat)(hr:chosen mode sign lo half=r)(zu:r<18446744073709551616)(z:Int)(nN:tX f sign r z)(hL:(nb r:Int)<=60)(hh:0<(half:Int))(lo2 jS:Nat)(q2 tp:Int)(hq2:top-p=tp)(Jy:tp+1=q2)(Ir:Hid (∀w',Gb w w'->CT 150 #[.agg #[J sign,v,J e,X rest],J q2] w' fun x w''=>∃vL,x=O (V #[vL,J (jS:Int)])/\aC 180000 w'' vL lo2/\Gb w' w''))(AO:jS<=3)(r2:Nat)(hr2:chosen mode sign lo2 jS=r2)(hL2:(nb r2:Int)<=4000000)(hty:mn<=(nb r2:Int)+top-p):
  xO f mode sign v e rest w z 16:=by
 exact aDA
theorem Nc(HB:Hid (aC 100000 w v M))(HR:Hid (RC f p mn mx one mode sign w))(b1:24<=p)(b2:p<=53)(b3:-1022<=mn)(b4:mn<=-126)(b5:127<=mx)(b6:mx<=1023)(b7:0<=one)(b8:one<=4503599627370496)(n1:(nb M:Int)<=4000000)(e0:-1000000<=e)(e1:e<=1000000)(te top:Int)(ht:(nb M:Int)+e=te)(htop:te-1=top)(q2 tp:Int)(hq2:top-p=tp)(Jy:tp+1=q2)(c0:mn<=top)(c2:q2<=mn-p+1)(c1:top<=mx)(lo half:Nat)(lU:Hid (∀w',Gb w w'->CT 150 #[.agg #[J sign,v,J e,X rest],J q2] w' fun x w''=>∃vL,x=O (V #[vL,J (half:Int)])/\aC 180000 w'' vL lo/\Gb w' w''))(pG:half<=3)(r:Nat)(hr:chosen mode sign lo half=r)(zu:r<18446744073709551616)(hL:(nb r:Int)<=60)(z:Int)(nN:tX f sign r z)(hov:(nb r:Int)+q2-1<=mx)(hh:0<(half:Int))(lo2 jS:Nat)(Ir:Hid (∀w',Gb w w'->CT 150 #[.agg #[J sign,v,J e,X rest],J q2] w' fun x w''=>∃vL,x=O (V #[vL,J (jS:Int)])/\aC 180000 w'' vL lo2/\Gb w' w''))(AO:jS<=3)(r2:Nat)(hr2:chosen mode sign lo2 jS=r2)(hL2:(nb r2:Int)<=4000000)(hty:mn<=(nb r2:Int)+top-p):
  xO f mode sign v e rest w z 16:=by
 exact aDB
theorem QH(HB:Hid (aC 100000 w v M))(HR:Hid (RC f p mn mx one mode sign w))(b1:24<=p)(b2:p<=53)(b3:-1022<=mn)(b4:mn<=-126)(b5:127<=mx)(b6:mx<=1023)(b7:0<=one)(b8:one<=4503599627370496)(n1:(nb M:Int)<=4000000)(e0:-1000000<=e)(e1:e<=1000000)(te top:Int)(ht:(nb M:Int)+e=te)(htop:te-1=top)(q2 tp:Int)(hq2:top-p=tp)(Jy:tp+1=q2)(c2:mn<top)(c3:mn-p+1<q2)(c1:top<=mx)(lo half:Nat)(lU:Hid (∀w',Gb w w'->CT 150 #[.agg #[J sign,v,J e,X rest],J q2] w' fun x w''=>∃vL,x=O (V #[vL,J (half:Int)])/\aC 180000 w'' vL lo/\Gb w' w''))(pG:half<=3)(r:Nat)(hr:chosen mode sign lo half=r)(zu:r<18446744073709551616)(hL:(nb r:Int)<=60)(z:Int)(y:Int)(hy:IntKind.u64.wrap (one*(q2-(mn-p+1)))=y)(y0:0<=y)(hry:(r:Int)+y<18446744073709551616)(nN:tX f sign ((r:Int)+y) z)(hov:(nb r:Int)+q2-1<=mx)(hh:0<(half:Int))(lo2 jS:Nat)(Ir:Hid (∀w',Gb w w'->CT 150 #[.agg #[J sign,v,J e,X rest],J q2] w' fun x w''=>∃vL,x=O (V #[vL,J (jS:Int)])/\aC 180000 w'' vL lo2/\Gb w' w''))(AO:jS<=3)(r2:Nat)(hr2:chosen mode sign lo2 jS=r2)(hL2:(nb r2:Int)<=4000000)(hty:mn<=(nb r2:Int)+top-p):
  xO f mode sign v e rest w z 16:=by
 exact aDB
theorem aC.set(h:aC K w (aB b1 k1 c1) N)(hN:0<N)(hc:aj w B 0 (J s))(o:Nat)(u:Value)(ho:o≠0):
  aC K (w.setCell ⟨B,o,none⟩ u) (aB b1 k1 c1) N/\aj (w.setCell ⟨B,o,none⟩ u) B 0 (J s):=by
 obtain⟨n,h1,hnm,hlt,b,cap,e,h3,h4,h5⟩:=h;simp only[Value.slice.injEq,Option.some.injEq,Addr.mk.injEq,and_true]at e;obtain⟨rfl,rfl,rfl⟩:=e;have hn:0<k1:=by
  rcases Nat.eq_zero_or_pos k1 with c|c
  ·have:=hnm.iff.mp c;omega
  ·exact c
 have hne:B≠b1:=by
  intro e;subst e;have:=h5 0 hn;rw[hc]at this;simp at this
 refine⟨⟨k1,h1,hnm,hlt,b1,c1,rfl,h3,h4,fun j hj=>aH (by simpa using hne) (h5 j hj)⟩,aQ ho hc⟩
theorem aC.aEy(h:aC K w (aB b1 k1 c1) N)(hN:0<N)(hc:aj w B 0 (J s))(u1 u2 u3:Value):
  aC K (((w.setCell ⟨B,1,none⟩ u1).setCell ⟨B,2,none⟩ u2).setCell ⟨B,3,none⟩ u3) (aB b1 k1 c1) N:=by
 obtain⟨a1,a2⟩:=h.set hN hc 1 u1 de;obtain⟨a3,a4⟩:=a1.set hN a2 2 u2 de;exact(a3.set hN a4 3 u3 de).1
theorem VU(HB:Hid (aC 100000 w v M))(HR:Hid (RC f p mn mx one mode sign w))(b1:24<=p)(b2:p<=53)(b3:-1022<=mn)(b4:mn<=-126)(b5:127<=mx)(b6:mx<=1023)(b7:0<=one)(b8:one<=4503599627370496)(n1:(nb M:Int)<=4000000)(e0:-1000000<=e)(e1:e<=1000000)(te top:Int)(ht:(nb M:Int)+e=te)(htop:te-1=top)(c0:top<mn-p-2)(lo half:Nat)(lU:Hid (∀v1 w',aC 100000 w' v1 1->CT 150 #[.agg #[J sign,v1,J (mn-p-2),X true],J (mn-p+1)] w' fun x w''=>∃vL,x=O (V #[vL,J (half:Int)])/\aC 180000 w'' vL lo/\Gb w' w''))(pG:half<=3)(r:Nat)(hr:chosen mode sign lo half=r)(zu:r<18446744073709551616)(hL:(nb r:Int)<=60)(z:Int)(nN:tX f sign r z)(hh:0<(half:Int))(lo2 jS:Nat)(q2 tp:Int)(hq2:mn-p-2-p=tp)(Jy:tp+1=q2)(Ir:Hid (∀v1 w',aC 100000 w' v1 1->CT 150 #[.agg #[J sign,v1,J (mn-p-2),X true],J q2] w' fun x w''=>∃vL,x=O (V #[vL,J (jS:Int)])/\aC 180000 w'' vL lo2/\Gb w' w''))(AO:jS<=3)(r2:Nat)(hr2:chosen mode sign lo2 jS=r2)(hL2:(nb r2:Int)<=4000000)(hty:(nb r2:Int)+(mn-p-2)-p<mn):
  xO f mode sign v e rest w z 24:=by
 have u1:IntKind.i64.wrap ((nb M:Int)+e)=te:=by rw[ht];rw[IntKind.wrap_i64];omega
 have u2:IntKind.i64.wrap (te-1)=top:=by rw[htop];rw[IntKind.wrap_i64];omega
 have tb:-1000001<=top/\top<=5000001:=om;clear ht htop;have u3:IntKind.i64.wrap (mn-p-2-p)=tp:=by rw[hq2];rw[IntKind.wrap_i64];omega
 have u4:IntKind.i64.wrap (tp+1)=q2:=by rw[Jy];rw[IntKind.wrap_i64];omega
 have yD:Hid (∀w',CT 100 #[Y Z 1] w' fun x w''=>∃b1 k1 c1,x=O (aB b1 k1 c1)/\aC 100000 w'' (aB b1 k1 c1) 1/\Gb w' w''):=fun w'=>(fC 1 om w').mono (fun x w'' ⟨v',k,a1,a2,a3,a4⟩=>by obtain⟨b,c,rfl,_⟩:=Big.shape a2;exact⟨b,k,c,a1,⟨k,om,a2⟩,a4⟩);clear hq2 Jy;go_enter func85,ntmps85;go_wp2;go_region_held3 (fun w'=>aj w' w.heap.size 0 (J sign)/\aj w' w.heap.size 1 (v)/\aj w' w.heap.size 2 (J e)/\aj w' w.heap.size 3 (X rest)/\aj w' (w.heap.size+1) 0 (Y Z 0)/\bK w' (w.heap.size+1) 0/\aj w' (w.heap.size+1) 1 (J 0)/\bK w' (w.heap.size+1) 1/\bK w' w.heap.size 1/\bK w' w.heap.size 2/\bK w' w.heap.size 3)
  ((go_split_ands;(repeat' apply And.intro)<;>exact kb))
  (first|(go_at_call 147;refine kw (RC.len HR.out 100000 _ M _ om (aC.gb HB.out kg)) ?_))
 all_goals
  (try go_split_ands)
  go_wp2_with (first
   |(go_at_call 148;refine kw (RC.max HR.out _) ?_)
   |(go_at_call 121;refine kw (RC.min HR.out _) ?_)
   |(go_at_call 98;refine kw (RC.prec HR.out _) ?_)
   |(go_at_call 120;refine kw (RC.two HR.out _) ?_)
   |(go_at_call 100;refine(yD _).mono ?_;rintro x wb ⟨b1,k1,c1,rfl,hb1,aIT⟩;obtain⟨bx0,bx1,bx2,bx3⟩:oN wb w.heap.size 0 1 2 3 (J sign) (v) (J e) (X rest):=⟨kb,kb,kb,kb⟩;obtain⟨jk,bz0,br1,bz1⟩:iE wb (w.heap.size+1) 0 1 (Y Z 0) (J 0):=⟨kb,kb,kb,kb⟩;have bq1:bK wb w.heap.size 1:=kb;have bq2:bK wb w.heap.size 2:=kb;have bq3:bK wb w.heap.size 3:=kb;have aKA:=au jk;have hset:=aC.aEy hb1 om bx0)
   |(go_at_call 150;refine(lU _ _ (by first|(with_reducible assumption)|(exact hset _ _ _)|(refine aC.gb (hset _ _ _) kg)|(refine aC.gb (by with_reducible assumption) kg))).mono ?_;rintro x wc ⟨vL,rfl,hbL,hgc⟩;obtain⟨cx0,Fp,cx2,cx3⟩:oN wc w.heap.size 0 1 2 3 (J sign) ((.slice (some ⟨b1,0,none⟩) k1 c1)) (J (mn-p-2)) (X true):=⟨kb,kb,kb,kb⟩;obtain⟨rQ,Z_,cr1,Z9⟩:iE wc (w.heap.size+1) 0 1 (Y Z 0) (J 0):=⟨kb,kb,kb,kb⟩)
   |(go_at_call 151;refine(RC.choose HR.out _ lo half _ (by first|(with_reducible assumption)|(exact hset _ _ _)|(refine aC.gb (hset _ _ _) kg)|(refine aC.gb (by with_reducible assumption) kg)) pG).mono ?_;rintro x wd ⟨vr,rfl,hbr,hgd⟩;(try rw[hr]at hbr);obtain⟨dx0,dx1,dx2,dx3⟩:oN wd w.heap.size 0 1 2 3 (J sign) ((.slice (some ⟨b1,0,none⟩) k1 c1)) (J (mn-p-2)) (X true):=⟨kb,kb,kb,kb⟩;obtain⟨uo,dz0,dr1,dz1⟩:iE wd (w.heap.size+1) 0 1 (Y Z 0) (J 0):=⟨kb,kb,kb,kb⟩)
   |(go_at_call 147;refine(RC.len HR.out 190000 _ r _ om (by first|(with_reducible assumption)|(exact hset _ _ _)|(refine aC.gb (hset _ _ _) kg)|(refine aC.gb (by with_reducible assumption) kg))).mono ?_;rintro x wk ⟨rfl,hw⟩;subst hw)
   |(go_at_call 152;refine(RC.word HR.out _ r _ (by first|(with_reducible assumption)|(exact hset _ _ _)|(refine aC.gb (hset _ _ _) kg)|(refine aC.gb (by with_reducible assumption) kg)) zu).mono ?_;rintro x wk ⟨rfl,hw⟩;subst hw)
   |(go_at_call 106;refine kw (nN _) ?_)
   |(go_at_call 149;refine(xR _).mono ?_;rintro x wo ⟨rfl,hgo⟩;obtain⟨ox0,ox1,ox2,ox3⟩:oN wo w.heap.size 0 1 2 3 (J sign) ((.slice (some ⟨b1,0,none⟩) k1 c1)) (J (mn-p-2)) (X true):=⟨kb,kb,kb,kb⟩;obtain⟨BK,oz0,or1,oz1⟩:iE wo (w.heap.size+1) 0 1 (Y Z 0) (J 0):=⟨kb,kb,kb,kb⟩))
  go_region_held3 (fun w'=>aj w' w.heap.size 0 (J sign)/\aj w' w.heap.size 1 ((aB b1 k1 c1))/\aj w' w.heap.size 2 (J (mn-p-2))/\aj w' w.heap.size 3 (X true)/\aj w' (w.heap.size+1) 0 (Y Z 0)/\bK w' (w.heap.size+1) 0/\aj w' (w.heap.size+1) 1 (J 0)/\bK w' (w.heap.size+1) 1)
   ((go_split_ands;(repeat' apply And.intro)<;>exact kb))
   (first
    |(go_at_call 98;refine kw (RC.prec HR.out _) ?_)
    |(go_at_call 150;refine(Ir _ _ (by first|(with_reducible assumption)|(exact hset _ _ _)|(refine aC.gb (hset _ _ _) kg)|(refine aC.gb (by with_reducible assumption) kg))).mono ?_;rintro x we ⟨vL2,rfl,aI6,hge⟩;obtain⟨aJm,aJl,aJk,aJj⟩:oN we w.heap.size 0 1 2 3 (J sign) ((.slice (some ⟨b1,0,none⟩) k1 c1)) (J (mn-p-2)) (X true):=⟨kb,kb,kb,kb⟩;obtain⟨aJo,aJi,aJn,aJh⟩:iE we (w.heap.size+1) 0 1 (Y Z 0) (J 0):=⟨kb,kb,kb,kb⟩))
  all_goals
   (try go_split_ands)
   go_wp2_with (first
    |(go_at_call 148;refine kw (RC.max HR.out _) ?_)
    |(go_at_call 121;refine kw (RC.min HR.out _) ?_)
    |(go_at_call 98;refine kw (RC.prec HR.out _) ?_)
    |(go_at_call 120;refine kw (RC.two HR.out _) ?_)
    |(go_at_call 100;refine(yD _).mono ?_;rintro x wb ⟨b1,k1,c1,rfl,hb1,aIT⟩;obtain⟨bx0,bx1,bx2,bx3⟩:oN wb w.heap.size 0 1 2 3 (J sign) (v) (J e) (X rest):=⟨kb,kb,kb,kb⟩;obtain⟨jk,bz0,br1,bz1⟩:iE wb (w.heap.size+1) 0 1 (Y Z 0) (J 0):=⟨kb,kb,kb,kb⟩)
    |(go_at_call 151;refine(RC.choose HR.out _ lo2 jS _ (by first|(with_reducible assumption)|(exact hset _ _ _)|(refine aC.gb (hset _ _ _) kg)|(refine aC.gb (by with_reducible assumption) kg)) AO).mono ?_;rintro x wf ⟨vr2,rfl,aFf,hgf⟩;(try rw[hr2]at aFf);obtain⟨fx0,fx1,fx2,fx3⟩:oN wf w.heap.size 0 1 2 3 (J sign) ((.slice (some ⟨b1,0,none⟩) k1 c1)) (J (mn-p-2)) (X true):=⟨kb,kb,kb,kb⟩;obtain⟨fr0,fz0,fr1,fz1⟩:iE wf (w.heap.size+1) 0 1 (Y Z 0) (J 0):=⟨kb,kb,kb,kb⟩)
    |(go_at_call 147;refine(RC.len HR.out 190000 _ r2 _ om (by first|(with_reducible assumption)|(exact hset _ _ _)|(refine aC.gb (hset _ _ _) kg)|(refine aC.gb (by with_reducible assumption) kg))).mono ?_;rintro x wk ⟨rfl,hw⟩;subst hw)
    |(go_at_call 152;refine(RC.word HR.out _ r _ (by first|(with_reducible assumption)|(exact hset _ _ _)|(refine aC.gb (hset _ _ _) kg)|(refine aC.gb (by with_reducible assumption) kg)) zu).mono ?_;rintro x wk ⟨rfl,hw⟩;subst hw)
    |(go_at_call 106;refine kw (nN _) ?_)
    |(go_at_call 149;refine(xR _).mono ?_;rintro x wo ⟨rfl,hgo⟩;obtain⟨ox0,ox1,ox2,ox3⟩:oN wo w.heap.size 0 1 2 3 (J sign) ((.slice (some ⟨b1,0,none⟩) k1 c1)) (J (mn-p-2)) (X true):=⟨kb,kb,kb,kb⟩;obtain⟨BK,oz0,or1,oz1⟩:iE wo (w.heap.size+1) 0 1 (Y Z 0) (J 0):=⟨kb,kb,kb,kb⟩))
   exact dA (by simp[results,Tryz.results85,go_sem,fr0,fr1])
