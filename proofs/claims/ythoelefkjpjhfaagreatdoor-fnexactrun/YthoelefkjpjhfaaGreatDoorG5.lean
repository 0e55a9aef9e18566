import Derived.Test.YthoelefkjpjhfaaGreatDoorG3
set_option linter.all false
set_option maxRecDepth 1000000
set_option maxHeartbeats 40000000
open Go.Proofs.YthoelefkjpjhfaaGreatDoor renaming vI → J, vU → Y
open Go.Ending renaming returned → Z
open Go.Value renaming bool → O, tuple → X
open Go.Proofs.Tryz
namespace Go.Proofs.YthoelefkjpjhfaaGreatDoor
open Go.RowKit
def aM1{P:Prop}(h:P:=by
 have u1:IntKind.i64.wrap ((nb M:Int)+e)=te:=by rw[ht];rw[dI];omega
 have u2:IntKind.i64.wrap (te-1)=dh:=by rw[jF];rw[dI];omega
 have tb:-1000001<=dh/\dh<=5000001:=om;clear ht jF;go_enter func138,ntmps138;go_wp2;go_region_held3 (λw'=>pG w' w.heap.size 0 1 2 3 (J aP) (v) (J e) (O rest)/\jX w' (w.heap.size+1) 0 1 (Y 0) (J 0))((go_split_ands;(repeat' apply And.intro)<;>exact kb))(first|(go_at_call 221;refine kw (RC.len HR.out 100000 _ M _ om (aK.gb HB.out kg)) ?_))
 all_goals
  (try go_split_ands)
  go_wp2_with (first|(go_at_call 206;refine kw (RC.max HR.out _) ?_)|(go_at_call 215;refine kw (RC.min HR.out _) ?_)|(go_at_call 116;refine kw (RC.prec HR.out _) ?_)|(go_at_call 117;refine kw (RC.two HR.out _) ?_)|(go_at_call 223;refine(pY _ kg).mono ?_;rintro x wc ⟨vL,rfl,Vs,EJ⟩;obtain⟨cx0,V7,cx2,cx3⟩:pG wc w.heap.size 0 1 2 3 (J aP) (v) (J e) (O rest):=⟨ks,ks,ks,ks⟩;obtain⟨yZ,cz0,cr1,cz1⟩:jX wc (w.heap.size+1) 0 1 (Y 0) (J 0):=⟨ks,ks,ks,ks⟩)|(go_at_call 224;refine(RC.choose HR.out _ lo half _ (by first|(with_reducible assumption)|(refine aK.gb (by with_reducible assumption) kg)) xw).mono ?_;rintro x wd ⟨vr,rfl,Iu,YD⟩;(try rw[hr]at Iu);obtain⟨dx0,dx1,dx2,dx3⟩:pG wd w.heap.size 0 1 2 3 (J aP) (v) (J e) (O rest):=⟨ks,ks,ks,ks⟩;obtain⟨AB,dz0,dr1,dz1⟩:jX wd (w.heap.size+1) 0 1 (Y 0) (J 0):=⟨ks,ks,ks,ks⟩)|(go_at_call 221;refine(RC.len HR.out 190000 _ r _ om (by first|(with_reducible assumption)|(refine aK.gb (by with_reducible assumption) kg))).mono ?_;rintro x wk ⟨rfl,hw⟩;subst hw)|(go_at_call 225;refine(RC.word HR.out _ r _ (by first|(with_reducible assumption)|(refine aK.gb (by with_reducible assumption) kg)) FM).mono ?_;rintro x wk ⟨rfl,hw⟩;subst hw)|(go_at_call 118;refine kw (wV _) ?_)|(go_at_call 222;refine(DU _).mono ?_;rintro x wo ⟨rfl,hgo⟩;obtain⟨ox0,ox1,ox2,ox3⟩:pG wo w.heap.size 0 1 2 3 (J aP) (v) (J e) (O rest):=⟨ks,ks,ks,ks⟩;obtain⟨JU,oz0,or1,oz1⟩:jX wo (w.heap.size+1) 0 1 (Y 0) (J 0):=⟨ks,ks,ks,ks⟩))
  exact dX (by simp[results,results138,go_sem,JU,or1])):P:=h
def aGa{P:Prop}(h:P:=by
 have u1:IntKind.i64.wrap ((nb M:Int)+e)=te:=by rw[ht];rw[dI];omega
 have u2:IntKind.i64.wrap (te-1)=dh:=by rw[jF];rw[dI];omega
 have tb:-1000001<=dh/\dh<=5000001:=om;clear ht jF;go_enter func138,ntmps138;go_wp2;go_region_held3 (λw'=>pG w' w.heap.size 0 1 2 3 (J aP) (v) (J e) (O rest)/\jX w' (w.heap.size+1) 0 1 (Y 0) (J 0))((go_split_ands;(repeat' apply And.intro)<;>exact kb))(first|(go_at_call 221;refine kw (RC.len HR.out 100000 _ M _ om (aK.gb HB.out kg)) ?_))
 all_goals
  (try go_split_ands)
  go_wp2_with (first|(go_at_call 206;refine kw (RC.max HR.out _) ?_)|(go_at_call 215;refine kw (RC.min HR.out _) ?_)|(go_at_call 116;refine kw (RC.prec HR.out _) ?_)|(go_at_call 117;refine kw (RC.two HR.out _) ?_)|(go_at_call 223;refine(pY _ kg).mono ?_;rintro x wc ⟨vL,rfl,Vs,EJ⟩;obtain⟨cx0,V7,cx2,cx3⟩:pG wc w.heap.size 0 1 2 3 (J aP) (v) (J e) (O rest):=⟨ks,ks,ks,ks⟩;obtain⟨yZ,cz0,cr1,cz1⟩:jX wc (w.heap.size+1) 0 1 (Y 0) (J 0):=⟨ks,ks,ks,ks⟩)|(go_at_call 224;refine(RC.choose HR.out _ lo half _ (by first|(with_reducible assumption)|(refine aK.gb (by with_reducible assumption) kg)) xw).mono ?_;rintro x wd ⟨vr,rfl,Iu,YD⟩;(try rw[hr]at Iu);obtain⟨dx0,dx1,dx2,dx3⟩:pG wd w.heap.size 0 1 2 3 (J aP) (v) (J e) (O rest):=⟨ks,ks,ks,ks⟩;obtain⟨AB,dz0,dr1,dz1⟩:jX wd (w.heap.size+1) 0 1 (Y 0) (J 0):=⟨ks,ks,ks,ks⟩)|(go_at_call 221;refine(RC.len HR.out 190000 _ r _ om (by first|(with_reducible assumption)|(refine aK.gb (by with_reducible assumption) kg))).mono ?_;rintro x wk ⟨rfl,hw⟩;subst hw)|(go_at_call 225;refine(RC.word HR.out _ r _ (by first|(with_reducible assumption)|(refine aK.gb (by with_reducible assumption) kg)) FM).mono ?_;rintro x wk ⟨rfl,hw⟩;subst hw)|(go_at_call 118;refine kw (wV _) ?_)|(go_at_call 222;refine(DU _).mono ?_;rintro x wo ⟨rfl,hgo⟩;obtain⟨ox0,ox1,ox2,ox3⟩:pG wo w.heap.size 0 1 2 3 (J aP) (v) (J e) (O rest):=⟨ks,ks,ks,ks⟩;obtain⟨JU,oz0,or1,oz1⟩:jX wo (w.heap.size+1) 0 1 (Y 0) (J 0):=⟨ks,ks,ks,ks⟩))
  exact dX (by simp[results,results138,go_sem,AB,dr1])):P:=h
attribute [local go_sem] aB dL
def aEK{v:Value}{M:Nat}{w:ak}{f p mn mx one aj aP e:Int}{rest:Bool}(HB:Hid (aK 100000 w v M))(HR:Hid (RC f p mn mx one aj aP w))(b1:24<=p)(b2:p<=53)(b3:-1022<=mn)(b4:mn<=-126)(b5:127<=mx)(b6:mx<=1023)(b7:0<=one)(b8:one<=4503599627370496)(n1:(nb M:Int)<=4000000)(e0:-1000000<=e)(e1:e<=1000000)(te dh:Int)(ht:(nb M:Int)+e=te)(jF:te-1=dh)(z:Int)(DU:KR 222 #[J f,J aj,J aP] (aU z 20))(c:mx<dh):
  DT f aj aP v e rest w z 20:=by
 exact aM1
def aBi{v:Value}{M:Nat}{w:ak}{f p mn mx one aj aP e:Int}{rest:Bool}(HB:Hid (aK 100000 w v M))(HR:Hid (RC f p mn mx one aj aP w))(b1:24<=p)(b2:p<=53)(b3:-1022<=mn)(b4:mn<=-126)(b5:127<=mx)(b6:mx<=1023)(b7:0<=one)(b8:one<=4503599627370496)(n1:(nb M:Int)<=4000000)(e0:-1000000<=e)(e1:e<=1000000)(te dh:Int)(ht:(nb M:Int)+e=te)(jF:te-1=dh)(c0:mn-p-2<=dh)(c1:dh<mn)(lo half:Nat)(pY:Hid (∀w',Gb w w'->CT 223 #[.agg #[J aP,v,J e,O rest],J (mn-p+1)] w' λx bf=>∃vL,x=Z (X #[vL,J (half:Int)])/\aK 180000 bf vL lo/\Gb w' bf))(xw:half<=3)(r:Nat)(hr:chosen aj aP lo half=r)(FM:aI r)(z:Int)(wV:Af f aP r z)(hL:(nb r:Int)<=60)(hh:(half:Int)<=0):
  DT f aj aP v e rest w z 0:=by
 exact aGa
def aBd{v:Value}{M:Nat}{w:ak}{f p mn mx one aj aP e:Int}{rest:Bool}(HB:Hid (aK 100000 w v M))(HR:Hid (RC f p mn mx one aj aP w))(b1:24<=p)(b2:p<=53)(b3:-1022<=mn)(b4:mn<=-126)(b5:127<=mx)(b6:mx<=1023)(b7:0<=one)(b8:one<=4503599627370496)(n1:(nb M:Int)<=4000000)(e0:-1000000<=e)(e1:e<=1000000)(te dh:Int)(ht:(nb M:Int)+e=te)(jF:te-1=dh)(c0:mn<=dh)(c1:dh<=mx)(lo half:Nat)(pY:Hid (∀w',Gb w w'->CT 223 #[.agg #[J aP,v,J e,O rest],J (dh-p+1)] w' λx bf=>∃vL,x=Z (X #[vL,J (half:Int)])/\aK 180000 bf vL lo/\Gb w' bf))(xw:half<=3)(r:Nat)(hr:chosen aj aP lo half=r)(FM:aI r)(hL:(nb r:Int)<=60)(z:Int)(DU:KR 222 #[J f,J aj,J aP] (aU z 20))(hov:mx<(nb r:Int)+(dh-p+1)-1):
  DT f aj aP v e rest w z 20:=by
 exact aM1
def Yk{v:Value}{M:Nat}{w:ak}{f p mn mx one aj aP e:Int}{rest:Bool}(HB:Hid (aK 100000 w v M))(HR:Hid (RC f p mn mx one aj aP w))(b1:24<=p)(b2:p<=53)(b3:-1022<=mn)(b4:mn<=-126)(b5:127<=mx)(b6:mx<=1023)(b7:0<=one)(b8:one<=4503599627370496)(n1:(nb M:Int)<=4000000)(e0:-1000000<=e)(e1:e<=1000000)(te dh:Int)(ht:(nb M:Int)+e=te)(jF:te-1=dh)(c0:mn<=dh)(c2:dh<=mn)(c1:dh<=mx)(lo half:Nat)(pY:Hid (∀w',Gb w w'->CT 223 #[.agg #[J aP,v,J e,O rest],J (dh-p+1)] w' λx bf=>∃vL,x=Z (X #[vL,J (half:Int)])/\aK 180000 bf vL lo/\Gb w' bf))(xw:half<=3)(r:Nat)(hr:chosen aj aP lo half=r)(FM:aI r)(hL:(nb r:Int)<=60)(z:Int)(wV:Af f aP r z)(hov:(nb r:Int)+(dh-p+1)-1<=mx)(hh:(half:Int)<=0):
  DT f aj aP v e rest w z 0:=by
 exact aGa
def aBf{v:Value}{M:Nat}{w:ak}{f p mn mx one aj aP e:Int}{rest:Bool}(HB:Hid (aK 100000 w v M))(HR:Hid (RC f p mn mx one aj aP w))(b1:24<=p)(b2:p<=53)(b3:-1022<=mn)(b4:mn<=-126)(b5:127<=mx)(b6:mx<=1023)(b7:0<=one)(b8:one<=4503599627370496)(n1:(nb M:Int)<=4000000)(e0:-1000000<=e)(e1:e<=1000000)(te dh:Int)(ht:(nb M:Int)+e=te)(jF:te-1=dh)(c2:mn<dh)(c1:dh<=mx)(lo half:Nat)(pY:Hid (∀w',Gb w w'->CT 223 #[.agg #[J aP,v,J e,O rest],J (dh-p+1)] w' λx bf=>∃vL,x=Z (X #[vL,J (half:Int)])/\aK 180000 bf vL lo/\Gb w' bf))(xw:half<=3)(r:Nat)(hr:chosen aj aP lo half=r)(FM:aI r)(hL:(nb r:Int)<=60)(z:Int)(y:Int)(hy:IntKind.u64.wrap (one*(dh-p+1-(mn-p+1)))=y)(y0:0<=y)(hry:(r:Int)+y<18446744073709551616)(wV:Af f aP ((r:Int)+y) z)(hov:(nb r:Int)+(dh-p+1)-1<=mx)(hh:(half:Int)<=0):
  DT f aj aP v e rest w z 0:=by
 exact aGa
set_option maxRecDepth 1000000
def aMZ{P:Prop}(h:P:=by
 have u1:IntKind.i64.wrap ((nb M:Int)+e)=te:=by rw[ht];rw[dI];omega
 have u2:IntKind.i64.wrap (te-1)=dh:=by rw[jF];rw[dI];omega
 have tb:-1000001<=dh/\dh<=5000001:=om;clear ht jF;have u3:IntKind.i64.wrap (dh-p)=tp:=by rw[ZJ];rw[dI];omega
 have u4:IntKind.i64.wrap (tp+1)=q2:=by rw[Vm];rw[dI];omega
 exact aM2):P:=h
def aM0{P:Prop}(h:P:=by
 have u1:IntKind.i64.wrap ((nb M:Int)+e)=te:=by rw[ht];rw[dI];omega
 have u2:IntKind.i64.wrap (te-1)=dh:=by rw[jF];rw[dI];omega
 have tb:-1000001<=dh/\dh<=5000001:=om;clear ht jF;have u3:IntKind.i64.wrap (dh-p)=tp:=by rw[ZJ];rw[dI];omega
 have u4:IntKind.i64.wrap (tp+1)=q2:=by rw[Vm];rw[dI];omega
 have qb:-1000060<=q2/\q2<=5000060:=om;exact aM2):P:=h
def aM2{P:Prop}(h:P:=by
 clear ZJ Vm;go_enter func138,ntmps138;go_wp2;go_region_held3 (λw'=>pG w' w.heap.size 0 1 2 3 (J aP) (v) (J e) (O rest)/\jX w' (w.heap.size+1) 0 1 (Y 0) (J 0))((go_split_ands;(repeat' apply And.intro)<;>exact kb))(first|(go_at_call 221;refine kw (RC.len HR.out 100000 _ M _ om (aK.gb HB.out kg)) ?_))
 all_goals
  (try go_split_ands)
  go_wp2_with (first|(go_at_call 206;refine kw (RC.max HR.out _) ?_)|(go_at_call 215;refine kw (RC.min HR.out _) ?_)|(go_at_call 116;refine kw (RC.prec HR.out _) ?_)|(go_at_call 117;refine kw (RC.two HR.out _) ?_)|(go_at_call 223;refine(pY _ kg).mono ?_;rintro x wc ⟨vL,rfl,Vs,EJ⟩;obtain⟨cx0,V7,cx2,cx3⟩:pG wc w.heap.size 0 1 2 3 (J aP) (v) (J e) (O rest):=⟨ks,ks,ks,ks⟩;obtain⟨yZ,cz0,cr1,cz1⟩:jX wc (w.heap.size+1) 0 1 (Y 0) (J 0):=⟨ks,ks,ks,ks⟩)|(go_at_call 224;refine(RC.choose HR.out _ lo half _ (by first|(with_reducible assumption)|(refine aK.gb (by with_reducible assumption) kg)) xw).mono ?_;rintro x wd ⟨vr,rfl,Iu,YD⟩;(try rw[hr]at Iu);obtain⟨dx0,dx1,dx2,dx3⟩:pG wd w.heap.size 0 1 2 3 (J aP) (v) (J e) (O rest):=⟨ks,ks,ks,ks⟩;obtain⟨AB,dz0,dr1,dz1⟩:jX wd (w.heap.size+1) 0 1 (Y 0) (J 0):=⟨ks,ks,ks,ks⟩)|(go_at_call 221;refine(RC.len HR.out 190000 _ r _ om (by first|(with_reducible assumption)|(refine aK.gb (by with_reducible assumption) kg))).mono ?_;rintro x wk ⟨rfl,hw⟩;subst hw)|(go_at_call 225;refine(RC.word HR.out _ r _ (by first|(with_reducible assumption)|(refine aK.gb (by with_reducible assumption) kg)) FM).mono ?_;rintro x wk ⟨rfl,hw⟩;subst hw)|(go_at_call 118;refine kw (wV _) ?_)|(go_at_call 222;refine(DU _).mono ?_;rintro x wo ⟨rfl,hgo⟩;obtain⟨ox0,ox1,ox2,ox3⟩:pG wo w.heap.size 0 1 2 3 (J aP) (v) (J e) (O rest):=⟨ks,ks,ks,ks⟩;obtain⟨JU,oz0,or1,oz1⟩:jX wo (w.heap.size+1) 0 1 (Y 0) (J 0):=⟨ks,ks,ks,ks⟩))
  go_region_held3 (λw'=>pG w' w.heap.size 0 1 2 3 (J aP) (v) (J e) (O rest)/\jX w' (w.heap.size+1) 0 1 (Y 0) (J 0))((go_split_ands;(repeat' apply And.intro)<;>exact kb))(first|(go_at_call 116;refine kw (RC.prec HR.out _) ?_)|(go_at_call 223;refine(TP _ kg).mono ?_;rintro x we ⟨vL2,rfl,aUc,hge⟩;obtain⟨aUr,aUq,aUp,aUo⟩:pG we w.heap.size 0 1 2 3 (J aP) (v) (J e) (O rest):=⟨ks,ks,ks,ks⟩;obtain⟨aUt,aUn,aUs,aUm⟩:jX we (w.heap.size+1) 0 1 (Y 0) (J 0):=⟨ks,ks,ks,ks⟩))
  all_goals
   (try go_split_ands)
   go_wp2_with (first|(go_at_call 206;refine kw (RC.max HR.out _) ?_)|(go_at_call 215;refine kw (RC.min HR.out _) ?_)|(go_at_call 116;refine kw (RC.prec HR.out _) ?_)|(go_at_call 117;refine kw (RC.two HR.out _) ?_)|(go_at_call 224;refine(RC.choose HR.out _ lo2 oQ _ (by first|(with_reducible assumption)|(refine aK.gb (by with_reducible assumption) kg)) Iq).mono ?_;rintro x wf ⟨vr2,rfl,aO6,hgf⟩;(try rw[tY]at aO6);obtain⟨fx0,fx1,fx2,fx3⟩:pG wf w.heap.size 0 1 2 3 (J aP) (v) (J e) (O rest):=⟨ks,ks,ks,ks⟩;obtain⟨fr0,fz0,fr1,fz1⟩:jX wf (w.heap.size+1) 0 1 (Y 0) (J 0):=⟨ks,ks,ks,ks⟩)|(go_at_call 221;refine(RC.len HR.out 190000 _ r2 _ om (by first|(with_reducible assumption)|(refine aK.gb (by with_reducible assumption) kg))).mono ?_;rintro x wk ⟨rfl,hw⟩;subst hw)|(go_at_call 225;refine(RC.word HR.out _ r _ (by first|(with_reducible assumption)|(refine aK.gb (by with_reducible assumption) kg)) FM).mono ?_;rintro x wk ⟨rfl,hw⟩;subst hw)|(go_at_call 118;refine kw (wV _) ?_)|(go_at_call 222;refine(DU _).mono ?_;rintro x wo ⟨rfl,hgo⟩;obtain⟨ox0,ox1,ox2,ox3⟩:pG wo w.heap.size 0 1 2 3 (J aP) (v) (J e) (O rest):=⟨ks,ks,ks,ks⟩;obtain⟨JU,oz0,or1,oz1⟩:jX wo (w.heap.size+1) 0 1 (Y 0) (J 0):=⟨ks,ks,ks,ks⟩))
   exact dX (by simp[results,results138,go_sem,fr0,fr1])):P:=h
def aBh{v:Value}{M:Nat}{w:ak}{f p mn mx one aj aP e:Int}{rest:Bool}(HB:Hid (aK 100000 w v M))(HR:Hid (RC f p mn mx one aj aP w))(b1:24<=p)(b2:p<=53)(b3:-1022<=mn)(b4:mn<=-126)(b5:127<=mx)(b6:mx<=1023)(b7:0<=one)(b8:one<=4503599627370496)(n1:(nb M:Int)<=4000000)(e0:-1000000<=e)(e1:e<=1000000)(te dh:Int)(ht:(nb M:Int)+e=te)(jF:te-1=dh)(c0:mn-p-2<=dh)(c1:dh<mn)(lo half:Nat)(pY:Hid (∀w',Gb w w'->CT 223 #[.agg #[J aP,v,J e,O rest],J (mn-p+1)] w' λx bf=>∃vL,x=Z (X #[vL,J (half:Int)])/\aK 180000 bf vL lo/\Gb w' bf))(xw:half<=3)(r:Nat)(hr:chosen aj aP lo half=r)(FM:aI r)(z:Int)(wV:Af f aP r z)(hL:(nb r:Int)<=60)(hh:0<(half:Int))(lo2 oQ:Nat)(q2 tp:Int)(ZJ:dh-p=tp)(Vm:tp+1=q2)(TP:Hid (∀w',Gb w w'->CT 223 #[.agg #[J aP,v,J e,O rest],J q2] w' λx bf=>∃vL,x=Z (X #[vL,J (oQ:Int)])/\aK 180000 bf vL lo2/\Gb w' bf))(Iq:oQ<=3)(r2:Nat)(tY:chosen aj aP lo2 oQ=r2)(L6:(nb r2:Int)<=4000000)(LW:(nb r2:Int)+dh-p<mn):
  DT f aj aP v e rest w z 24:=by
 exact aMZ
def aBg{v:Value}{M:Nat}{w:ak}{f p mn mx one aj aP e:Int}{rest:Bool}(HB:Hid (aK 100000 w v M))(HR:Hid (RC f p mn mx one aj aP w))(b1:24<=p)(b2:p<=53)(b3:-1022<=mn)(b4:mn<=-126)(b5:127<=mx)(b6:mx<=1023)(b7:0<=one)(b8:one<=4503599627370496)(n1:(nb M:Int)<=4000000)(e0:-1000000<=e)(e1:e<=1000000)(te dh:Int)(ht:(nb M:Int)+e=te)(jF:te-1=dh)(c0:mn-p-2<=dh)(c1:dh<mn)(lo half:Nat)(pY:Hid (∀w',Gb w w'->CT 223 #[.agg #[J aP,v,J e,O rest],J (mn-p+1)] w' λx bf=>∃vL,x=Z (X #[vL,J (half:Int)])/\aK 180000 bf vL lo/\Gb w' bf))(xw:half<=3)(r:Nat)(hr:chosen aj aP lo half=r)(FM:aI r)(z:Int)(wV:Af f aP r z)(hL:(nb r:Int)<=60)(hh:0<(half:Int))(lo2 oQ:Nat)(q2 tp:Int)(ZJ:dh-p=tp)(Vm:tp+1=q2)(TP:Hid (∀w',Gb w w'->CT 223 #[.agg #[J aP,v,J e,O rest],J q2] w' λx bf=>∃vL,x=Z (X #[vL,J (oQ:Int)])/\aK 180000 bf vL lo2/\Gb w' bf))(Iq:oQ<=3)(r2:Nat)(tY:chosen aj aP lo2 oQ=r2)(L6:(nb r2:Int)<=4000000)(LW:mn<=(nb r2:Int)+dh-p):
  DT f aj aP v e rest w z 16:=by
 exact aMZ
def Yj{v:Value}{M:Nat}{w:ak}{f p mn mx one aj aP e:Int}{rest:Bool}(HB:Hid (aK 100000 w v M))(HR:Hid (RC f p mn mx one aj aP w))(b1:24<=p)(b2:p<=53)(b3:-1022<=mn)(b4:mn<=-126)(b5:127<=mx)(b6:mx<=1023)(b7:0<=one)(b8:one<=4503599627370496)(n1:(nb M:Int)<=4000000)(e0:-1000000<=e)(e1:e<=1000000)(te dh:Int)(ht:(nb M:Int)+e=te)(jF:te-1=dh)(q2 tp:Int)(ZJ:dh-p=tp)(Vm:tp+1=q2)(c0:mn<=dh)(c2:q2<=mn-p+1)(c1:dh<=mx)(lo half:Nat)(pY:Hid (∀w',Gb w w'->CT 223 #[.agg #[J aP,v,J e,O rest],J q2] w' λx bf=>∃vL,x=Z (X #[vL,J (half:Int)])/\aK 180000 bf vL lo/\Gb w' bf))(xw:half<=3)(r:Nat)(hr:chosen aj aP lo half=r)(FM:aI r)(hL:(nb r:Int)<=60)(z:Int)(wV:Af f aP r z)(hov:(nb r:Int)+q2-1<=mx)(hh:0<(half:Int))(lo2 oQ:Nat)(TP:Hid (∀w',Gb w w'->CT 223 #[.agg #[J aP,v,J e,O rest],J q2] w' λx bf=>∃vL,x=Z (X #[vL,J (oQ:Int)])/\aK 180000 bf vL lo2/\Gb w' bf))(Iq:oQ<=3)(r2:Nat)(tY:chosen aj aP lo2 oQ=r2)(L6:(nb r2:Int)<=4000000)(LW:mn<=(nb r2:Int)+dh-p):
  DT f aj aP v e rest w z 16:=by
 exact aM0
def aBe{v:Value}{M:Nat}{w:ak}{f p mn mx one aj aP e:Int}{rest:Bool}(HB:Hid (aK 100000 w v M))(HR:Hid (RC f p mn mx one aj aP w))(b1:24<=p)(b2:p<=53)(b3:-1022<=mn)(b4:mn<=-126)(b5:127<=mx)(b6:mx<=1023)(b7:0<=one)(b8:one<=4503599627370496)(n1:(nb M:Int)<=4000000)(e0:-1000000<=e)(e1:e<=1000000)(te dh:Int)(ht:(nb M:Int)+e=te)(jF:te-1=dh)(q2 tp:Int)(ZJ:dh-p=tp)(Vm:tp+1=q2)(c2:mn<dh)(c3:mn-p+1<q2)(c1:dh<=mx)(lo half:Nat)(pY:Hid (∀w',Gb w w'->CT 223 #[.agg #[J aP,v,J e,O rest],J q2] w' λx bf=>∃vL,x=Z (X #[vL,J (half:Int)])/\aK 180000 bf vL lo/\Gb w' bf))(xw:half<=3)(r:Nat)(hr:chosen aj aP lo half=r)(FM:aI r)(hL:(nb r:Int)<=60)(z:Int)(y:Int)(hy:IntKind.u64.wrap (one*(q2-(mn-p+1)))=y)(y0:0<=y)(hry:(r:Int)+y<18446744073709551616)(wV:Af f aP ((r:Int)+y) z)(hov:(nb r:Int)+q2-1<=mx)(hh:0<(half:Int))(lo2 oQ:Nat)(TP:Hid (∀w',Gb w w'->CT 223 #[.agg #[J aP,v,J e,O rest],J q2] w' λx bf=>∃vL,x=Z (X #[vL,J (oQ:Int)])/\aK 180000 bf vL lo2/\Gb w' bf))(Iq:oQ<=3)(r2:Nat)(tY:chosen aj aP lo2 oQ=r2)(L6:(nb r2:Int)<=4000000)(LW:mn<=(nb r2:Int)+dh-p):
  DT f aj aP v e rest w z 16:=by
 exact aM0
set_option maxRecDepth 1000000
def aK.set{K:Nat}{w:ak}{b1 k1 c1 N:Nat}(h:aK K w (aF b1 k1 c1) N)(hN:0<N){B:Nat}{s:Int}(hc:aB w B 0 (J s))(o:Nat)(u:Value)(ho:o≠0):
  aK K (w.setCell ⟨B,o,none⟩ u) (aF b1 k1 c1) N/\aB (w.setCell ⟨B,o,none⟩ u) B 0 (J s):=by
 obtain⟨n,h1,xk,fJ,b,cap,e,h3,h4,h5⟩:=h;simp only[Value.slice.injEq,Option.some.injEq,Addr.mk.injEq,and_true]at e;obtain⟨rfl,rfl,rfl⟩:=e;have hn:0<k1:=by
  rcases jL k1 with c|c
  .have:=xk.iff.mp c;omega
  .exact c
 have lM:B≠b1:=by
  intro e;subst e;have:=h5 0 hn;rw[hc]at this;simp at this
 refine⟨⟨k1,h1,xk,fJ,b1,c1,rfl,h3,h4,λj hj=>aZ (by simpa using lM) (h5 j hj)⟩,bQ ho hc⟩
def aK.aN2{K:Nat}{w:ak}{b1 k1 c1 N:Nat}(h:aK K w (aF b1 k1 c1) N)(hN:0<N){B:Nat}{s:Int}(hc:aB w B 0 (J s))(u1 u2 u3:Value):
  aK K (((w.setCell ⟨B,1,none⟩ u1).setCell ⟨B,2,none⟩ u2).setCell ⟨B,3,none⟩ u3) (aF b1 k1 c1) N:=by
 obtain⟨a1,a2⟩:=h.set hN hc 1 u1 de;obtain⟨a3,a4⟩:=a1.set hN a2 2 u2 de;exact(a3.set hN a4 3 u3 de).1
def aEL{v:Value}{M:Nat}{w:ak}{f p mn mx one aj aP e:Int}{rest:Bool}(HB:Hid (aK 100000 w v M))(HR:Hid (RC f p mn mx one aj aP w))(b1:24<=p)(b2:p<=53)(b3:-1022<=mn)(b4:mn<=-126)(b5:127<=mx)(b6:mx<=1023)(b7:0<=one)(b8:one<=4503599627370496)(n1:(nb M:Int)<=4000000)(e0:-1000000<=e)(e1:e<=1000000)(te dh:Int)(ht:(nb M:Int)+e=te)(jF:te-1=dh)(c0:dh<mn-p-2)(lo half:Nat)(pY:Hid (∀v1 w',aK 100000 w' v1 1->CT 223 #[.agg #[J aP,v1,J (mn-p-2),O true],J (mn-p+1)] w' λx bf=>∃vL,x=Z (X #[vL,J (half:Int)])/\aK 180000 bf vL lo/\Gb w' bf))(xw:half<=3)(r:Nat)(hr:chosen aj aP lo half=r)(FM:aI r)(hL:(nb r:Int)<=60)(z:Int)(wV:Af f aP r z)(hh:0<(half:Int))(lo2 oQ:Nat)(q2 tp:Int)(ZJ:mn-p-2-p=tp)(Vm:tp+1=q2)(TP:Hid (∀v1 w',aK 100000 w' v1 1->CT 223 #[.agg #[J aP,v1,J (mn-p-2),O true],J q2] w' λx bf=>∃vL,x=Z (X #[vL,J (oQ:Int)])/\aK 180000 bf vL lo2/\Gb w' bf))(Iq:oQ<=3)(r2:Nat)(tY:chosen aj aP lo2 oQ=r2)(L6:(nb r2:Int)<=4000000)(LW:(nb r2:Int)+(mn-p-2)-p<mn):
  DT f aj aP v e rest w z 24:=by
 have u1:IntKind.i64.wrap ((nb M:Int)+e)=te:=by rw[ht];rw[dI];omega
 have u2:IntKind.i64.wrap (te-1)=dh:=by rw[jF];rw[dI];omega
 have tb:-1000001<=dh/\dh<=5000001:=om;clear ht jF;have u3:IntKind.i64.wrap (mn-p-2-p)=tp:=by rw[ZJ];rw[dI];omega
 have u4:IntKind.i64.wrap (tp+1)=q2:=by rw[Vm];rw[dI];omega
 have EF:Hid (∀w',CT 132 #[Y 1] w' λx bf=>∃b1 k1 c1,x=Z (aF b1 k1 c1)/\aK 100000 bf (aF b1 k1 c1) 1/\Gb w' bf):=λw'=>(iO 1 om w').mono (λx bf ⟨v',k,a1,a2,a3,a4⟩=>by obtain⟨b,c,rfl,_⟩:=Big.shape a2;exact⟨b,k,c,a1,⟨k,om,a2⟩,a4⟩);clear ZJ Vm;go_enter func138,ntmps138;go_wp2;go_region_held3 (λw'=>KF3 w' w.heap.size 1 2 3 (v) (J e) (O rest)/\aB w' w.heap.size 0 (J aP)/\jX w' (w.heap.size+1) 0 1 (Y 0) (J 0))((go_split_ands;(repeat' apply And.intro)<;>exact kb))(first|(go_at_call 221;refine kw (RC.len HR.out 100000 _ M _ om (aK.gb HB.out kg)) ?_))
 all_goals
  (try go_split_ands)
  go_wp2_with (first|(go_at_call 206;refine kw (RC.max HR.out _) ?_)|(go_at_call 215;refine kw (RC.min HR.out _) ?_)|(go_at_call 116;refine kw (RC.prec HR.out _) ?_)|(go_at_call 117;refine kw (RC.two HR.out _) ?_)|(go_at_call 132;refine(EF _).mono ?_;rintro x wb ⟨b1,k1,c1,rfl,iF,aTX⟩;obtain⟨bx0,bx1,bx2,bx3⟩:pG wb w.heap.size 0 1 2 3 (J aP) (v) (J e) (O rest):=⟨kb,kb,kb,kb⟩;obtain⟨lJ,bz0,br1,bz1⟩:jX wb (w.heap.size+1) 0 1 (Y 0) (J 0):=⟨kb,kb,kb,kb⟩;have bq1:dL wb w.heap.size 1:=kb;have bq2:dL wb w.heap.size 2:=kb;have bq3:dL wb w.heap.size 3:=kb;have aWe:=aA lJ;have Dl:=aK.aN2 iF om bx0)|(go_at_call 223;refine(pY _ _ (by first|(with_reducible assumption)|(exact Dl _ _ _)|(refine aK.gb (Dl _ _ _) kg)|(refine aK.gb (by with_reducible assumption) kg))).mono ?_;rintro x wc ⟨vL,rfl,Vs,EJ⟩;obtain⟨cx0,V7,cx2,cx3⟩:pG wc w.heap.size 0 1 2 3 (J aP) ((.slice (some ⟨b1,0,none⟩) k1 c1)) (J (mn-p-2)) (O true):=⟨kb,kb,kb,kb⟩;obtain⟨yZ,cz0,cr1,cz1⟩:jX wc (w.heap.size+1) 0 1 (Y 0) (J 0):=⟨kb,kb,kb,kb⟩)|(go_at_call 224;refine(RC.choose HR.out _ lo half _ (by first|(with_reducible assumption)|(exact Dl _ _ _)|(refine aK.gb (Dl _ _ _) kg)|(refine aK.gb (by with_reducible assumption) kg)) xw).mono ?_;rintro x wd ⟨vr,rfl,Iu,YD⟩;(try rw[hr]at Iu);obtain⟨dx0,dx1,dx2,dx3⟩:pG wd w.heap.size 0 1 2 3 (J aP) ((.slice (some ⟨b1,0,none⟩) k1 c1)) (J (mn-p-2)) (O true):=⟨kb,kb,kb,kb⟩;obtain⟨AB,dz0,dr1,dz1⟩:jX wd (w.heap.size+1) 0 1 (Y 0) (J 0):=⟨kb,kb,kb,kb⟩)|(go_at_call 221;refine(RC.len HR.out 190000 _ r _ om (by first|(with_reducible assumption)|(exact Dl _ _ _)|(refine aK.gb (Dl _ _ _) kg)|(refine aK.gb (by with_reducible assumption) kg))).mono ?_;rintro x wk ⟨rfl,hw⟩;subst hw)|(go_at_call 225;refine(RC.word HR.out _ r _ (by first|(with_reducible assumption)|(exact Dl _ _ _)|(refine aK.gb (Dl _ _ _) kg)|(refine aK.gb (by with_reducible assumption) kg)) FM).mono ?_;rintro x wk ⟨rfl,hw⟩;subst hw)|(go_at_call 118;refine kw (wV _) ?_)|(go_at_call 222;refine(DU _).mono ?_;rintro x wo ⟨rfl,hgo⟩;obtain⟨ox0,ox1,ox2,ox3⟩:pG wo w.heap.size 0 1 2 3 (J aP) ((.slice (some ⟨b1,0,none⟩) k1 c1)) (J (mn-p-2)) (O true):=⟨kb,kb,kb,kb⟩;obtain⟨JU,oz0,or1,oz1⟩:jX wo (w.heap.size+1) 0 1 (Y 0) (J 0):=⟨kb,kb,kb,kb⟩))
  go_region_held3 (λw'=>pG w' w.heap.size 0 1 2 3 (J aP) ((aF b1 k1 c1)) (J (mn-p-2)) (O true)/\jX w' (w.heap.size+1) 0 1 (Y 0) (J 0))((go_split_ands;(repeat' apply And.intro)<;>exact kb))(first|(go_at_call 116;refine kw (RC.prec HR.out _) ?_)|(go_at_call 223;refine(TP _ _ (by first|(with_reducible assumption)|(exact Dl _ _ _)|(refine aK.gb (Dl _ _ _) kg)|(refine aK.gb (by with_reducible assumption) kg))).mono ?_;rintro x we ⟨vL2,rfl,aUc,hge⟩;obtain⟨aUr,aUq,aUp,aUo⟩:pG we w.heap.size 0 1 2 3 (J aP) ((.slice (some ⟨b1,0,none⟩) k1 c1)) (J (mn-p-2)) (O true):=⟨kb,kb,kb,kb⟩;obtain⟨aUt,aUn,aUs,aUm⟩:jX we (w.heap.size+1) 0 1 (Y 0) (J 0):=⟨kb,kb,kb,kb⟩))
  all_goals
   (try go_split_ands)
   go_wp2_with (first|(go_at_call 206;refine kw (RC.max HR.out _) ?_)|(go_at_call 215;refine kw (RC.min HR.out _) ?_)|(go_at_call 116;refine kw (RC.prec HR.out _) ?_)|(go_at_call 117;refine kw (RC.two HR.out _) ?_)|(go_at_call 132;refine(EF _).mono ?_;rintro x wb ⟨b1,k1,c1,rfl,iF,aTX⟩;obtain⟨bx0,bx1,bx2,bx3⟩:pG wb w.heap.size 0 1 2 3 (J aP) (v) (J e) (O rest):=⟨kb,kb,kb,kb⟩;obtain⟨lJ,bz0,br1,bz1⟩:jX wb (w.heap.size+1) 0 1 (Y 0) (J 0):=⟨kb,kb,kb,kb⟩)|(go_at_call 224;refine(RC.choose HR.out _ lo2 oQ _ (by first|(with_reducible assumption)|(exact Dl _ _ _)|(refine aK.gb (Dl _ _ _) kg)|(refine aK.gb (by with_reducible assumption) kg)) Iq).mono ?_;rintro x wf ⟨vr2,rfl,aO6,hgf⟩;(try rw[tY]at aO6);obtain⟨fx0,fx1,fx2,fx3⟩:pG wf w.heap.size 0 1 2 3 (J aP) ((.slice (some ⟨b1,0,none⟩) k1 c1)) (J (mn-p-2)) (O true):=⟨kb,kb,kb,kb⟩;obtain⟨fr0,fz0,fr1,fz1⟩:jX wf (w.heap.size+1) 0 1 (Y 0) (J 0):=⟨kb,kb,kb,kb⟩)|(go_at_call 221;refine(RC.len HR.out 190000 _ r2 _ om (by first|(with_reducible assumption)|(exact Dl _ _ _)|(refine aK.gb (Dl _ _ _) kg)|(refine aK.gb (by with_reducible assumption) kg))).mono ?_;rintro x wk ⟨rfl,hw⟩;subst hw)|(go_at_call 225;refine(RC.word HR.out _ r _ (by first|(with_reducible assumption)|(exact Dl _ _ _)|(refine aK.gb (Dl _ _ _) kg)|(refine aK.gb (by with_reducible assumption) kg)) FM).mono ?_;rintro x wk ⟨rfl,hw⟩;subst hw)|(go_at_call 118;refine kw (wV _) ?_)|(go_at_call 222;refine(DU _).mono ?_;rintro x wo ⟨rfl,hgo⟩;obtain⟨ox0,ox1,ox2,ox3⟩:pG wo w.heap.size 0 1 2 3 (J aP) ((.slice (some ⟨b1,0,none⟩) k1 c1)) (J (mn-p-2)) (O true):=⟨kb,kb,kb,kb⟩;obtain⟨JU,oz0,or1,oz1⟩:jX wo (w.heap.size+1) 0 1 (Y 0) (J 0):=⟨kb,kb,kb,kb⟩))
   exact dX (by simp[results,results138,go_sem,fr0,fr1])
def Wo(a:Int):Prop:=0<=a/\a<18446744073709551616
abbrev yu:Int:=4602678819172646912
abbrev c32:Int:=4751297606875873280
abbrev c63:Int:=4890909195324358656
structure O7 where
 int:Int->Int
 sub:Int->Int->Int
 mul:Int->Int->Int
 lN:Int->Int
 fix:Int->Int
 whole:Int->Int
structure O7.In (o:O7):Prop where
 int:∀n,Wo (o.int n)
 sub:∀{a b},Wo a->Wo b->Wo (o.sub a b)
 aQh:∀{a b},Wo a->Wo b->9223372036854775808<=o.sub a b->o.sub a b%9223372036854775808<=9218868437227405312
 mul:∀{a b},Wo a->Wo b->Wo (o.mul a b)
 lN:∀{a},Wo a->Wo (o.lN a)
 fix:∀{a},Wo a->Wo (o.fix a)
 whole:∀{a},Wo a->Wo (o.whole a)
def Ai(a b:Int):Int:=if a.tmod 9223372036854775808=0/\b.tmod 9223372036854775808=0 then 0 else if decide (9223372036854775808<=a)≠decide (9223372036854775808<=b)then(if 9223372036854775808<=a then-1 else 1)else if a.tmod 9223372036854775808=b.tmod 9223372036854775808 then 0 else if decide (a.tmod 9223372036854775808<b.tmod 9223372036854775808)=decide (a<9223372036854775808)then-1 else 1
def Unp(a c s:Int):Prop:=(s=0\/s=1)/\(1<c↔9218868437227405312<=a%9223372036854775808)/\(c=0↔a%9223372036854775808=0)/\(s=1->9223372036854775808<=a)
structure O7.S (o:O7):Prop where
 word:Hid (∀n,-9223372036854775808<=n->n<=9223372036854775807->∀w,QB 111 #[J n] w (Y (o.int n)))
 minus:Hid (∀a b,Wo a->Wo b->∀w,QB 127 #[Y a,Y b] w (Y (o.sub a b)))
 times:Hid (∀a b,Wo a->Wo b->∀w,QB 112 #[Y a,Y b] w (Y (o.mul a b)))
 half:KB 113 #[] (Y yu)
 aIv:Hid (∀w,CT 60 #[J 1,J 0,J 3,Y 4294967296] w λe w'=>∃fl:Int,e=Z (aU c32 fl)/\Gb w w')
 aIu:Hid (∀w,CT 60 #[J 1,J 0,J 3,Y 9223372036854775808] w λe w'=>∃fl:Int,e=Z (aU c63 fl)/\Gb w w')
 unp:∀{a},Wo a->∃c s x g:Int,Unp a c s/\bW 1 a c s x g
 order:Hid (∀a b,Wo a->Wo b->∀w,QW 159 #[J 1,Y a,Y b] w (J (Ai a b)))
 lN:Hid (∀a,Wo a->∀w,CT 71 #[J 1,J 4,Y a,O false] w λe w'=>∃fl:Int,e=Z (aU (o.lN a) fl)/\Gb w w')
 fix:Hid (∀a,Wo a->∀w,CT 69 #[J 1,J 2,J 3,Y a] w λe w'=>∃fl:Int,e=Z (aU (o.fix a) fl)/\Gb w w')
 whole:Hid (∀a,Wo a->∀w,CT 69 #[J 1,J 0,J 1,Y a] w λe w'=>∃fl:Int,e=Z (aU (o.whole a) fl)/\Gb w w')
 k1:o.mul (o.int (-2199023255552)) yu=14010698440749613056
 k2:o.mul (o.int 2199023255552) yu=4787326403894837248
 k3:o.mul (o.int 1) yu=yu
 k4:o.mul (o.int 2) yu=4607182418800017408
 k5:o.mul (o.int 0) yu=0
 k6:o.mul yu yu=4598175219545276416
 k7:o.mul 4598175219545276416 yu=4593671619917905920
 neg:∀{x},Wo x->9223372036854775808<=x->x%9223372036854775808<=9218868437227405312->o.fix (o.mul x c32)=0
structure O7.I (o:O7):Prop where
 word:Hid (∀n,-9223372036854775808<=n->n<=9223372036854775807->∀w,Fm w->QR 276 #[J n] w (Y (o.int n)))
 minus:Hid (∀a b,Wo a->Wo b->∀w,Fm w->QR 200 #[Y a,Y b] w (Y (o.sub a b)))
 times:Hid (∀a b,Wo a->Wo b->∀w,Fm w->QR 201 #[Y a,Y b] w (Y (o.mul a b)))
 fix:Hid (∀a,Wo a->∀w,Fm w->QR 202 #[Y a] w (Y (o.fix a)))
 lN:Hid (∀a,Wo a->∀w,Fm w->CT 96 #[J 1,J 4,Y a,O false] w λe w'=>∃fl:Int,e=Z (aU (o.lN a) fl)/\Gr w w')
 whole:Hid (∀a,Wo a->a%9223372036854775808<=4787326403894837248->∀w,Fm w->CT 94 #[J 1,J 2,J 1,Y (o.lN a)] w λe w'=>∃fl:Int,e=Z (aU (o.whole (o.lN a)) fl)/\Gr w w')
def isC(mu inv scale:Int):Bool:=decide (mu%9223372036854775808<=4787326403894837248)&&(decide (yu<=inv)&&decide (inv<=4607182418800017408))&&(decide (0<scale)&&decide (scale<=4607182418800017408))
namespace O7
variable (o:O7)
def above(mu:Int):Int:=o.sub mu (o.lN mu)
def narrow(inv:Int):Int:=o.mul (o.mul inv inv) yu
def shr(scale:Int):Int:=o.fix (o.mul scale c63)
def Mc(z:Int)(n:Nat)(r h:Int):Int:=o.sub (o.mul (o.mul (o.sub (o.int z) r) (o.sub (o.int z) r)) h) (o.mul (o.int ((n:Int)*n)) 4593671619917905920)
def leaves(z:Int)(n:Nat)(r h e:Int):Int:=share (oI (o.fix (o.mul (o.Mc z n r h) c32))) e
def acc(z:Int)(n:Nat)(r h e v:Int):Bool:=decide (v/2<o.leaves z n r h e)
end O7
def Wi(n:Nat)(c:Int):Int:=if c%2=1 then(n:Int)+1 else-(n:Int)
def ZQ(n:Nat)(c:Int)(hn:n<=18):-18<=Wi n c/\Wi n c<=19:=by unfold Wi;split<;>omega
def Wo.c(x:Int)(h0:0<=x:=by first|decide)(h1:aI x:=by first|decide):Wo x:=⟨h0,h1⟩
