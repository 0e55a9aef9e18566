import Derived.Test.YthoelefkjpjhfaaGreatDoorG3
set_option linter.all false
set_option maxRecDepth 1000000
set_option maxHeartbeats 40000000
open Go.Proofs.YthoelefkjpjhfaaGreatDoor renaming vI → J, vU → Y
open Go.Ending renaming returned → Z
open Go.Value renaming bool → O, tuple → X
open Go.Proofs.Tryz
namespace Go.Proofs.YthoelefkjpjhfaaGreatDoor
open Go.RowKit
def aLv{P:Prop}(h:P:=by
 have u1:IntKind.i64.wrap ((nb M:Int)+e)=te:=by rw[ht];rw[IntKind.wrap_i64];omega
 have u2:IntKind.i64.wrap (te-1)=b_:=by rw[iT];rw[IntKind.wrap_i64];omega
 have tb:-1000001<=b_/\b_<=5000001:=om;clear ht iT;go_enter func138,ntmps138;go_wp2;go_region_held3 (λw'=>aA w' w.heap.size 0 (J aJ)/\aA w' w.heap.size 1 (v)/\aA w' w.heap.size 2 (J e)/\aA w' w.heap.size 3 (O rest)/\aA w' (w.heap.size+1) 0 (Y 0)/\dB w' (w.heap.size+1) 0/\aA w' (w.heap.size+1) 1 (J 0)/\dB w' (w.heap.size+1) 1)((go_split_ands;(repeat' apply And.intro)<;>exact kb))(first|(go_at_call 221;refine kw (RC.len HR.out 100000 _ M _ om (aH.gb HB.out kg)) ?_))
 all_goals
  (try go_split_ands)
  go_wp2_with (first|(go_at_call 206;refine kw (RC.max HR.out _) ?_)|(go_at_call 215;refine kw (RC.min HR.out _) ?_)|(go_at_call 116;refine kw (RC.prec HR.out _) ?_)|(go_at_call 117;refine kw (RC.two HR.out _) ?_)|(go_at_call 223;refine(nU _ kg).mono ?_;rintro x wc ⟨vL,rfl,Tq,Nw⟩;obtain⟨cx0,Uh,cx2,cx3⟩:oV wc w.heap.size 0 1 2 3 (J aJ) (v) (J e) (O rest):=⟨ks,ks,ks,ks⟩;obtain⟨wI,cz0,cr1,cz1⟩:jC wc (w.heap.size+1) 0 1 (Y 0) (J 0):=⟨ks,ks,ks,ks⟩)|(go_at_call 224;refine(RC.choose HR.out _ lo half _ (by first|(with_reducible assumption)|(refine aH.gb (by with_reducible assumption) kg)) uH).mono ?_;rintro x wd ⟨vr,rfl,FP,Z8⟩;(try rw[hr]at FP);obtain⟨dx0,dx1,dx2,dx3⟩:oV wd w.heap.size 0 1 2 3 (J aJ) (v) (J e) (O rest):=⟨ks,ks,ks,ks⟩;obtain⟨yJ,dz0,dr1,dz1⟩:jC wd (w.heap.size+1) 0 1 (Y 0) (J 0):=⟨ks,ks,ks,ks⟩)|(go_at_call 221;refine(RC.len HR.out 190000 _ r _ om (by first|(with_reducible assumption)|(refine aH.gb (by with_reducible assumption) kg))).mono ?_;rintro x wk ⟨rfl,hw⟩;subst hw)|(go_at_call 225;refine(RC.word HR.out _ r _ (by first|(with_reducible assumption)|(refine aH.gb (by with_reducible assumption) kg)) D5).mono ?_;rintro x wk ⟨rfl,hw⟩;subst hw)|(go_at_call 118;refine kw (uq _) ?_)|(go_at_call 222;refine(BG _).mono ?_;rintro x wo ⟨rfl,hgo⟩;obtain⟨ox0,ox1,ox2,ox3⟩:oV wo w.heap.size 0 1 2 3 (J aJ) (v) (J e) (O rest):=⟨ks,ks,ks,ks⟩;obtain⟨Iu,oz0,or1,oz1⟩:jC wo (w.heap.size+1) 0 1 (Y 0) (J 0):=⟨ks,ks,ks,ks⟩))
  exact dI (by simp[results,Tryz.results138,go_sem,Iu,or1])):P:=h
def aEJ{P:Prop}(h:P:=by
 have u1:IntKind.i64.wrap ((nb M:Int)+e)=te:=by rw[ht];rw[IntKind.wrap_i64];omega
 have u2:IntKind.i64.wrap (te-1)=b_:=by rw[iT];rw[IntKind.wrap_i64];omega
 have tb:-1000001<=b_/\b_<=5000001:=om;clear ht iT;go_enter func138,ntmps138;go_wp2;go_region_held3 (λw'=>aA w' w.heap.size 0 (J aJ)/\aA w' w.heap.size 1 (v)/\aA w' w.heap.size 2 (J e)/\aA w' w.heap.size 3 (O rest)/\aA w' (w.heap.size+1) 0 (Y 0)/\dB w' (w.heap.size+1) 0/\aA w' (w.heap.size+1) 1 (J 0)/\dB w' (w.heap.size+1) 1)((go_split_ands;(repeat' apply And.intro)<;>exact kb))(first|(go_at_call 221;refine kw (RC.len HR.out 100000 _ M _ om (aH.gb HB.out kg)) ?_))
 all_goals
  (try go_split_ands)
  go_wp2_with (first|(go_at_call 206;refine kw (RC.max HR.out _) ?_)|(go_at_call 215;refine kw (RC.min HR.out _) ?_)|(go_at_call 116;refine kw (RC.prec HR.out _) ?_)|(go_at_call 117;refine kw (RC.two HR.out _) ?_)|(go_at_call 223;refine(nU _ kg).mono ?_;rintro x wc ⟨vL,rfl,Tq,Nw⟩;obtain⟨cx0,Uh,cx2,cx3⟩:oV wc w.heap.size 0 1 2 3 (J aJ) (v) (J e) (O rest):=⟨ks,ks,ks,ks⟩;obtain⟨wI,cz0,cr1,cz1⟩:jC wc (w.heap.size+1) 0 1 (Y 0) (J 0):=⟨ks,ks,ks,ks⟩)|(go_at_call 224;refine(RC.choose HR.out _ lo half _ (by first|(with_reducible assumption)|(refine aH.gb (by with_reducible assumption) kg)) uH).mono ?_;rintro x wd ⟨vr,rfl,FP,Z8⟩;(try rw[hr]at FP);obtain⟨dx0,dx1,dx2,dx3⟩:oV wd w.heap.size 0 1 2 3 (J aJ) (v) (J e) (O rest):=⟨ks,ks,ks,ks⟩;obtain⟨yJ,dz0,dr1,dz1⟩:jC wd (w.heap.size+1) 0 1 (Y 0) (J 0):=⟨ks,ks,ks,ks⟩)|(go_at_call 221;refine(RC.len HR.out 190000 _ r _ om (by first|(with_reducible assumption)|(refine aH.gb (by with_reducible assumption) kg))).mono ?_;rintro x wk ⟨rfl,hw⟩;subst hw)|(go_at_call 225;refine(RC.word HR.out _ r _ (by first|(with_reducible assumption)|(refine aH.gb (by with_reducible assumption) kg)) D5).mono ?_;rintro x wk ⟨rfl,hw⟩;subst hw)|(go_at_call 118;refine kw (uq _) ?_)|(go_at_call 222;refine(BG _).mono ?_;rintro x wo ⟨rfl,hgo⟩;obtain⟨ox0,ox1,ox2,ox3⟩:oV wo w.heap.size 0 1 2 3 (J aJ) (v) (J e) (O rest):=⟨ks,ks,ks,ks⟩;obtain⟨Iu,oz0,or1,oz1⟩:jC wo (w.heap.size+1) 0 1 (Y 0) (J 0):=⟨ks,ks,ks,ks⟩))
  exact dI (by simp[results,Tryz.results138,go_sem,yJ,dr1])):P:=h
attribute [local go_sem] aA dB
def aDk{v:Value}{M:Nat}{w:World}{f p mn mx one aj aJ e:Int}{rest:Bool}(HB:Hid (aH 100000 w v M))(HR:Hid (RC f p mn mx one aj aJ w))(b1:24<=p)(b2:p<=53)(b3:-1022<=mn)(b4:mn<=-126)(b5:127<=mx)(b6:mx<=1023)(b7:0<=one)(b8:one<=4503599627370496)(n1:(nb M:Int)<=4000000)(e0:-1000000<=e)(e1:e<=1000000)(te b_:Int)(ht:(nb M:Int)+e=te)(iT:te-1=b_)(z:Int)(BG:KR 222 #[J f,J aj,J aJ] (aP z 20))(c:mx<b_):
  BF f aj aJ v e rest w z 20:=by
 exact aLv
def ZE{v:Value}{M:Nat}{w:World}{f p mn mx one aj aJ e:Int}{rest:Bool}(HB:Hid (aH 100000 w v M))(HR:Hid (RC f p mn mx one aj aJ w))(b1:24<=p)(b2:p<=53)(b3:-1022<=mn)(b4:mn<=-126)(b5:127<=mx)(b6:mx<=1023)(b7:0<=one)(b8:one<=4503599627370496)(n1:(nb M:Int)<=4000000)(e0:-1000000<=e)(e1:e<=1000000)(te b_:Int)(ht:(nb M:Int)+e=te)(iT:te-1=b_)(c0:mn-p-2<=b_)(c1:b_<mn)(lo half:Nat)(nU:Hid (∀w',Gb w w'->CT 223 #[.agg #[J aJ,v,J e,O rest],J (mn-p+1)] w' λx aT=>∃vL,x=Z (X #[vL,J (half:Int)])/\aH 180000 aT vL lo/\Gb w' aT))(uH:half<=3)(r:Nat)(hr:chosen aj aJ lo half=r)(D5:aG r)(z:Int)(uq:yA f aJ r z)(hL:(nb r:Int)<=60)(hh:(half:Int)<=0):
  BF f aj aJ v e rest w z 0:=by
 exact aEJ
def Zy{v:Value}{M:Nat}{w:World}{f p mn mx one aj aJ e:Int}{rest:Bool}(HB:Hid (aH 100000 w v M))(HR:Hid (RC f p mn mx one aj aJ w))(b1:24<=p)(b2:p<=53)(b3:-1022<=mn)(b4:mn<=-126)(b5:127<=mx)(b6:mx<=1023)(b7:0<=one)(b8:one<=4503599627370496)(n1:(nb M:Int)<=4000000)(e0:-1000000<=e)(e1:e<=1000000)(te b_:Int)(ht:(nb M:Int)+e=te)(iT:te-1=b_)(c0:mn<=b_)(c1:b_<=mx)(lo half:Nat)(nU:Hid (∀w',Gb w w'->CT 223 #[.agg #[J aJ,v,J e,O rest],J (b_-p+1)] w' λx aT=>∃vL,x=Z (X #[vL,J (half:Int)])/\aH 180000 aT vL lo/\Gb w' aT))(uH:half<=3)(r:Nat)(hr:chosen aj aJ lo half=r)(D5:aG r)(hL:(nb r:Int)<=60)(z:Int)(BG:KR 222 #[J f,J aj,J aJ] (aP z 20))(hov:mx<(nb r:Int)+(b_-p+1)-1):
  BF f aj aJ v e rest w z 20:=by
 exact aLv
def WB{v:Value}{M:Nat}{w:World}{f p mn mx one aj aJ e:Int}{rest:Bool}(HB:Hid (aH 100000 w v M))(HR:Hid (RC f p mn mx one aj aJ w))(b1:24<=p)(b2:p<=53)(b3:-1022<=mn)(b4:mn<=-126)(b5:127<=mx)(b6:mx<=1023)(b7:0<=one)(b8:one<=4503599627370496)(n1:(nb M:Int)<=4000000)(e0:-1000000<=e)(e1:e<=1000000)(te b_:Int)(ht:(nb M:Int)+e=te)(iT:te-1=b_)(c0:mn<=b_)(c2:b_<=mn)(c1:b_<=mx)(lo half:Nat)(nU:Hid (∀w',Gb w w'->CT 223 #[.agg #[J aJ,v,J e,O rest],J (b_-p+1)] w' λx aT=>∃vL,x=Z (X #[vL,J (half:Int)])/\aH 180000 aT vL lo/\Gb w' aT))(uH:half<=3)(r:Nat)(hr:chosen aj aJ lo half=r)(D5:aG r)(hL:(nb r:Int)<=60)(z:Int)(uq:yA f aJ r z)(hov:(nb r:Int)+(b_-p+1)-1<=mx)(hh:(half:Int)<=0):
  BF f aj aJ v e rest w z 0:=by
 exact aEJ
def ZA{v:Value}{M:Nat}{w:World}{f p mn mx one aj aJ e:Int}{rest:Bool}(HB:Hid (aH 100000 w v M))(HR:Hid (RC f p mn mx one aj aJ w))(b1:24<=p)(b2:p<=53)(b3:-1022<=mn)(b4:mn<=-126)(b5:127<=mx)(b6:mx<=1023)(b7:0<=one)(b8:one<=4503599627370496)(n1:(nb M:Int)<=4000000)(e0:-1000000<=e)(e1:e<=1000000)(te b_:Int)(ht:(nb M:Int)+e=te)(iT:te-1=b_)(c2:mn<b_)(c1:b_<=mx)(lo half:Nat)(nU:Hid (∀w',Gb w w'->CT 223 #[.agg #[J aJ,v,J e,O rest],J (b_-p+1)] w' λx aT=>∃vL,x=Z (X #[vL,J (half:Int)])/\aH 180000 aT vL lo/\Gb w' aT))(uH:half<=3)(r:Nat)(hr:chosen aj aJ lo half=r)(D5:aG r)(hL:(nb r:Int)<=60)(z:Int)(y:Int)(hy:IntKind.u64.wrap (one*(b_-p+1-(mn-p+1)))=y)(y0:0<=y)(hry:(r:Int)+y<18446744073709551616)(uq:yA f aJ ((r:Int)+y) z)(hov:(nb r:Int)+(b_-p+1)-1<=mx)(hh:(half:Int)<=0):
  BF f aj aJ v e rest w z 0:=by
 exact aEJ
set_option maxRecDepth 1000000
def aLt{P:Prop}(h:P:=by
 have u1:IntKind.i64.wrap ((nb M:Int)+e)=te:=by rw[ht];rw[IntKind.wrap_i64];omega
 have u2:IntKind.i64.wrap (te-1)=b_:=by rw[iT];rw[IntKind.wrap_i64];omega
 have tb:-1000001<=b_/\b_<=5000001:=om;clear ht iT;have u3:IntKind.i64.wrap (b_-p)=tp:=by rw[X7];rw[IntKind.wrap_i64];omega
 have u4:IntKind.i64.wrap (tp+1)=q2:=by rw[Td];rw[IntKind.wrap_i64];omega
 exact aLw):P:=h
def aLu{P:Prop}(h:P:=by
 have u1:IntKind.i64.wrap ((nb M:Int)+e)=te:=by rw[ht];rw[IntKind.wrap_i64];omega
 have u2:IntKind.i64.wrap (te-1)=b_:=by rw[iT];rw[IntKind.wrap_i64];omega
 have tb:-1000001<=b_/\b_<=5000001:=om;clear ht iT;have u3:IntKind.i64.wrap (b_-p)=tp:=by rw[X7];rw[IntKind.wrap_i64];omega
 have u4:IntKind.i64.wrap (tp+1)=q2:=by rw[Td];rw[IntKind.wrap_i64];omega
 have qb:-1000060<=q2/\q2<=5000060:=om;exact aLw):P:=h
def aLw{P:Prop}(h:P:=by
 clear X7 Td;go_enter func138,ntmps138;go_wp2;go_region_held3 (λw'=>aA w' w.heap.size 0 (J aJ)/\aA w' w.heap.size 1 (v)/\aA w' w.heap.size 2 (J e)/\aA w' w.heap.size 3 (O rest)/\aA w' (w.heap.size+1) 0 (Y 0)/\dB w' (w.heap.size+1) 0/\aA w' (w.heap.size+1) 1 (J 0)/\dB w' (w.heap.size+1) 1)((go_split_ands;(repeat' apply And.intro)<;>exact kb))(first|(go_at_call 221;refine kw (RC.len HR.out 100000 _ M _ om (aH.gb HB.out kg)) ?_))
 all_goals
  (try go_split_ands)
  go_wp2_with (first|(go_at_call 206;refine kw (RC.max HR.out _) ?_)|(go_at_call 215;refine kw (RC.min HR.out _) ?_)|(go_at_call 116;refine kw (RC.prec HR.out _) ?_)|(go_at_call 117;refine kw (RC.two HR.out _) ?_)|(go_at_call 223;refine(nU _ kg).mono ?_;rintro x wc ⟨vL,rfl,Tq,Nw⟩;obtain⟨cx0,Uh,cx2,cx3⟩:oV wc w.heap.size 0 1 2 3 (J aJ) (v) (J e) (O rest):=⟨ks,ks,ks,ks⟩;obtain⟨wI,cz0,cr1,cz1⟩:jC wc (w.heap.size+1) 0 1 (Y 0) (J 0):=⟨ks,ks,ks,ks⟩)|(go_at_call 224;refine(RC.choose HR.out _ lo half _ (by first|(with_reducible assumption)|(refine aH.gb (by with_reducible assumption) kg)) uH).mono ?_;rintro x wd ⟨vr,rfl,FP,Z8⟩;(try rw[hr]at FP);obtain⟨dx0,dx1,dx2,dx3⟩:oV wd w.heap.size 0 1 2 3 (J aJ) (v) (J e) (O rest):=⟨ks,ks,ks,ks⟩;obtain⟨yJ,dz0,dr1,dz1⟩:jC wd (w.heap.size+1) 0 1 (Y 0) (J 0):=⟨ks,ks,ks,ks⟩)|(go_at_call 221;refine(RC.len HR.out 190000 _ r _ om (by first|(with_reducible assumption)|(refine aH.gb (by with_reducible assumption) kg))).mono ?_;rintro x wk ⟨rfl,hw⟩;subst hw)|(go_at_call 225;refine(RC.word HR.out _ r _ (by first|(with_reducible assumption)|(refine aH.gb (by with_reducible assumption) kg)) D5).mono ?_;rintro x wk ⟨rfl,hw⟩;subst hw)|(go_at_call 118;refine kw (uq _) ?_)|(go_at_call 222;refine(BG _).mono ?_;rintro x wo ⟨rfl,hgo⟩;obtain⟨ox0,ox1,ox2,ox3⟩:oV wo w.heap.size 0 1 2 3 (J aJ) (v) (J e) (O rest):=⟨ks,ks,ks,ks⟩;obtain⟨Iu,oz0,or1,oz1⟩:jC wo (w.heap.size+1) 0 1 (Y 0) (J 0):=⟨ks,ks,ks,ks⟩))
  go_region_held3 (λw'=>aA w' w.heap.size 0 (J aJ)/\aA w' w.heap.size 1 (v)/\aA w' w.heap.size 2 (J e)/\aA w' w.heap.size 3 (O rest)/\aA w' (w.heap.size+1) 0 (Y 0)/\dB w' (w.heap.size+1) 0/\aA w' (w.heap.size+1) 1 (J 0)/\dB w' (w.heap.size+1) 1)((go_split_ands;(repeat' apply And.intro)<;>exact kb))(first|(go_at_call 116;refine kw (RC.prec HR.out _) ?_)|(go_at_call 223;refine(QO _ kg).mono ?_;rintro x we ⟨vL2,rfl,aSz,hge⟩;obtain⟨aSS,aSR,aSQ,aSP⟩:oV we w.heap.size 0 1 2 3 (J aJ) (v) (J e) (O rest):=⟨ks,ks,ks,ks⟩;obtain⟨aSU,aSO,aST,aSN⟩:jC we (w.heap.size+1) 0 1 (Y 0) (J 0):=⟨ks,ks,ks,ks⟩))
  all_goals
   (try go_split_ands)
   go_wp2_with (first|(go_at_call 206;refine kw (RC.max HR.out _) ?_)|(go_at_call 215;refine kw (RC.min HR.out _) ?_)|(go_at_call 116;refine kw (RC.prec HR.out _) ?_)|(go_at_call 117;refine kw (RC.two HR.out _) ?_)|(go_at_call 224;refine(RC.choose HR.out _ lo2 m_ _ (by first|(with_reducible assumption)|(refine aH.gb (by with_reducible assumption) kg)) FM).mono ?_;rintro x wf ⟨vr2,rfl,aNs,hgf⟩;(try rw[qU]at aNs);obtain⟨fx0,fx1,fx2,fx3⟩:oV wf w.heap.size 0 1 2 3 (J aJ) (v) (J e) (O rest):=⟨ks,ks,ks,ks⟩;obtain⟨fr0,fz0,fr1,fz1⟩:jC wf (w.heap.size+1) 0 1 (Y 0) (J 0):=⟨ks,ks,ks,ks⟩)|(go_at_call 221;refine(RC.len HR.out 190000 _ r2 _ om (by first|(with_reducible assumption)|(refine aH.gb (by with_reducible assumption) kg))).mono ?_;rintro x wk ⟨rfl,hw⟩;subst hw)|(go_at_call 225;refine(RC.word HR.out _ r _ (by first|(with_reducible assumption)|(refine aH.gb (by with_reducible assumption) kg)) D5).mono ?_;rintro x wk ⟨rfl,hw⟩;subst hw)|(go_at_call 118;refine kw (uq _) ?_)|(go_at_call 222;refine(BG _).mono ?_;rintro x wo ⟨rfl,hgo⟩;obtain⟨ox0,ox1,ox2,ox3⟩:oV wo w.heap.size 0 1 2 3 (J aJ) (v) (J e) (O rest):=⟨ks,ks,ks,ks⟩;obtain⟨Iu,oz0,or1,oz1⟩:jC wo (w.heap.size+1) 0 1 (Y 0) (J 0):=⟨ks,ks,ks,ks⟩))
   exact dI (by simp[results,Tryz.results138,go_sem,fr0,fr1])):P:=h
def ZC{v:Value}{M:Nat}{w:World}{f p mn mx one aj aJ e:Int}{rest:Bool}(HB:Hid (aH 100000 w v M))(HR:Hid (RC f p mn mx one aj aJ w))(b1:24<=p)(b2:p<=53)(b3:-1022<=mn)(b4:mn<=-126)(b5:127<=mx)(b6:mx<=1023)(b7:0<=one)(b8:one<=4503599627370496)(n1:(nb M:Int)<=4000000)(e0:-1000000<=e)(e1:e<=1000000)(te b_:Int)(ht:(nb M:Int)+e=te)(iT:te-1=b_)(c0:mn-p-2<=b_)(c1:b_<mn)(lo half:Nat)(nU:Hid (∀w',Gb w w'->CT 223 #[.agg #[J aJ,v,J e,O rest],J (mn-p+1)] w' λx aT=>∃vL,x=Z (X #[vL,J (half:Int)])/\aH 180000 aT vL lo/\Gb w' aT))(uH:half<=3)(r:Nat)(hr:chosen aj aJ lo half=r)(D5:aG r)(z:Int)(uq:yA f aJ r z)(hL:(nb r:Int)<=60)(hh:0<(half:Int))(lo2 m_:Nat)(q2 tp:Int)(X7:b_-p=tp)(Td:tp+1=q2)(QO:Hid (∀w',Gb w w'->CT 223 #[.agg #[J aJ,v,J e,O rest],J q2] w' λx aT=>∃vL,x=Z (X #[vL,J (m_:Int)])/\aH 180000 aT vL lo2/\Gb w' aT))(FM:m_<=3)(r2:Nat)(qU:chosen aj aJ lo2 m_=r2)(JK:(nb r2:Int)<=4000000)(JG:(nb r2:Int)+b_-p<mn):
  BF f aj aJ v e rest w z 24:=by
 exact aLt
def ZB{v:Value}{M:Nat}{w:World}{f p mn mx one aj aJ e:Int}{rest:Bool}(HB:Hid (aH 100000 w v M))(HR:Hid (RC f p mn mx one aj aJ w))(b1:24<=p)(b2:p<=53)(b3:-1022<=mn)(b4:mn<=-126)(b5:127<=mx)(b6:mx<=1023)(b7:0<=one)(b8:one<=4503599627370496)(n1:(nb M:Int)<=4000000)(e0:-1000000<=e)(e1:e<=1000000)(te b_:Int)(ht:(nb M:Int)+e=te)(iT:te-1=b_)(c0:mn-p-2<=b_)(c1:b_<mn)(lo half:Nat)(nU:Hid (∀w',Gb w w'->CT 223 #[.agg #[J aJ,v,J e,O rest],J (mn-p+1)] w' λx aT=>∃vL,x=Z (X #[vL,J (half:Int)])/\aH 180000 aT vL lo/\Gb w' aT))(uH:half<=3)(r:Nat)(hr:chosen aj aJ lo half=r)(D5:aG r)(z:Int)(uq:yA f aJ r z)(hL:(nb r:Int)<=60)(hh:0<(half:Int))(lo2 m_:Nat)(q2 tp:Int)(X7:b_-p=tp)(Td:tp+1=q2)(QO:Hid (∀w',Gb w w'->CT 223 #[.agg #[J aJ,v,J e,O rest],J q2] w' λx aT=>∃vL,x=Z (X #[vL,J (m_:Int)])/\aH 180000 aT vL lo2/\Gb w' aT))(FM:m_<=3)(r2:Nat)(qU:chosen aj aJ lo2 m_=r2)(JK:(nb r2:Int)<=4000000)(JG:mn<=(nb r2:Int)+b_-p):
  BF f aj aJ v e rest w z 16:=by
 exact aLt
def WA{v:Value}{M:Nat}{w:World}{f p mn mx one aj aJ e:Int}{rest:Bool}(HB:Hid (aH 100000 w v M))(HR:Hid (RC f p mn mx one aj aJ w))(b1:24<=p)(b2:p<=53)(b3:-1022<=mn)(b4:mn<=-126)(b5:127<=mx)(b6:mx<=1023)(b7:0<=one)(b8:one<=4503599627370496)(n1:(nb M:Int)<=4000000)(e0:-1000000<=e)(e1:e<=1000000)(te b_:Int)(ht:(nb M:Int)+e=te)(iT:te-1=b_)(q2 tp:Int)(X7:b_-p=tp)(Td:tp+1=q2)(c0:mn<=b_)(c2:q2<=mn-p+1)(c1:b_<=mx)(lo half:Nat)(nU:Hid (∀w',Gb w w'->CT 223 #[.agg #[J aJ,v,J e,O rest],J q2] w' λx aT=>∃vL,x=Z (X #[vL,J (half:Int)])/\aH 180000 aT vL lo/\Gb w' aT))(uH:half<=3)(r:Nat)(hr:chosen aj aJ lo half=r)(D5:aG r)(hL:(nb r:Int)<=60)(z:Int)(uq:yA f aJ r z)(hov:(nb r:Int)+q2-1<=mx)(hh:0<(half:Int))(lo2 m_:Nat)(QO:Hid (∀w',Gb w w'->CT 223 #[.agg #[J aJ,v,J e,O rest],J q2] w' λx aT=>∃vL,x=Z (X #[vL,J (m_:Int)])/\aH 180000 aT vL lo2/\Gb w' aT))(FM:m_<=3)(r2:Nat)(qU:chosen aj aJ lo2 m_=r2)(JK:(nb r2:Int)<=4000000)(JG:mn<=(nb r2:Int)+b_-p):
  BF f aj aJ v e rest w z 16:=by
 exact aLu
def Zz{v:Value}{M:Nat}{w:World}{f p mn mx one aj aJ e:Int}{rest:Bool}(HB:Hid (aH 100000 w v M))(HR:Hid (RC f p mn mx one aj aJ w))(b1:24<=p)(b2:p<=53)(b3:-1022<=mn)(b4:mn<=-126)(b5:127<=mx)(b6:mx<=1023)(b7:0<=one)(b8:one<=4503599627370496)(n1:(nb M:Int)<=4000000)(e0:-1000000<=e)(e1:e<=1000000)(te b_:Int)(ht:(nb M:Int)+e=te)(iT:te-1=b_)(q2 tp:Int)(X7:b_-p=tp)(Td:tp+1=q2)(c2:mn<b_)(c3:mn-p+1<q2)(c1:b_<=mx)(lo half:Nat)(nU:Hid (∀w',Gb w w'->CT 223 #[.agg #[J aJ,v,J e,O rest],J q2] w' λx aT=>∃vL,x=Z (X #[vL,J (half:Int)])/\aH 180000 aT vL lo/\Gb w' aT))(uH:half<=3)(r:Nat)(hr:chosen aj aJ lo half=r)(D5:aG r)(hL:(nb r:Int)<=60)(z:Int)(y:Int)(hy:IntKind.u64.wrap (one*(q2-(mn-p+1)))=y)(y0:0<=y)(hry:(r:Int)+y<18446744073709551616)(uq:yA f aJ ((r:Int)+y) z)(hov:(nb r:Int)+q2-1<=mx)(hh:0<(half:Int))(lo2 m_:Nat)(QO:Hid (∀w',Gb w w'->CT 223 #[.agg #[J aJ,v,J e,O rest],J q2] w' λx aT=>∃vL,x=Z (X #[vL,J (m_:Int)])/\aH 180000 aT vL lo2/\Gb w' aT))(FM:m_<=3)(r2:Nat)(qU:chosen aj aJ lo2 m_=r2)(JK:(nb r2:Int)<=4000000)(JG:mn<=(nb r2:Int)+b_-p):
  BF f aj aJ v e rest w z 16:=by
 exact aLu
set_option maxRecDepth 1000000
def aH.set{K:Nat}{w:World}{b1 k1 c1 N:Nat}(h:aH K w (aC b1 k1 c1) N)(hN:0<N){B:Nat}{s:Int}(hc:aA w B 0 (J s))(o:Nat)(u:Value)(ho:o≠0):
  aH K (w.setCell ⟨B,o,none⟩ u) (aC b1 k1 c1) N/\aA (w.setCell ⟨B,o,none⟩ u) B 0 (J s):=by
 obtain⟨n,h1,uG,fF,b,cap,e,h3,h4,h5⟩:=h;simp only[Value.slice.injEq,Option.some.injEq,Addr.mk.injEq,and_true]at e;obtain⟨rfl,rfl,rfl⟩:=e;have hn:0<k1:=by
  rcases Nat.eq_zero_or_pos k1 with c|c
  .have:=uG.iff.mp c;omega
  .exact c
 have jV:B≠b1:=by
  intro e;subst e;have:=h5 0 hn;rw[hc]at this;simp at this
 refine⟨⟨k1,h1,uG,fF,b1,c1,rfl,h3,h4,λj hj=>aS (by simpa using jV) (h5 j hj)⟩,bI ho hc⟩
def aH.aMr{K:Nat}{w:World}{b1 k1 c1 N:Nat}(h:aH K w (aC b1 k1 c1) N)(hN:0<N){B:Nat}{s:Int}(hc:aA w B 0 (J s))(u1 u2 u3:Value):
  aH K (((w.setCell ⟨B,1,none⟩ u1).setCell ⟨B,2,none⟩ u2).setCell ⟨B,3,none⟩ u3) (aC b1 k1 c1) N:=by
 obtain⟨a1,a2⟩:=h.set hN hc 1 u1 de;obtain⟨a3,a4⟩:=a1.set hN a2 2 u2 de;exact(a3.set hN a4 3 u3 de).1
def aDl{v:Value}{M:Nat}{w:World}{f p mn mx one aj aJ e:Int}{rest:Bool}(HB:Hid (aH 100000 w v M))(HR:Hid (RC f p mn mx one aj aJ w))(b1:24<=p)(b2:p<=53)(b3:-1022<=mn)(b4:mn<=-126)(b5:127<=mx)(b6:mx<=1023)(b7:0<=one)(b8:one<=4503599627370496)(n1:(nb M:Int)<=4000000)(e0:-1000000<=e)(e1:e<=1000000)(te b_:Int)(ht:(nb M:Int)+e=te)(iT:te-1=b_)(c0:b_<mn-p-2)(lo half:Nat)(nU:Hid (∀v1 w',aH 100000 w' v1 1->CT 223 #[.agg #[J aJ,v1,J (mn-p-2),O true],J (mn-p+1)] w' λx aT=>∃vL,x=Z (X #[vL,J (half:Int)])/\aH 180000 aT vL lo/\Gb w' aT))(uH:half<=3)(r:Nat)(hr:chosen aj aJ lo half=r)(D5:aG r)(hL:(nb r:Int)<=60)(z:Int)(uq:yA f aJ r z)(hh:0<(half:Int))(lo2 m_:Nat)(q2 tp:Int)(X7:mn-p-2-p=tp)(Td:tp+1=q2)(QO:Hid (∀v1 w',aH 100000 w' v1 1->CT 223 #[.agg #[J aJ,v1,J (mn-p-2),O true],J q2] w' λx aT=>∃vL,x=Z (X #[vL,J (m_:Int)])/\aH 180000 aT vL lo2/\Gb w' aT))(FM:m_<=3)(r2:Nat)(qU:chosen aj aJ lo2 m_=r2)(JK:(nb r2:Int)<=4000000)(JG:(nb r2:Int)+(mn-p-2)-p<mn):
  BF f aj aJ v e rest w z 24:=by
 have u1:IntKind.i64.wrap ((nb M:Int)+e)=te:=by rw[ht];rw[IntKind.wrap_i64];omega
 have u2:IntKind.i64.wrap (te-1)=b_:=by rw[iT];rw[IntKind.wrap_i64];omega
 have tb:-1000001<=b_/\b_<=5000001:=om;clear ht iT;have u3:IntKind.i64.wrap (mn-p-2-p)=tp:=by rw[X7];rw[IntKind.wrap_i64];omega
 have u4:IntKind.i64.wrap (tp+1)=q2:=by rw[Td];rw[IntKind.wrap_i64];omega
 have CY:Hid (∀w',CT 132 #[Y 1] w' λx aT=>∃b1 k1 c1,x=Z (aC b1 k1 c1)/\aH 100000 aT (aC b1 k1 c1) 1/\Gb w' aT):=λw'=>(gY 1 om w').mono (λx aT ⟨v',k,a1,a2,a3,a4⟩=>by obtain⟨b,c,rfl,_⟩:=Big.shape a2;exact⟨b,k,c,a1,⟨k,om,a2⟩,a4⟩);clear X7 Td;go_enter func138,ntmps138;go_wp2;go_region_held3 (λw'=>aA w' w.heap.size 0 (J aJ)/\aA w' w.heap.size 1 (v)/\aA w' w.heap.size 2 (J e)/\aA w' w.heap.size 3 (O rest)/\aA w' (w.heap.size+1) 0 (Y 0)/\dB w' (w.heap.size+1) 0/\aA w' (w.heap.size+1) 1 (J 0)/\dB w' (w.heap.size+1) 1/\dB w' w.heap.size 1/\dB w' w.heap.size 2/\dB w' w.heap.size 3)((go_split_ands;(repeat' apply And.intro)<;>exact kb))(first|(go_at_call 221;refine kw (RC.len HR.out 100000 _ M _ om (aH.gb HB.out kg)) ?_))
 all_goals
  (try go_split_ands)
  go_wp2_with (first|(go_at_call 206;refine kw (RC.max HR.out _) ?_)|(go_at_call 215;refine kw (RC.min HR.out _) ?_)|(go_at_call 116;refine kw (RC.prec HR.out _) ?_)|(go_at_call 117;refine kw (RC.two HR.out _) ?_)|(go_at_call 132;refine(CY _).mono ?_;rintro x wb ⟨b1,k1,c1,rfl,gU,aSj⟩;obtain⟨bx0,bx1,bx2,bx3⟩:oV wb w.heap.size 0 1 2 3 (J aJ) (v) (J e) (O rest):=⟨kb,kb,kb,kb⟩;obtain⟨jT,bz0,br1,bz1⟩:jC wb (w.heap.size+1) 0 1 (Y 0) (J 0):=⟨kb,kb,kb,kb⟩;have bq1:dB wb w.heap.size 1:=kb;have bq2:dB wb w.heap.size 2:=kb;have bq3:dB wb w.heap.size 3:=kb;have aUC:=au jT;have AP:=aH.aMr gU om bx0)|(go_at_call 223;refine(nU _ _ (by first|(with_reducible assumption)|(exact AP _ _ _)|(refine aH.gb (AP _ _ _) kg)|(refine aH.gb (by with_reducible assumption) kg))).mono ?_;rintro x wc ⟨vL,rfl,Tq,Nw⟩;obtain⟨cx0,Uh,cx2,cx3⟩:oV wc w.heap.size 0 1 2 3 (J aJ) ((.slice (some ⟨b1,0,none⟩) k1 c1)) (J (mn-p-2)) (O true):=⟨kb,kb,kb,kb⟩;obtain⟨wI,cz0,cr1,cz1⟩:jC wc (w.heap.size+1) 0 1 (Y 0) (J 0):=⟨kb,kb,kb,kb⟩)|(go_at_call 224;refine(RC.choose HR.out _ lo half _ (by first|(with_reducible assumption)|(exact AP _ _ _)|(refine aH.gb (AP _ _ _) kg)|(refine aH.gb (by with_reducible assumption) kg)) uH).mono ?_;rintro x wd ⟨vr,rfl,FP,Z8⟩;(try rw[hr]at FP);obtain⟨dx0,dx1,dx2,dx3⟩:oV wd w.heap.size 0 1 2 3 (J aJ) ((.slice (some ⟨b1,0,none⟩) k1 c1)) (J (mn-p-2)) (O true):=⟨kb,kb,kb,kb⟩;obtain⟨yJ,dz0,dr1,dz1⟩:jC wd (w.heap.size+1) 0 1 (Y 0) (J 0):=⟨kb,kb,kb,kb⟩)|(go_at_call 221;refine(RC.len HR.out 190000 _ r _ om (by first|(with_reducible assumption)|(exact AP _ _ _)|(refine aH.gb (AP _ _ _) kg)|(refine aH.gb (by with_reducible assumption) kg))).mono ?_;rintro x wk ⟨rfl,hw⟩;subst hw)|(go_at_call 225;refine(RC.word HR.out _ r _ (by first|(with_reducible assumption)|(exact AP _ _ _)|(refine aH.gb (AP _ _ _) kg)|(refine aH.gb (by with_reducible assumption) kg)) D5).mono ?_;rintro x wk ⟨rfl,hw⟩;subst hw)|(go_at_call 118;refine kw (uq _) ?_)|(go_at_call 222;refine(BG _).mono ?_;rintro x wo ⟨rfl,hgo⟩;obtain⟨ox0,ox1,ox2,ox3⟩:oV wo w.heap.size 0 1 2 3 (J aJ) ((.slice (some ⟨b1,0,none⟩) k1 c1)) (J (mn-p-2)) (O true):=⟨kb,kb,kb,kb⟩;obtain⟨Iu,oz0,or1,oz1⟩:jC wo (w.heap.size+1) 0 1 (Y 0) (J 0):=⟨kb,kb,kb,kb⟩))
  go_region_held3 (λw'=>aA w' w.heap.size 0 (J aJ)/\aA w' w.heap.size 1 ((aC b1 k1 c1))/\aA w' w.heap.size 2 (J (mn-p-2))/\aA w' w.heap.size 3 (O true)/\aA w' (w.heap.size+1) 0 (Y 0)/\dB w' (w.heap.size+1) 0/\aA w' (w.heap.size+1) 1 (J 0)/\dB w' (w.heap.size+1) 1)((go_split_ands;(repeat' apply And.intro)<;>exact kb))(first|(go_at_call 116;refine kw (RC.prec HR.out _) ?_)|(go_at_call 223;refine(QO _ _ (by first|(with_reducible assumption)|(exact AP _ _ _)|(refine aH.gb (AP _ _ _) kg)|(refine aH.gb (by with_reducible assumption) kg))).mono ?_;rintro x we ⟨vL2,rfl,aSz,hge⟩;obtain⟨aSS,aSR,aSQ,aSP⟩:oV we w.heap.size 0 1 2 3 (J aJ) ((.slice (some ⟨b1,0,none⟩) k1 c1)) (J (mn-p-2)) (O true):=⟨kb,kb,kb,kb⟩;obtain⟨aSU,aSO,aST,aSN⟩:jC we (w.heap.size+1) 0 1 (Y 0) (J 0):=⟨kb,kb,kb,kb⟩))
  all_goals
   (try go_split_ands)
   go_wp2_with (first|(go_at_call 206;refine kw (RC.max HR.out _) ?_)|(go_at_call 215;refine kw (RC.min HR.out _) ?_)|(go_at_call 116;refine kw (RC.prec HR.out _) ?_)|(go_at_call 117;refine kw (RC.two HR.out _) ?_)|(go_at_call 132;refine(CY _).mono ?_;rintro x wb ⟨b1,k1,c1,rfl,gU,aSj⟩;obtain⟨bx0,bx1,bx2,bx3⟩:oV wb w.heap.size 0 1 2 3 (J aJ) (v) (J e) (O rest):=⟨kb,kb,kb,kb⟩;obtain⟨jT,bz0,br1,bz1⟩:jC wb (w.heap.size+1) 0 1 (Y 0) (J 0):=⟨kb,kb,kb,kb⟩)|(go_at_call 224;refine(RC.choose HR.out _ lo2 m_ _ (by first|(with_reducible assumption)|(exact AP _ _ _)|(refine aH.gb (AP _ _ _) kg)|(refine aH.gb (by with_reducible assumption) kg)) FM).mono ?_;rintro x wf ⟨vr2,rfl,aNs,hgf⟩;(try rw[qU]at aNs);obtain⟨fx0,fx1,fx2,fx3⟩:oV wf w.heap.size 0 1 2 3 (J aJ) ((.slice (some ⟨b1,0,none⟩) k1 c1)) (J (mn-p-2)) (O true):=⟨kb,kb,kb,kb⟩;obtain⟨fr0,fz0,fr1,fz1⟩:jC wf (w.heap.size+1) 0 1 (Y 0) (J 0):=⟨kb,kb,kb,kb⟩)|(go_at_call 221;refine(RC.len HR.out 190000 _ r2 _ om (by first|(with_reducible assumption)|(exact AP _ _ _)|(refine aH.gb (AP _ _ _) kg)|(refine aH.gb (by with_reducible assumption) kg))).mono ?_;rintro x wk ⟨rfl,hw⟩;subst hw)|(go_at_call 225;refine(RC.word HR.out _ r _ (by first|(with_reducible assumption)|(exact AP _ _ _)|(refine aH.gb (AP _ _ _) kg)|(refine aH.gb (by with_reducible assumption) kg)) D5).mono ?_;rintro x wk ⟨rfl,hw⟩;subst hw)|(go_at_call 118;refine kw (uq _) ?_)|(go_at_call 222;refine(BG _).mono ?_;rintro x wo ⟨rfl,hgo⟩;obtain⟨ox0,ox1,ox2,ox3⟩:oV wo w.heap.size 0 1 2 3 (J aJ) ((.slice (some ⟨b1,0,none⟩) k1 c1)) (J (mn-p-2)) (O true):=⟨kb,kb,kb,kb⟩;obtain⟨Iu,oz0,or1,oz1⟩:jC wo (w.heap.size+1) 0 1 (Y 0) (J 0):=⟨kb,kb,kb,kb⟩))
   exact dI (by simp[results,Tryz.results138,go_sem,fr0,fr1])
def Wo(a:Int):Prop:=0<=a/\a<18446744073709551616
abbrev vC:Int:=4602678819172646912
abbrev c32:Int:=4751297606875873280
abbrev c63:Int:=4890909195324358656
structure O7 where
 int:Int->Int
 sub:Int->Int->Int
 mul:Int->Int->Int
 jW:Int->Int
 fix:Int->Int
 whole:Int->Int
structure O7.In (o:O7):Prop where
 int:∀n,Wo (o.int n)
 sub:∀{a b},Wo a->Wo b->Wo (o.sub a b)
 aOw:∀{a b},Wo a->Wo b->9223372036854775808<=o.sub a b->o.sub a b%9223372036854775808<=9218868437227405312
 mul:∀{a b},Wo a->Wo b->Wo (o.mul a b)
 jW:∀{a},Wo a->Wo (o.jW a)
 fix:∀{a},Wo a->Wo (o.fix a)
 whole:∀{a},Wo a->Wo (o.whole a)
def yD(a b:Int):Int:=if a.tmod 9223372036854775808=0/\b.tmod 9223372036854775808=0 then 0 else if decide (9223372036854775808<=a)≠decide (9223372036854775808<=b)then(if 9223372036854775808<=a then-1 else 1)else if a.tmod 9223372036854775808=b.tmod 9223372036854775808 then 0 else if decide (a.tmod 9223372036854775808<b.tmod 9223372036854775808)=decide (a<9223372036854775808)then-1 else 1
def Unp(a c s:Int):Prop:=(s=0\/s=1)/\(1<c↔9218868437227405312<=a%9223372036854775808)/\(c=0↔a%9223372036854775808=0)/\(s=1->9223372036854775808<=a)
structure O7.S (o:O7):Prop where
 word:Hid (∀n,-9223372036854775808<=n->n<=9223372036854775807->∀w,QB 111 #[J n] w (Y (o.int n)))
 minus:Hid (∀a b,Wo a->Wo b->∀w,QB 127 #[Y a,Y b] w (Y (o.sub a b)))
 times:Hid (∀a b,Wo a->Wo b->∀w,QB 112 #[Y a,Y b] w (Y (o.mul a b)))
 half:KB 113 #[] (Y vC)
 aG6:Hid (∀w,CT 60 #[J 1,J 0,J 3,Y 4294967296] w λe w'=>∃fl:Int,e=Z (aP c32 fl)/\Gb w w')
 aG5:Hid (∀w,CT 60 #[J 1,J 0,J 3,Y 9223372036854775808] w λe w'=>∃fl:Int,e=Z (aP c63 fl)/\Gb w w')
 unp:∀{a},Wo a->∃c s x g:Int,Unp a c s/\bP 1 a c s x g
 order:Hid (∀a b,Wo a->Wo b->∀w,QW 159 #[J 1,Y a,Y b] w (J (yD a b)))
 jW:Hid (∀a,Wo a->∀w,CT 71 #[J 1,J 4,Y a,O false] w λe w'=>∃fl:Int,e=Z (aP (o.jW a) fl)/\Gb w w')
 fix:Hid (∀a,Wo a->∀w,CT 69 #[J 1,J 2,J 3,Y a] w λe w'=>∃fl:Int,e=Z (aP (o.fix a) fl)/\Gb w w')
 whole:Hid (∀a,Wo a->∀w,CT 69 #[J 1,J 0,J 1,Y a] w λe w'=>∃fl:Int,e=Z (aP (o.whole a) fl)/\Gb w w')
 k1:o.mul (o.int (-2199023255552)) vC=14010698440749613056
 k2:o.mul (o.int 2199023255552) vC=4787326403894837248
 k3:o.mul (o.int 1) vC=vC
 k4:o.mul (o.int 2) vC=4607182418800017408
 k5:o.mul (o.int 0) vC=0
 k6:o.mul vC vC=4598175219545276416
 k7:o.mul 4598175219545276416 vC=4593671619917905920
 neg:∀{x},Wo x->9223372036854775808<=x->x%9223372036854775808<=9218868437227405312->o.fix (o.mul x c32)=0
structure O7.I (o:O7):Prop where
 word:Hid (∀n,-9223372036854775808<=n->n<=9223372036854775807->∀w,Fm w->QR 276 #[J n] w (Y (o.int n)))
 minus:Hid (∀a b,Wo a->Wo b->∀w,Fm w->QR 200 #[Y a,Y b] w (Y (o.sub a b)))
 times:Hid (∀a b,Wo a->Wo b->∀w,Fm w->QR 201 #[Y a,Y b] w (Y (o.mul a b)))
 fix:Hid (∀a,Wo a->∀w,Fm w->QR 202 #[Y a] w (Y (o.fix a)))
 jW:Hid (∀a,Wo a->∀w,Fm w->CT 96 #[J 1,J 4,Y a,O false] w λe w'=>∃fl:Int,e=Z (aP (o.jW a) fl)/\Gr w w')
 whole:Hid (∀a,Wo a->a%9223372036854775808<=4787326403894837248->∀w,Fm w->CT 94 #[J 1,J 2,J 1,Y (o.jW a)] w λe w'=>∃fl:Int,e=Z (aP (o.whole (o.jW a)) fl)/\Gr w w')
def isC(mu inv scale:Int):Bool:=decide (mu%9223372036854775808<=4787326403894837248)&&(decide (vC<=inv)&&decide (inv<=4607182418800017408))&&(decide (0<scale)&&decide (scale<=4607182418800017408))
namespace O7
variable (o:O7)
def above(mu:Int):Int:=o.sub mu (o.jW mu)
def narrow(inv:Int):Int:=o.mul (o.mul inv inv) vC
def shr(scale:Int):Int:=o.fix (o.mul scale c63)
def JR(z:Int)(n:Nat)(r h:Int):Int:=o.sub (o.mul (o.mul (o.sub (o.int z) r) (o.sub (o.int z) r)) h) (o.mul (o.int ((n:Int)*n)) 4593671619917905920)
def leaves(z:Int)(n:Nat)(r h e:Int):Int:=share (mP (o.fix (o.mul (o.JR z n r h) c32))) e
def acc(z:Int)(n:Nat)(r h e v:Int):Bool:=decide (v/2<o.leaves z n r h e)
end O7
def Um(n:Nat)(c:Int):Int:=if c%2=1 then(n:Int)+1 else-(n:Int)
def Yc(n:Nat)(c:Int)(hn:n<=18):-18<=Um n c/\Um n c<=19:=by unfold Um;split<;>omega
def Wo.c(x:Int)(h0:0<=x:=by first|decide)(h1:aG x:=by first|decide):Wo x:=⟨h0,h1⟩
