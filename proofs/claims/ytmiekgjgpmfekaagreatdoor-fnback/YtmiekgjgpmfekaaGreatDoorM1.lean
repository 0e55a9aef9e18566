import Derived.Test.YtmiekgjgpmfekaaGreatDoorK1
set_option linter.all false
set_option maxRecDepth 1000000
set_option maxHeartbeats 40000000
open Bool renaming false → Z
open Go.Value renaming int → J
open Go.IntKind renaming i64 → Y
open Go.Proofs.Tryz
namespace Go.Proofs.YtmiekgjgpmfekaaGreatDoor
open Go.RowKit
attribute [local go_sem] aj
theorem wW{P:Prop}(h:P:=by
 go_enter func105,ntmps105;go_wp2_with (first
   |(go_at_call 94;refine kw (HF _) ?_)
   |(go_at_call 83;refine ku (HL _) fun w9 aV=>?_;have iw:=aV.aZ w)
   |(go_at_call 57;first|(with_reducible refine ku (iJ.out _) fun w2 aA=>?_;have jA:=aA.aZ w;have:=aA.J8 w1;have hz1:=au jA.1)|(with_reducible refine ku (gJ.out _) fun w1 ak=>?_;have gY:=ak.aZ w;have hz0:=au gY.1))
   |(go_at_call 95;first|(with_reducible refine ku (kY.out _) fun va aS=>?_;have:=aS.aZ w;have:=aS.dX w1;have:=aS.dX w2)|(with_reducible refine ku (r_.out _) fun vb bV=>?_;have:=bV.aZ w;have:=bV.dX w1;have:=bV.dX w2))
   |(go_at_call 96;refine ku (HL _) fun w9 aV=>?_;have iw:=aV.aZ w)
   |(go_at_call 97;refine ku (HL _) fun w9 aV=>?_;have iw:=aV.aZ w))
 exact dA (by simp[results,Tryz.results105,go_sem,iw])):P:=h
theorem Em(f mode a b:Int)(HF:fM f mode a b Z)(z fl:Int)(HL:nH f z fl)(w:World):
  zS f mode a b w z fl:=by
 exact wW
theorem U6(f mode a b ca sa xa ga cb sb xb gb:Int)(HF:fM f mode a b true)(gJ:bC f a ca sa xa ga)(iJ:bC f b cb sb xb gb)(kY:bF ca sa xa ga true)(e4:(ca==4)=true)(z fl:Int)(HL:oI f true z fl)(w:World):
  zS f mode a b w z fl:=by
 exact wW
theorem U5(f mode a b ca sa xa ga cb sb xb gb:Int)(HF:fM f mode a b true)(gJ:bC f a ca sa xa ga)(iJ:bC f b cb sb xb gb)(kY:bF ca sa xa ga true)(e4:(ca==4)=Z)(t:Bool)(e5:(cb==4)=t)(z fl:Int)(HL:oI f t z fl)(w:World):
  zS f mode a b w z fl:=by
 cases t
 ·exact wW
 ·exact wW
theorem U4(f mode a b ca sa xa ga cb sb xb gb:Int)(HF:fM f mode a b true)(gJ:bC f a ca sa xa ga)(iJ:bC f b cb sb xb gb)(kY:bF ca sa xa ga Z)(r_:bF cb sb xb gb true)(e4:(ca==4)=Z)(t:Bool)(e5:(cb==4)=t)(z fl:Int)(HL:oI f t z fl)(w:World):
  zS f mode a b w z fl:=by
 cases t
 ·exact wW
 ·exact wW
theorem U_(f mode a b ca sa xa ga cb sb xb gb:Int)(HF:fM f mode a b true)(gJ:bC f a ca sa xa ga)(iJ:bC f b cb sb xb gb)(kY:bF ca sa xa ga Z)(r_:bF cb sb xb gb Z)(e1:ca=2)(e2:cb=2)(e3:(sa==sb)=Z)(z fl:Int)(HL:nH f z fl)(w:World):
  zS f mode a b w z fl:=by
 subst e1 e2;exact wW
theorem U9(f mode a b ca sa xa ga cb sb xb gb:Int)(HF:fM f mode a b true)(gJ:bC f a ca sa xa ga)(iJ:bC f b cb sb xb gb)(kY:bF ca sa xa ga Z)(r_:bF cb sb xb gb Z)(e1:ca=2)(e2:(cb==2)=Z)(z fl:Int)(HL:Ci f sa z fl)(w:World):
  zS f mode a b w z fl:=by
 subst e1;exact wW
theorem U8(f mode a b ca sa xa ga cb sb xb gb:Int)(HF:fM f mode a b true)(gJ:bC f a ca sa xa ga)(iJ:bC f b cb sb xb gb)(kY:bF ca sa xa ga Z)(r_:bF cb sb xb gb Z)(e1:ca=2)(e2:cb=2)(e3:sa=sb)(z fl:Int)(HL:Ci f sa z fl)(w:World):
  zS f mode a b w z fl:=by
 subst e1 e2 e3;exact wW
theorem U7(f mode a b ca sa xa ga cb sb xb gb:Int)(HF:fM f mode a b true)(gJ:bC f a ca sa xa ga)(iJ:bC f b cb sb xb gb)(kY:bF ca sa xa ga Z)(r_:bF cb sb xb gb Z)(e1:(ca==2)=Z)(e2:cb=2)(z fl:Int)(HL:Ci f sb z fl)(w:World):
  zS f mode a b w z fl:=by
 subst e2;exact wW
theorem Yh(f mode a b ca sa xa ga cb sb xb gb:Int)(Ga Gb':Nat)(HF:fM f mode a b true)(gJ:bC f a ca sa xa ga)(iJ:bC f b cb sb xb gb)(kY:bF ca sa xa ga Z)(r_:bF cb sb xb gb Z)(e1:(ca==2)=Z)(e2:(cb==2)=Z)(HNa:Hid (∀w,CT 123 #[eH ca sa xa ga] w fun e w'=>∃ba ka qa,aC 2 w' (aB ba ka qa) Ga/\e=.returned (.agg #[J Y sa,aB ba ka qa,J Y xa,.bool Z])/\Gb w w'))(HNb:Hid (∀w,CT 123 #[eH cb sb xb gb] w fun e w'=>∃bb kB qb,aC 2 w' (aB bb kB qb) Gb'/\e=.returned (.agg #[J Y sb,aB bb kB qb,J Y xb,.bool Z])/\Gb w w'))(Q:Int->Int->Prop)(HS:Hid (∀ba ka qa bb kB qb w,aC 4 w (aB ba ka qa) Ga->aC 4 w (aB bb kB qb) Gb'->CT 166 #[J Y f,J Y mode,.agg #[J Y sa,aB ba ka qa,J Y xa,.bool Z],.agg #[J Y sb,aB bb kB qb,J Y xb,.bool Z]] w (Ey Q w)))(w:World):
  CT 105 #[J Y f,J Y mode,J .u64 a,J .u64 b] w (Ey Q w):=by
 go_enter func105,ntmps105;go_wp2_with (first
  |(go_at_call 94;refine kw (HF _) ?_)
  |(go_at_call 57;first|(with_reducible refine ku (gJ.out _) fun w1 ak=>?_;have gY:=ak.aZ w;have hz0:=au gY.1)|(with_reducible refine ku (iJ.out _) fun w2 aA=>?_;have jA:=aA.aZ w;have:=aA.J8 w1;have hz1:=au jA.1))
  |(go_at_call 95;first|(with_reducible refine ku (kY.out _) fun va aS=>?_;have:=aS.aZ w;have:=aS.dX w1;have:=aS.dX w2)|(with_reducible refine ku (r_.out _) fun vb bV=>?_;have:=bV.aZ w;have:=bV.dX w1;have:=bV.dX w2)))
 go_region_held3 (fun w'=>aj w' w1.heap.size 0 (J Y ca)/\aj w' w1.heap.size 1 (J Y sa)/\aj w' w1.heap.size 2 (J Y xa)/\aj w' w1.heap.size 3 (J .u64 ga)/\aj w' w2.heap.size 0 (J Y cb)/\aj w' w2.heap.size 1 (J Y sb)/\aj w' w2.heap.size 2 (J Y xb)/\aj w' w2.heap.size 3 (J .u64 gb))
  (exact kZ)
  (first
   |(go_at_call 123;first|(with_reducible refine(HNa.out _).mono ?_;rintro e na ⟨ba,ka,qa,hba,rfl,aGQ⟩;have:=aGQ.aZ w)|(with_reducible refine(HNb.out _).mono ?_;rintro e nb ⟨bb,kB,qb,hbb,rfl,aGP⟩;have:=aGP.aZ w))
   |(go_at_call 166;refine(HS _ _ _ _ _ _ _ (aC.le (aC.gb hba Gb.g) om) (aC.le (aC.gb hbb Gb.g) om)).mono ?_;rintro e w9 ⟨z,fl,hq,rfl,aV⟩;have iw:=aV.aZ w))
 all_goals go_wp2
 all_goals
  refine bodyPost_ret (v:=aK z fl) (by simp[results,Tryz.results105,go_sem,iw]) rfl ⟨z,fl,hq,rfl,?_⟩;exact Gb.g
theorem Ef(f mode a b:Int)(HF:fM f mode a b Z)(z fl:Int)(HL:nH f z fl)(w:World):
  QB 124 #[J Y f,J Y mode,J .u64 a,J .u64 b] w (aK z fl):=by
 go_enter func124,ntmps124;go_wp2_with (first
  |(go_at_call 94;refine kw (HF _) ?_)
  |(go_at_call 83;refine ku (HL _) fun w9 aV=>?_;have iw:=aV.aZ w))
 exact dA (by simp[results,Tryz.results124,go_sem,iw])
theorem aBa(f mode a b b':Int)(HF:fM f mode a b true)(HT:KW 109 #[J Y f,J .u64 b] (J .u64 b'))(Q:Int->Int->Prop)(HA:Hid (∀w,CT 105 #[J Y f,J Y mode,J .u64 a,J .u64 b'] w (Ey Q w)))(w:World):
  CT 124 #[J Y f,J Y mode,J .u64 a,J .u64 b] w (Ey Q w):=by
 go_enter func124,ntmps124;go_wp2_with (first
  |(go_at_call 94;refine kw (HF _) ?_)
  |(go_at_call 109;refine kw (HT _) ?_)
  |(go_at_call 105;refine(HA _).mono ?_;rintro e w9 ⟨z,fl,hq,rfl,aV⟩;have iw:=aV.aZ w))
 refine bodyPost_ret (v:=aK z fl) (by simp[results,Tryz.results124,go_sem,iw]) rfl ⟨z,fl,hq,rfl,?_⟩;exact Gb.g
