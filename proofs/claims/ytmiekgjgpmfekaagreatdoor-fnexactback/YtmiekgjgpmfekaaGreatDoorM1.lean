import Derived.Test.YtmiekgjgpmfekaaGreatDoorK1
set_option linter.all false
set_option maxRecDepth 1000000
set_option maxHeartbeats 40000000
open Bool renaming false → Z
open Go.Value renaming int → J
open Go.IntKind renaming i64 → Y
open Go.Proofs.Tryz
namespace Go.Proofs.YtmiekgjgpmfekaaGreatDoor
open Go.RowKit
attribute [local go_sem] aj
theorem xW{P:Prop}(h:P:=by
 go_enter func105,ntmps105;go_wp2_with (first
   |(go_at_call 94;refine kw (HF _) ?_)
   |(go_at_call 83;refine ku (HL _) fun w9 aU=>?_;have h_:=aU.aW w)
   |(go_at_call 57;first|(with_reducible refine ku (iQ.out _) fun w2 aA=>?_;have jE:=aA.aW w;have:=aA.I9 w1;have hz1:=au jE.1)|(with_reducible refine ku (gU.out _) fun w1 ak=>?_;have ig:=ak.aW w;have hz0:=au ig.1))
   |(go_at_call 95;first|(with_reducible refine ku (lN.out _) fun va aT=>?_;have:=aT.aW w;have:=aT.dX w1;have:=aT.dX w2)|(with_reducible refine ku (tJ.out _) fun vb bZ=>?_;have:=bZ.aW w;have:=bZ.dX w1;have:=bZ.dX w2))
   |(go_at_call 96;refine ku (HL _) fun w9 aU=>?_;have h_:=aU.aW w)
   |(go_at_call 97;refine ku (HL _) fun w9 aU=>?_;have h_:=aU.aW w))
 exact dB (by simp[results,Tryz.results105,go_sem,h_])):P:=h
theorem EM(f mode a b:Int)(HF:fO f mode a b Z)(z fl:Int)(HL:nY f z fl)(w:World):
  Az f mode a b w z fl:=by
 exact xW
theorem VP(f mode a b ca sa xa ga cb sb xb gb:Int)(HF:fO f mode a b true)(gU:bD f a ca sa xa ga)(iQ:bD f b cb sb xb gb)(lN:bI ca sa xa ga true)(e4:(ca==4)=true)(z fl:Int)(HL:o9 f true z fl)(w:World):
  Az f mode a b w z fl:=by
 exact xW
theorem VN(f mode a b ca sa xa ga cb sb xb gb:Int)(HF:fO f mode a b true)(gU:bD f a ca sa xa ga)(iQ:bD f b cb sb xb gb)(lN:bI ca sa xa ga true)(e4:(ca==4)=Z)(t:Bool)(e5:(cb==4)=t)(z fl:Int)(HL:o9 f t z fl)(w:World):
  Az f mode a b w z fl:=by
 cases t
 ·exact xW
 ·exact xW
theorem VL(f mode a b ca sa xa ga cb sb xb gb:Int)(HF:fO f mode a b true)(gU:bD f a ca sa xa ga)(iQ:bD f b cb sb xb gb)(lN:bI ca sa xa ga Z)(tJ:bI cb sb xb gb true)(e4:(ca==4)=Z)(t:Bool)(e5:(cb==4)=t)(z fl:Int)(HL:o9 f t z fl)(w:World):
  Az f mode a b w z fl:=by
 cases t
 ·exact xW
 ·exact xW
theorem VU(f mode a b ca sa xa ga cb sb xb gb:Int)(HF:fO f mode a b true)(gU:bD f a ca sa xa ga)(iQ:bD f b cb sb xb gb)(lN:bI ca sa xa ga Z)(tJ:bI cb sb xb gb Z)(e1:ca=2)(e2:cb=2)(e3:(sa==sb)=Z)(z fl:Int)(HL:nY f z fl)(w:World):
  Az f mode a b w z fl:=by
 subst e1 e2;exact xW
theorem VT(f mode a b ca sa xa ga cb sb xb gb:Int)(HF:fO f mode a b true)(gU:bD f a ca sa xa ga)(iQ:bD f b cb sb xb gb)(lN:bI ca sa xa ga Z)(tJ:bI cb sb xb gb Z)(e1:ca=2)(e2:(cb==2)=Z)(z fl:Int)(HL:Dh f sa z fl)(w:World):
  Az f mode a b w z fl:=by
 subst e1;exact xW
theorem VR(f mode a b ca sa xa ga cb sb xb gb:Int)(HF:fO f mode a b true)(gU:bD f a ca sa xa ga)(iQ:bD f b cb sb xb gb)(lN:bI ca sa xa ga Z)(tJ:bI cb sb xb gb Z)(e1:ca=2)(e2:cb=2)(e3:sa=sb)(z fl:Int)(HL:Dh f sa z fl)(w:World):
  Az f mode a b w z fl:=by
 subst e1 e2 e3;exact xW
theorem VQ(f mode a b ca sa xa ga cb sb xb gb:Int)(HF:fO f mode a b true)(gU:bD f a ca sa xa ga)(iQ:bD f b cb sb xb gb)(lN:bI ca sa xa ga Z)(tJ:bI cb sb xb gb Z)(e1:(ca==2)=Z)(e2:cb=2)(z fl:Int)(HL:Dh f sb z fl)(w:World):
  Az f mode a b w z fl:=by
 subst e2;exact xW
theorem Y6(f mode a b ca sa xa ga cb sb xb gb:Int)(Ga Gb':Nat)(HF:fO f mode a b true)(gU:bD f a ca sa xa ga)(iQ:bD f b cb sb xb gb)(lN:bI ca sa xa ga Z)(tJ:bI cb sb xb gb Z)(e1:(ca==2)=Z)(e2:(cb==2)=Z)(HNa:Hid (∀w,CT 123 #[eX ca sa xa ga] w fun e w'=>∃ba ka qa,aF 2 w' (aB ba ka qa) Ga/\e=.returned (.agg #[J Y sa,aB ba ka qa,J Y xa,.bool Z])/\Gb w w'))(HNb:Hid (∀w,CT 123 #[eX cb sb xb gb] w fun e w'=>∃bb kB qb,aF 2 w' (aB bb kB qb) Gb'/\e=.returned (.agg #[J Y sb,aB bb kB qb,J Y xb,.bool Z])/\Gb w w'))(Q:Int->Int->Prop)(HS:Hid (∀ba ka qa bb kB qb w,aF 4 w (aB ba ka qa) Ga->aF 4 w (aB bb kB qb) Gb'->CT 166 #[J Y f,J Y mode,.agg #[J Y sa,aB ba ka qa,J Y xa,.bool Z],.agg #[J Y sb,aB bb kB qb,J Y xb,.bool Z]] w (EX Q w)))(w:World):
  CT 105 #[J Y f,J Y mode,J .u64 a,J .u64 b] w (EX Q w):=by
 go_enter func105,ntmps105;go_wp2_with (first
  |(go_at_call 94;refine kw (HF _) ?_)
  |(go_at_call 57;first|(with_reducible refine ku (gU.out _) fun w1 ak=>?_;have ig:=ak.aW w;have hz0:=au ig.1)|(with_reducible refine ku (iQ.out _) fun w2 aA=>?_;have jE:=aA.aW w;have:=aA.I9 w1;have hz1:=au jE.1))
  |(go_at_call 95;first|(with_reducible refine ku (lN.out _) fun va aT=>?_;have:=aT.aW w;have:=aT.dX w1;have:=aT.dX w2)|(with_reducible refine ku (tJ.out _) fun vb bZ=>?_;have:=bZ.aW w;have:=bZ.dX w1;have:=bZ.dX w2)))
 go_region_held3 (fun w'=>aj w' w1.heap.size 0 (J Y ca)/\aj w' w1.heap.size 1 (J Y sa)/\aj w' w1.heap.size 2 (J Y xa)/\aj w' w1.heap.size 3 (J .u64 ga)/\aj w' w2.heap.size 0 (J Y cb)/\aj w' w2.heap.size 1 (J Y sb)/\aj w' w2.heap.size 2 (J Y xb)/\aj w' w2.heap.size 3 (J .u64 gb))
  (exact kX)
  (first
   |(go_at_call 123;first|(with_reducible refine(HNa.out _).mono ?_;rintro e na ⟨ba,ka,qa,hba,rfl,aH1⟩;have:=aH1.aW w)|(with_reducible refine(HNb.out _).mono ?_;rintro e nb ⟨bb,kB,qb,hbb,rfl,aH0⟩;have:=aH0.aW w))
   |(go_at_call 166;refine(HS _ _ _ _ _ _ _ (aF.le (aF.gb hba Gb.g) om) (aF.le (aF.gb hbb Gb.g) om)).mono ?_;rintro e w9 ⟨z,fl,hq,rfl,aU⟩;have h_:=aU.aW w))
 all_goals go_wp2
 all_goals
  refine bodyPost_ret (v:=aK z fl) (by simp[results,Tryz.results105,go_sem,h_]) rfl ⟨z,fl,hq,rfl,?_⟩;exact Gb.g
theorem EI(f mode a b:Int)(HF:fO f mode a b Z)(z fl:Int)(HL:nY f z fl)(w:World):
  QB 124 #[J Y f,J Y mode,J .u64 a,J .u64 b] w (aK z fl):=by
 go_enter func124,ntmps124;go_wp2_with (first
  |(go_at_call 94;refine kw (HF _) ?_)
  |(go_at_call 83;refine ku (HL _) fun w9 aU=>?_;have h_:=aU.aW w))
 exact dB (by simp[results,Tryz.results124,go_sem,h_])
theorem aBW(f mode a b b':Int)(HF:fO f mode a b true)(HT:KW 109 #[J Y f,J .u64 b] (J .u64 b'))(Q:Int->Int->Prop)(HA:Hid (∀w,CT 105 #[J Y f,J Y mode,J .u64 a,J .u64 b'] w (EX Q w)))(w:World):
  CT 124 #[J Y f,J Y mode,J .u64 a,J .u64 b] w (EX Q w):=by
 go_enter func124,ntmps124;go_wp2_with (first
  |(go_at_call 94;refine kw (HF _) ?_)
  |(go_at_call 109;refine kw (HT _) ?_)
  |(go_at_call 105;refine(HA _).mono ?_;rintro e w9 ⟨z,fl,hq,rfl,aU⟩;have h_:=aU.aW w))
 refine bodyPost_ret (v:=aK z fl) (by simp[results,Tryz.results124,go_sem,h_]) rfl ⟨z,fl,hq,rfl,?_⟩;exact Gb.g
