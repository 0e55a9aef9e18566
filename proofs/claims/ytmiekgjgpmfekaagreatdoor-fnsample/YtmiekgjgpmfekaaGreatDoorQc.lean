import Derived.Test.YtmiekgjgpmfekaaGreatDoorQa
import Derived.Deep.Cut
set_option linter.all false
set_option maxRecDepth 1000000
set_option maxHeartbeats 40000000
open Go.Proofs.YtmiekgjgpmfekaaGreatDoor renaming vI → J, vU → Y
open Go.Proofs.Tryz
namespace Go.Proofs.YtmiekgjgpmfekaaGreatDoor
open Go.RowKit
attribute [local go_sem] aj bK
theorem nC:∀(z fl:Int) (w:World),(Instr.field 56 (aK z fl) 0).run Tryz.prog w=.ok (Y z) w:=fun z fl w=>by kernel_rfl
theorem nV{o:O7}(H:o.S)(HI:o.In){a:Int}(ha:Wo a)(lo hi cl ch:Int)(l0:-9223372036854775808<=lo)(l1:lo<=9223372036854775807)(h0:-9223372036854775808<=hi)(h1:hi<=9223372036854775807)(hl:o.mul (o.int lo) qo=cl)(hh:o.mul (o.int hi) qo=ch){c s x g:Int}(HU:bC 1 a c s x g)(r:Bool)
  (hr:r=(!decide (1<c)&&(decide (0<=tZ a cl)&&decide (tZ a ch<=0)))) (w:World):
  QB 56 #[Y a,J lo,J hi] w (.bool r):=by
 have HW1:KB 40 #[J lo] (Y (o.int lo)):=H.word.out lo l0 l1;have HW2:KB 40 #[J hi] (Y (o.int hi)):=H.word.out hi h0 h1;have HH:=H.half;have OD:KB 42 #[Y (o.int lo),Y qo] (Y cl):=by rw[<-hl];exact H.times.out _ _ (HI.int lo) (Wo.c _)
 have OC:KB 42 #[Y (o.int hi),Y qo] (Y ch):=by rw[<-hh];exact H.times.out _ _ (HI.int hi) (Wo.c _)
 have HO1:KW 116 #[J 1,Y a,Y cl] (J (tZ a cl)):=H.order.out a cl ha (by rw[<-hl];exact HI.mul (HI.int lo) (Wo.c _));have HO2:KW 116 #[J 1,Y a,Y ch] (J (tZ a ch)):=H.order.out a ch ha (by rw[<-hh];exact HI.mul (HI.int hi) (Wo.c _));generalize o.int lo=u1 at*
 generalize o.int hi=u2 at*
 generalize tZ a cl=q1 at*
 generalize tZ a ch=q2 at*
 clear H HI hl hh l0 l1 h0 h1 ha;rcases(show(1<c/\r=false)\/(¬1<c/\¬0<=q1/\r=false)\/(¬1<c/\0<=q1/\r=decide (q2<=0)) by
  by_cases c1:1<c
  ·exact .inl ⟨c1,by rw[hr];simp[c1]⟩
  ·by_cases c2:0<=q1
   ·exact .inr (.inr ⟨c1,c2,by rw[hr];simp[c1,c2]⟩)
   ·exact .inr (.inl ⟨c1,c2,by rw[hr];simp[c2]⟩))with⟨c1,rfl⟩|⟨c1,c2,rfl⟩|⟨c1,c2,rfl⟩
 ·clear hr;go_enter func56,ntmps56;go_wp2_with (go_at_call 57;refine ku (HU _) fun w1 ak=>?_);go_returns;exact⟨rfl,kg⟩
 all_goals
  clear hr;go_enter func56,ntmps56;go_upto_region 4 with(go_at_call 57;refine ku (HU _) fun w1 ak=>?_);go_wp2_with (first
   |(go_at_call 40;first|(with_reducible refine ku (HW1.out _) fun w2 aA=>?_)|(with_reducible refine ku (HW2.out _) fun w5 aT=>?_))
   |(go_at_call 44;refine ku (HH _) fun w3 aF=>?_)
   |(go_at_call 42;first|(with_reducible refine ku (OD.out _) fun w4 aI=>?_)|(with_reducible refine ku (OC.out _) fun w6 b_=>?_))
   |(go_at_call 116;first|(with_reducible refine kw (HO1.out _) ?_)|(with_reducible refine kw (HO2.out _) ?_)))
  go_returns;exact⟨rfl,kg⟩
theorem TL{o:O7}(H:o.S)(HI:o.In){a:Int}(ha:Wo a)(n t cn:Int)(hc:Wo cn)(HT:KW 120 #[J n] (Y t))(HF:Hid (∀w,CT 36 #[J 1,J 0,J 3,Y t] w fun e w'=>∃fl:Int,e=.returned (aK cn fl)/\Gb w w'))
  {c s x g:Int} (HU:bC 1 a c s x g) (r:Int) (hr:s=1/\r=0\/s=0/\r=o.fix (o.mul a cn)) (w:World):
  QB 128 #[Y a,J n] w (Y r):=by
 have hf:=nC;have HM:KB 42 #[Y a,Y cn] (Y (o.mul a cn)):=H.times.out _ _ ha hc;have HX:Hid (∀w,CT 63 #[J 1,J 2,J 3,Y (o.mul a cn)] w fun e w'=>∃fl:Int,e=.returned (aK (o.fix (o.mul a cn)) fl)/\Gb w w'):=H.fix.out _ (HI.mul ha hc);clear H HI ha hc;rcases hr with⟨rfl,rfl⟩|⟨rfl,rfl⟩
 ·go_enter func128,ntmps128;go_wp2_with (go_at_call 57;refine ku (HU _) fun w1 ak=>?_);go_returns;exact⟨rfl,kg⟩
 ·generalize o.fix (o.mul a cn)=r at*
  generalize o.mul a cn=m at*
  go_enter func128,ntmps128;go_upto_region 4 with(go_at_call 57;refine ku (HU _) fun w1 ak=>?_);go_wp2_with (first
   |(go_at_call 120;refine kw (HT _) ?_)
   |(go_at_call 36;refine(HF _).mono ?_;rintro e w3 ⟨f3,rfl,aF⟩)
   |(go_at_call 42;refine ku (HM _) fun w4 aI=>?_)
   |(go_at_call 63;refine(HX _).mono ?_;rintro e w5 ⟨f5,rfl,aT⟩))
  go_returns;exact⟨rfl,kg⟩
theorem aB1{o:O7}(H:o.S)(HI:o.In){a:Int}(ha:Wo a)(hq:9223372036854775808<=a->a%9223372036854775808<=9218868437227405312)(w:World):
  QB 128 #[Y a,J 32] w (Y (o.fix (o.mul a c32))):=by
 obtain⟨c,s,x,g,hu,HU⟩:=H.unp ha;refine TL H HI ha 32 4294967296 c32 (Wo.c _) (fun w=>gU 32 _ om de w) H.ZP HU _ ?_ w;obtain⟨h1,h2,h3,h4⟩:=hu;rcases h1 with h1|h1
 ·exact .inr ⟨h1,rfl⟩
 ·exact .inl ⟨h1,H.neg ha (h4 h1) (hq (h4 h1))⟩
theorem aB0{o:O7}(H:o.S)(HI:o.In){a:Int}(h0:0<=a)(h1:a<9223372036854775808)(w:World):
  QB 128 #[Y a,J 63] w (Y (o.shr a)):=by
 have ha:Wo a:=⟨h0,om⟩;obtain⟨c,s,x,g,hu,HU⟩:=H.unp ha;refine TL H HI ha 63 9223372036854775808 c63 (Wo.c _) (fun w=>gU 63 _ om de w) H.ZO HU _ ?_ w;obtain⟨k1,k2,k3,k4⟩:=hu;rcases k1 with k1|k1
 ·exact .inr ⟨k1,rfl⟩
 ·have:=k4 k1;omega
theorem Wu{o:O7}(H:o.S)(HI:o.In)(z:Int)(n:Nat)(hn:n<=18)(z0:-18<=z)(z1:z<=19){r h sc v:Int}(hr:Wo r)(hh:Wo h)(s0:0<=sc)(s1:sc<9223372036854775808)(hv:Wo v)(w:World):
  QB 62 #[J z,J n,Y r,Y h,Y sc,Y v] w (.bool (o.acc z n r h (o.shr sc) v)):=by
 have hf:=nC;have hd:=HI.sub (HI.int z) hr;have hdd:=HI.mul hd hd;have hm:=HI.mul hdd hh;have hq:Wo (4593671619917905920:Int):=Wo.c _;have hi:=HI.int ((n:Int)*n);have hmi:=HI.mul hi hq;have hx:=HI.sub hm hmi;have hy:=HI.fix (HI.mul hx (Wo.c c32));have HD:KR 127 #[Y (o.fix (o.mul (o.C_ z n r h) c32))] (Y (jO (o.fix (o.mul (o.C_ z n r h) c32)))):=aB9 _ hy.1 hy.2;have HP:KR 126 #[Y (jO (o.fix (o.mul (o.C_ z n r h) c32))),Y (o.shr sc)] (Y (o.leaves z n r h (o.shr sc))):=by
  have d:=H_ (o.fix (o.mul (o.C_ z n r h) c32));have e:=HI.fix (HI.mul (show Wo sc from ⟨s0,om⟩) (Wo.c c63));exact YL _ _ d.1 om e.1 e.2
 have HX:KB 128 #[Y (o.C_ z n r h),J 32] (Y (o.fix (o.mul (o.C_ z n r h) c32))):=aB1 H HI hx (HI.aF8 hm hmi);have HE:KB 128 #[Y sc,J 63] (Y (o.shr sc)):=aB0 H HI s0 s1;have HW1:KB 40 #[J z] (Y (o.int z)):=H.word.out z om om;have nn:(n:Int)*n<=18*18:=Int.mul_le_mul om om om om;have nn0:0<=(n:Int)*n:=Int.mul_nonneg om om;obtain⟨N,hN⟩:∃N,(n:Int)*n=N:=⟨_,rfl⟩;have HW2:KB 40 #[J N] (Y (o.int N)):=H.word.out N om om;have HH:=H.half;have OA:KB 59 #[Y (o.int z),Y r] (Y (o.sub (o.int z) r)):=H.minus.out _ _ (HI.int z) hr;have HT:=H.times;have HQ1:KB 42 #[Y qo,Y qo] (Y 4598175219545276416):=by rw[<-H.k6];exact HT _ _ (Wo.c _) (Wo.c _)
 have HQ2:KB 42 #[Y 4598175219545276416,Y qo] (Y 4593671619917905920):=by rw[<-H.k7];exact HT _ _ (Wo.c _) (Wo.c _)
 have HS2:KB 59 #[Y (o.mul (o.mul (o.sub (o.int z) r) (o.sub (o.int z) r)) h),Y (o.mul (o.int N) 4593671619917905920)] (Y (o.C_ z n r h)):=by rw[<-hN];exact H.minus.out _ _ hm hmi
 have OD:KB 42 #[Y (o.sub (o.int z) r),Y (o.sub (o.int z) r)] (Y (o.mul (o.sub (o.int z) r) (o.sub (o.int z) r))):=HT _ _ hd hd;have OC:KB 42 #[Y (o.mul (o.sub (o.int z) r) (o.sub (o.int z) r)),Y h] (Y (o.mul (o.mul (o.sub (o.int z) r) (o.sub (o.int z) r)) h)):=HT _ _ hdd hh;have HM3:KB 42 #[Y (o.int N),Y 4593671619917905920] (Y (o.mul (o.int N) 4593671619917905920)):=by rw[<-hN];exact HT _ _ hi hq
 have HR:Hid (o.acc z n r h (o.shr sc) v=decide (v/2<o.leaves z n r h (o.shr sc))):=rfl;have v0:=hv.1;have v1:=hv.2;generalize o.acc z n r h (o.shr sc) v=b at*
 generalize o.leaves z n r h (o.shr sc)=lv at*
 generalize o.shr sc=es at*
 generalize jO (o.fix (o.mul (o.C_ z n r h) c32))=dy at*
 generalize o.fix (o.mul (o.C_ z n r h) c32)=fx at*
 generalize o.C_ z n r h=xx at*
 generalize o.mul (o.int N) 4593671619917905920=mi at*
 generalize o.mul (o.mul (o.sub (o.int z) r) (o.sub (o.int z) r)) h=mh at*
 generalize o.mul (o.sub (o.int z) r) (o.sub (o.int z) r)=dd at*
 generalize o.sub (o.int z) r=d at*
 generalize o.int N=iN at*
 generalize o.int z=iz at*
 clear HT H HI hr hh hd hdd hm hq hi hmi hx hy;go_enter func62,ntmps62;go_upto_region 2 with(first
   |(go_at_call 40;refine ku (HW1 _) fun w1 ak=>?_)
   |(go_at_call 59;refine ku (OA _) fun w2 aA=>?_))
 go_upto_region 3 with(first
   |(go_at_call 44;refine ku (HH _) fun w3 aF=>?_)
   |(go_at_call 42;first|(with_reducible refine ku (HQ1.out _) fun w4 aI=>?_)|(with_reducible refine ku (HQ2.out _) fun w5 aT=>?_)))
 go_upto_region 4 with(first
   |(go_at_call 40;refine ku (HW2 _) fun w6 b_=>?_)
   |(go_at_call 42;first|(with_reducible refine ku (OD.out _) fun w7 fQ=>?_)|(with_reducible refine ku (OC.out _) fun w8 pI=>?_)|(with_reducible refine ku (HM3.out _) fun w9 aV=>?_))
   |(go_at_call 59;refine ku (HS2 _) fun wa xH=>?_))
 go_wp2_with (first
   |(go_at_call 128;first|(with_reducible refine ku (HX.out _) fun wb oG=>?_)|(with_reducible refine ku (HE.out _) fun wc Zx=>?_))
   |(go_at_call 127;refine ku (HD _) fun wd aJI=>?_)
   |(go_at_call 126;refine ku (HP _) fun we TI=>?_))
 go_returns;obtain rfl:=HR.out;exact⟨rfl,kg⟩
set_option maxRecDepth 1000000
theorem aCN{P:Prop}(h:P:=by
 have a0:=ha.1;have a1:=ha.2;have b0:=hb.1;have b1:=hb.2;unfold tZ;rw[aF7 ha,aF7 hb];simp only[ne_eq,decide_eq_decide]
 (repeat' split)<;>omega):P:=h
theorem aF7{a:Int}(h:Wo a):a.tmod 9223372036854775808=a%9223372036854775808:=Int.tmod_eq_emod_of_nonneg h.1
theorem Qr{a b:Int}(ha:Wo a)(hb:Wo b):0<=tZ a b↔(a%9223372036854775808=0/\b%9223372036854775808=0)\/(a<9223372036854775808/\b<9223372036854775808/\b<=a)\/(a<9223372036854775808/\9223372036854775808<=b)\/(9223372036854775808<=a/\9223372036854775808<=b/\a<=b):=by
 exact aCN
theorem Qq{a b:Int}(ha:Wo a)(hb:Wo b):tZ a b<=0↔(a%9223372036854775808=0/\b%9223372036854775808=0)\/(a<9223372036854775808/\b<9223372036854775808/\a<=b)\/(9223372036854775808<=a/\b<9223372036854775808)\/(9223372036854775808<=a/\9223372036854775808<=b/\b<=a):=by
 exact aCN
theorem FI{b:Bool}{P:Prop}[Decidable P](h:b=true↔P):b=decide P:=by
 by_cases p:P
 ·rw[decide_eq_true p];exact h.mpr p
 ·rw[decide_eq_false p];cases b
  ·rfl
  ·exact absurd (h.mp rfl) p
theorem aHh{a c s:Int}(ha:Wo a)(hu:Unp a c s):(!decide (1<c)&&(decide (0<=tZ a 14010698440749613056)&&decide (tZ a 4787326403894837248<=0)))=decide (a%9223372036854775808<=4787326403894837248):=by
 refine FI ?_;have a0:=ha.1;have a1:=ha.2;have h:=hu.2.1;rw[Bool.and_eq_true,Bool.and_eq_true,Bool.not_eq_true',decide_eq_false_iff_not,decide_eq_true_eq,decide_eq_true_eq,Qr ha (Wo.c _),Qq ha (Wo.c _),h];omega
theorem aEa{a c s:Int}(ha:Wo a)(hu:Unp a c s):(!decide (1<c)&&(decide (0<=tZ a qo)&&decide (tZ a 4607182418800017408<=0)))=(decide (qo<=a)&&decide (a<=4607182418800017408)):=by
 refine(FI (P:=qo<=a/\a<=4607182418800017408) ?_).trans (Bool.decide_and _ _);have a0:=ha.1;have a1:=ha.2;have h:=hu.2.1;rw[Bool.and_eq_true,Bool.and_eq_true,Bool.not_eq_true',decide_eq_false_iff_not,decide_eq_true_eq,decide_eq_true_eq,Qr ha (Wo.c _),Qq ha (Wo.c _),h];unfold qo;omega
theorem aHg{a c s:Int}(ha:Wo a)(hu:Unp a c s):((!decide (1<c)&&(decide (0<=tZ a 0)&&decide (tZ a 4607182418800017408<=0)))&& !decide (c=0))=(decide (0<a)&&decide (a<=4607182418800017408)):=by
 refine(FI (P:=0<a/\a<=4607182418800017408) ?_).trans (Bool.decide_and _ _);have a0:=ha.1;have a1:=ha.2;have h:=hu.2.1;have h2:=hu.2.2.1;rw[Bool.and_eq_true,Bool.and_eq_true,Bool.and_eq_true,Bool.not_eq_true',Bool.not_eq_true',decide_eq_false_iff_not,decide_eq_false_iff_not,decide_eq_true_eq,decide_eq_true_eq,Qr ha (Wo.c _),Qq ha (Wo.c _),h,h2];omega
structure Smp where
 st:Int
 z:Int
 us:Int
 tr:Int
def Tried(a:Nat->Bool)(Z:Nat->Int)(n:Nat)(r:Smp):Prop:=
 (∃k,17*k+17<=n/\a k=true/\(∀j,j<k->a j=false)/\r=⟨0,Z k,17*(k:Int)+17,(k:Int)+1⟩)\/
 (∃k,n<17*k+17/\17*k<=n/\(∀j,j<k->a j=false)/\r=⟨2,0,17*(k:Int),(k:Int)⟩)
theorem Tried.one{a:Nat->Bool}{Z:Nat->Int}{n:Nat}{r r':Smp}(h:Tried a Z n r)(h':Tried a Z n r'):r=r':=by
 rcases h with⟨k,k1,k2,k3,rfl⟩|⟨k,k1,k2,k3,rfl⟩<;>rcases h' with⟨j,j1,j2,j3,rfl⟩|⟨j,j1,j2,j3,rfl⟩
 ·obtain rfl:k=j:=by
   rcases Nat.lt_trichotomy k j with h|h|h
   ·rw[j3 k h]at k2;cases k2
   ·exact h
   ·rw[k3 j h]at j2;cases j2
  rfl
 ·have:k<j:=om;rw[j3 k this]at k2;cases k2
 ·have:j<k:=om;rw[k3 j this]at j2;cases j2
 ·obtain rfl:k=j:=om;rfl
namespace O7
variable (o:O7)
def oH(mu inv scale:Int)(s:ByteArray)(k:Nat):Bool:=o.acc (OG (iO (num s (17*k) 8)) (j_ s (17*k+8))) (iO (num s (17*k) 8)) (o.above mu) (o.narrow inv) (o.shr scale) (num s (17*k+9) 8)
def OH(mu:Int)(s:ByteArray)(k:Nat):Int:=wrap64 (OG (iO (num s (17*k) 8)) (j_ s (17*k+8))+wrap64 (o.whole (o.iT mu)))
def iD(mu inv scale:Int)(s:ByteArray)(r:Smp):Prop:=
 if s.size<=20000/\isC mu inv scale=true then Tried (o.oH mu inv scale s) (o.OH mu s) s.size r else r=⟨1,0,0,0⟩
theorem iD.one{o:O7}{mu inv scale:Int}{s:ByteArray}{r r':Smp}(h:o.iD mu inv scale s r)(h':o.iD mu inv scale s r'):r=r':=by
 unfold iD at h h';split at h
 ·rename_i c
  rw[if_pos c]at h';exact h.one h'
 ·rename_i c
  rw[if_neg c]at h';rw[h,h']
end O7
abbrev tY(r:Smp):Value:=.agg #[J r.st,J r.z,J r.us,J r.tr]
theorem LP{o:O7}(H:o.S)(HI:o.In){mu inv scale:Int}(hm:Wo mu)(hi:Wo inv)(hs:Wo scale)(s:ByteArray)(hz:s.size<=1048576)(hn:¬(s.size<=20000/\isC mu inv scale=true))(w:World):
  QB 21 #[Y mu,Y inv,Y scale,.string s] w (tY ⟨1,0,0,0⟩):=by
 obtain⟨c1,s1,x1,g1,u1,U1⟩:=H.unp hm;obtain⟨c2,s2,x2,g2,u2,U2⟩:=H.unp hi;obtain⟨c3,s3,x3,g3,u3,U3⟩:=H.unp hs;have e1:=aHh hm u1;have e2:=aEa hi u2;have e3:=aHg hs u3;have hf3:∀w,(Instr.field 80 (eH c3 s3 x3 g3) 0).run Tryz.prog w=.ok (J c3) w:=fun w=>by kernel_rfl
 have B1:KB 56 #[Y mu,J (-2199023255552),J 2199023255552] (.bool (decide (mu%9223372036854775808<=4787326403894837248))):=nV H HI hm _ _ _ _ om om om om H.k1 H.k2 U1 _ e1.symm;have B2:KB 56 #[Y inv,J 1,J 2] (.bool (decide (qo<=inv)&&decide (inv<=4607182418800017408))):=nV H HI hi _ _ _ _ om om om om H.k3 H.k4 U2 _ e2.symm;obtain⟨b3,hb3⟩:∃b,(!decide (1<c3)&&(decide (0<=tZ scale 0)&&decide (tZ scale 4607182418800017408<=0)))=b:=⟨_,rfl⟩;have B3:KB 56 #[Y scale,J 0,J 2] (.bool b3):=nV H HI hs _ _ _ _ om om om om H.k5 H.k4 U3 _ hb3.symm;rw[hb3]at e3;unfold isC at hn;rw[<-e3]at hn;clear e1 e2 e3 hb3 u1 u2 u3 U1 U2 H HI;generalize decide (mu%9223372036854775808<=4787326403894837248)=b1 at*
 generalize(decide (qo<=inv)&&decide (inv<=4607182418800017408))=b2 at*
 rcases(show((20000:Int)<s.size\/(¬(20000:Int)<s.size/\b1=false)\/(¬(20000:Int)<s.size/\b1=true/\b2=false)\/(¬(20000:Int)<s.size/\b1=true/\b2=true/\b3=false)\/(¬(20000:Int)<s.size/\b1=true/\b2=true/\b3=true/\c3=0)) by
  rcases(show(20000:Int)<s.size\/¬(20000:Int)<s.size by omega)with h|h
  ·exact .inl h
  ·refine .inr ?_;have h':s.size<=20000:=om;cases b1
   ·exact .inl ⟨h,rfl⟩
   ·cases b2
    ·exact .inr (.inl ⟨h,rfl,rfl⟩)
    ·cases b3
     ·exact .inr (.inr (.inl ⟨h,rfl,rfl,rfl⟩))
     ·refine .inr (.inr (.inr ⟨h,rfl,rfl,rfl,?_⟩));by_cases hc:c3=0
      ·exact hc
      ·exact absurd ⟨h',by simp[hc]⟩ hn)with h|⟨h,rfl⟩|⟨h,rfl,rfl⟩|⟨h,rfl,rfl,rfl⟩|⟨h,rfl,rfl,rfl,rfl⟩
 ·clear hn;go_enter func21,ntmps21;go_wp2;go_returns;exact⟨rfl,kg⟩
 all_goals
  clear hn;go_enter func21,ntmps21;go_wp2_with (first
   |(go_at_call 56;first|(with_reducible refine ku (B1.out _) fun w1 ak=>?_;have kK:=ak.FW w)|(with_reducible refine ku (B2.out _) fun w2 aA=>?_;have kK:=aA.FW w)|(with_reducible refine ku (B3.out _) fun w3 aF=>?_;have kK:=aF.FW w))
   |(go_at_call 57;refine ku (U3 _) fun w4 aI=>?_;have kK:=aI.FW w))
  exact dA (by simp[results,Tryz.results21,go_sem,kK])
set_option maxRecDepth 1000000
theorem Ht{mu inv scale:Int}(h:isC mu inv scale=true):decide (mu%9223372036854775808<=4787326403894837248)=true/\(decide (qo<=inv)&&decide (inv<=4607182418800017408))=true/\(decide (0<scale)&&decide (scale<=4607182418800017408))=true:=by
 unfold isC at h;rw[Bool.and_eq_true,Bool.and_eq_true]at h;exact⟨h.1.1,h.1.2,h.2⟩
structure Mid (w:World) (b g:Nat) (u k:Int):Prop where
 c0:aj w g 0 (J 0)
 c1:aj w g 1 (J 0)
 c2:aj w g 2 (J u)
 c3:aj w g 3 (J k)
 z0:bK w g 0
 z1:bK w g 1
 z2:bK w g 2
 z3:bK w g 3
 r0:aj w b 0 (J 0)
 r1:aj w b 1 (J 0)
 r2:aj w b 2 (J 0)
 r3:aj w b 3 (J 0)
 y0:bK w b 0
 y1:bK w b 1
 y2:bK w b 2
 y3:bK w b 3
theorem Mid.gb{w w':World}{b g:Nat}{u k:Int}(h:Mid w b g u k)(hg:Gb w w'):Mid w' b g u k:=
 ⟨hg.old h.c0,hg.old h.c1,hg.old h.c2,hg.old h.c3,hg.AQ h.c0 h.z0,hg.AQ h.c1 h.z1,hg.AQ h.c2 h.z2,hg.AQ h.c3 h.z3,hg.old h.r0,hg.old h.r1,hg.old h.r2,hg.old h.r3,hg.AQ h.r0 h.y0,hg.AQ h.r1 h.y1,hg.AQ h.r2 h.y2,hg.AQ h.r3 h.y3⟩
theorem Mid.next{w:World}{b g:Nat}{u k:Int}(h:Mid w b g u k)(hb:g≠b)(u' k':Int):Mid ((w.setCell ⟨g,2,none⟩ (J u')).setCell ⟨g,3,none⟩ (J k')) b g u' k':=
  ⟨aQ de (aQ de h.c0),aQ de (aQ de h.c1),aQ de (bU (iG h.c2)),bU (has_set (iG h.c3)),
   bD (bD h.z0),bD (bD h.z1),bD (bD h.z2),bD (bD h.z3),
   aH hb (aH hb h.r0),aH hb (aH hb h.r1),aH hb (aH hb h.r2),aH hb (aH hb h.r3),bD (bD h.y0),bD (bD h.y1),bD (bD h.y2),bD (bD h.y3)⟩
structure Rs (w:World) (b:Nat):Prop where
 r0:aj w b 0 (J 0)
 r1:aj w b 1 (J 0)
 r2:aj w b 2 (J 0)
 r3:aj w b 3 (J 0)
 y0:bK w b 0
 y1:bK w b 1
 y2:bK w b 2
 y3:bK w b 3
theorem Rs.gb{w w':World}{b:Nat}(h:Rs w b)(hg:Gb w w'):Rs w' b:=
 ⟨hg.old h.r0,hg.old h.r1,hg.old h.r2,hg.old h.r3,hg.AQ h.r0 h.y0,hg.AQ h.r1 h.y1,hg.AQ h.r2 h.y2,hg.AQ h.r3 h.y3⟩
theorem Yi(w:World):Rs (w.alloc (.cells #[J 0,J 0,J 0,J 0] 35)) w.heap.size:=
 ⟨kb,kb,kb,kb,kb,kb,kb,kb⟩
theorem aBF{w:World}{b:Nat}(h:Rs w b)(v:Int):b<w.heap.size/\Mid (w.alloc (.cells #[J 0,J 0,J 0,J 0] 35)) b w.heap.size 0 0:=by
 obtain⟨r0,r1,r2,r3,y0,y1,y2,y3⟩:=h;exact⟨au r0,⟨kb,kb,kb,kb,kb,kb,kb,kb,kb,kb,kb,kb,kb,kb,kb,kb⟩⟩
theorem aB2{w:World}{b:Nat}(h:Rs w b)(v0 v1 v2 v3:Value):let w':=(((w.setCell ⟨b,0,none⟩ v0).setCell ⟨b,1,none⟩ v1).setCell ⟨b,2,none⟩ v2).setCell ⟨b,3,none⟩ v3
  aj w' b 0 v0/\aj w' b 1 v1/\aj w' b 2 v2/\aj w' b 3 v3:=
 ⟨aQ de (aQ de (aQ de (bU (iG h.r0)))),aQ de (aQ de (bU (has_set (iG h.r1)))),aQ de (bU (has_set (has_set (iG h.r2)))),bU (has_set (has_set (has_set (iG h.r3))))⟩
theorem Mid.rs{w:World}{b g:Nat}{u k:Int}(h:Mid w b g u k)(hb:g≠b)(o:Nat)(v:Value):Rs (w.setCell ⟨g,o,none⟩ v) b:=
 ⟨aH hb h.r0,aH hb h.r1,aH hb h.r2,aH hb h.r3,bD h.y0,bD h.y1,bD h.y2,bD h.y3⟩
theorem ZI{w x:World}{b g:Nat}(h:Gb w x)(hb:w.heap.size<=b)(hg:w.heap.size<=g)(o:Nat)(v v0 v1 v2 v3:Value):Gb w (((((x.setCell ⟨g,o,none⟩ v).setCell ⟨b,0,none⟩ v0).setCell ⟨b,1,none⟩ v1).setCell ⟨b,2,none⟩ v2).setCell ⟨b,3,none⟩ v3):=
 ((((h.setCell hg _).setCell hb _).setCell hb _).setCell hb _).setCell hb _
def lG(w:World)(g:Nat):Nat:=match w.cell? ⟨g,2,none⟩with
 |some (.int _ u)=>u.toNat
 |_=>0
theorem I4{o:O7}(H:o.S)(HI:o.In){mu inv scale:Int}(hm:Wo mu)(hi:Wo inv)(hs:Wo scale)(s:ByteArray)(hz:s.size<=20000)(hn:isC mu inv scale=true)(w:World):
  CT 21 #[Y mu,Y inv,Y scale,.string s] w fun e w'=>∃r,Tried (o.oH mu inv scale s) (o.OH mu s) s.size r/\e=.returned (tY r)/\Gb w w':=by
 have hf:=nC;obtain⟨i1,i2,i3⟩:=Ht hn;obtain⟨c1,s1,x1,g1,u1,U1⟩:=H.unp hm;obtain⟨c2,s2,x2,g2,u2,U2⟩:=H.unp hi;obtain⟨c3,s3,x3,g3,u3,U3⟩:=H.unp hs;have e1:=aHh hm u1;have e2:=aEa hi u2;have e3:=aHg hs u3;rw[i1]at e1;rw[i2]at e2;rw[i3,Bool.and_eq_true]at e3;have hf3:∀w,(Instr.field 80 (eH c3 s3 x3 g3) 0).run Tryz.prog w=.ok (J c3) w:=fun w=>by kernel_rfl
 have B1:KB 56 #[Y mu,J (-2199023255552),J 2199023255552] (.bool true):=nV H HI hm _ _ _ _ om om om om H.k1 H.k2 U1 _ e1.symm;have B2:KB 56 #[Y inv,J 1,J 2] (.bool true):=nV H HI hi _ _ _ _ om om om om H.k3 H.k4 U2 _ e2.symm;have B3:KB 56 #[Y scale,J 0,J 2] (.bool true):=nV H HI hs _ _ _ _ om om om om H.k5 H.k4 U3 _ e3.1.symm;have hc3:(c3==0)=false:=by have:=e3.2;simpa using this
 have hsz:¬(20000:Int)<s.size:=om;have sc:0<=scale/\scale<9223372036854775808:=by rw[Bool.and_eq_true,decide_eq_true_eq,decide_eq_true_eq]at i3;omega
 have HR:Hid (∀w,CT 58 #[J 1,J 4,Y mu,.bool false] w fun e w'=>∃fl:Int,e=.returned (aK (o.iT mu) fl)/\Gb w w'):=H.iT.out mu hm;have HA:KB 59 #[Y mu,Y (o.iT mu)] (Y (o.above mu)):=H.minus.out _ _ hm (HI.iT hm);have OD:KB 42 #[Y inv,Y inv] (Y (o.mul inv inv)):=H.times.out _ _ hi hi;have OC:KB 42 #[Y (o.mul inv inv),Y qo] (Y (o.narrow inv)):=H.times.out _ _ (HI.mul hi hi) (Wo.c _);have HH:=H.half;have hr:=HI.sub hm (HI.iT hm);have hh:=HI.mul (HI.mul hi hi) (Wo.c qo);have HT:Hid (∀w,CT 63 #[J 1,J 0,J 1,Y (o.iT mu)] w fun e w'=>∃fl:Int,e=.returned (aK (o.whole (o.iT mu)) fl)/\Gb w w'):=H.whole.out _ (HI.iT hm);have HX:Hid (∀k,17*k+17<=s.size->∀w,QB 62 #[J (OG (iO (num s (17*k) 8)) (j_ s (17*k+8))),J (iO (num s (17*k) 8):Nat),Y (o.above mu),Y (o.narrow inv),Y scale,Y (num s (17*k+9) 8)] w (.bool (o.oH mu inv scale s k))):=fun k hk w=>by
  have n:=zM (num s (17*k) 8);have zz:=OM _ (j_ s (17*k+8)) n;exact Wu H HI _ _ n zz.1 zz.2 hr hh sc.1 sc.2 (GY s _) w
 have HZ:Hid (∀k,o.OH mu s k=wrap64 (OG (iO (num s (17*k) 8)) (j_ s (17*k+8))+wrap64 (o.whole (o.iT mu)))):=fun k=>rfl;generalize o.whole (o.iT mu)=T at*
 generalize o.oH mu inv scale s=acc at*
 generalize o.OH mu s=zz at*
 generalize o.narrow inv=h at*
 generalize o.above mu=r at*
 generalize o.mul inv inv=ii at*
 generalize o.iT mu=rm at*
 clear H HI hn i1 i2 i3 u1 u2 u3 U1 U2 e1 e2 e3 hm hi hs sc hr hh;go_enter func21,ntmps21;go_upto_region 4 with(first
   |(go_at_call 56;first|(with_reducible refine ku (B1.out _) fun w1 ak=>?_)|(with_reducible refine ku (B2.out _) fun w2 aA=>?_)|(with_reducible refine ku (B3.out _) fun w3 aF=>?_))
   |(go_at_call 57;refine ku (U3 _) fun w4 aI=>?_))
 have G4:Hid (Gb (w.alloc (.cells #[J 0,J 0,J 0,J 0] 35)) w4):=(show Gb _ w4 from kg);clear ak aA aF aI;go_upto_region 5 with(go_at_call 58;refine(HR _).mono ?_;rintro e w5 ⟨f5,rfl,aT⟩);go_upto_region 6 with(go_at_call 59;refine ku (HA _) fun w6 b_=>?_);go_upto_region 7 with(first
   |(go_at_call 42;first|(with_reducible refine ku (OD.out _) fun w7 fQ=>?_)|(with_reducible refine ku (OC.out _) fun w9 aV=>?_))
   |(go_at_call 44;refine ku (HH _) fun w8 pI=>?_))
 have G9:Hid (Gb (w.alloc (.cells #[J 0,J 0,J 0,J 0] 35)) w9):=(show Gb _ w9 from by have:=G4.out;exact kg);clear aT b_ fQ pI aV;go_wp2;clear HA OD OC HH HR B1 B2 B3 U3 hf3;obtain⟨hbg,hM0⟩:=aBF ((Yi w).gb G9.out) 0;have WZ:Hid _:=hM0;have G0:Hid (Gb w w9):=(show Gb w w9 from by have:=G9.out;exact kg);clear hM0 G4 G9;obtain⟨g,hg⟩:∃g,w9.heap.size=g:=⟨_,rfl⟩;rw[hg]at hbg WZ⊢
 have hgb:g≠w.heap.size:=om;obtain⟨b,hwb⟩:∃b,w.heap.size=b:=⟨_,rfl⟩;rw[hwb]at hbg WZ hgb⊢
 go_loopw [14] (fun _ wr=>∃k:Nat,17*k<=s.size/\(∀j,j<k->acc j=false)/\Mid wr b g (17*(k:Int)) k/\Gb w9 wr) (fun _ wr=>s.size+17-lG wr g)
 case atStart=>exact⟨0,om,fun j hj=>absurd hj om,WZ.out,kg⟩
 case round=>
  obtain⟨k,hk,ha,hM,hG⟩:=hrel
  rename_i wr
  have HA:Hid (∀j,j<k->acc j=false):=ha;have HG:Hid (Gb w9 wr):=hG;obtain⟨u,hu⟩:∃u:Int,17*(k:Int)=u:=⟨_,rfl⟩;rw[hu]at hM;have HM:Hid (Mid wr b g u k):=hM;have p2:=hM.c2;have HU:Hid (lG wr g=u.toNat):=by show _=_;simp only[lG,p2]
  clear ha hG WZ;by_cases hle:u+17<=(s.size:Int)
  ·have hn:=zM (num s (17*k) 8);have hnum:=GY s (17*k);have D1:KW 61 #[.string s,J u] (Y (num s (17*k) 8)):=fun w=>by rw[<-hu];exact ZU s (17*k) om om w
   have D2:KW 61 #[.string s,J (u+9)] (Y (num s (17*k+9) 8)):=fun w=>by rw[<-hu];exact ZU s (17*k+9) om om w
   have HB:KR 60 #[Y (num s (17*k) 8)] (J (iO (num s (17*k) 8):Nat)):=aFB _ hnum.1 hnum.2;have q:∀w,(Instr.index 9 (.string s) (J (u+8))).run Tryz.prog w=.ok (.int .u8 (j_ s (17*k+8))) w:=fun w=>by rw[<-hu];exact Dt s (17*k+8) om w
   have hby:=yw s (17*k+8);have HXk:=HX k om;have HZk:=HZ k;have hzd:OG (iO (num s (17*k) 8)) (j_ s (17*k+8))=if j_ s (17*k+8)%2=1 then((iO (num s (17*k) 8):Nat):Int)+1 else-((iO (num s (17*k) 8):Nat):Int):=rfl
   generalize iO (num s (17*k) 8)=n at*
   generalize num s (17*k) 8=uu at*
   generalize num s (17*k+9) 8=vv at*
   generalize j_ s (17*k+8)=cc at*
   obtain⟨zv,hzv⟩:∃zv,OG n cc=zv:=⟨_,rfl⟩;rw[hzv]at hzd HXk HZk;have HXX:Hid _:=HXk;have HZZ:Hid _:=HZk;have HN:Hid (17*(k+1)<=s.size):=(show _<=_ by omega);clear HXk HZk HX HZ hzv hnum;rcases(show(cc%2=1/\zv=(n:Int)+1)\/(cc%2=0/\zv=-(n:Int)) by
    by_cases h:cc%2=1
    ·exact .inl ⟨h,by rw[hzd,if_pos h]⟩
    ·exact .inr ⟨om,by rw[hzd,if_neg h]⟩)with⟨hc2,rfl⟩|⟨hc2,rfl⟩
   all_goals
    clear hzd hM;go_upto_region 10 with(first
     |(go_at_call 61;refine(D1 _).mono ?_;rintro e w' ⟨rfl,hw⟩;subst hw)
     |(go_at_call 60;refine ku (HB _) fun wa xH=>?_))
    have WE:Hid (Mid wa b g u k):=HM.out.gb xH.gb;have HGa:Hid (Gb w9 wa):=HG.out.trans xH.gb;have pa2:=WE.out.c2;have pa3:=WE.out.c3;have za2:=WE.out.z2;have za3:=WE.out.z3;clear p2 HM HG xH;go_upto_region 14 with(go_at_call 61;refine(D2 _).mono ?_;rintro e w' ⟨rfl,hw⟩;subst hw);cases hacc:acc k
    ·rw[hacc]at HXX;go_wp2_with (go_at_call 62;refine ku (HXX _) fun wb oG=>?_);have hMb:=(WE.out.next hgb (u+17) ((k:Int)+1)).gb oG;go_roundw
     case rel=>
      refine⟨k+1,HN.out,fun j hj=>?_,by rw[show 17*((k+1:Nat):Int)=u+17 by omega];exact hMb,by have:=HGa.out;exact kg⟩;rcases Nat.lt_or_ge j k with h|h
      ·exact HA j h
      ·obtain rfl:j=k:=om;exact hacc
     case measure=>
      have h1:=HU.out;have p2:=hMb.c2;have h2:lG wb g=(u+17).toNat :=by simp only[lG,p2]
      show s.size+17-lG wb g<s.size+17-lG wr g;omega
    ·rw[hacc]at HXX;go_upto_region 17 with(go_at_call 62;refine ku (HXX _) fun wb oG=>?_);have WC:Hid (Mid wb b g (u+17) ((k:Int)+1)):=(WE.out.next hgb (u+17) ((k:Int)+1)).gb oG;have HGb:Hid (Gb w9 wb):=(show Gb w9 wb from by have:=HGa.out;exact kg);clear WE HGa pa2 pa3 za2 za3 oG;go_upto_region 18 with(go_at_call 63;refine(HT _).mono ?_;rintro e wc ⟨f6,rfl,Zx⟩;have HMc:Hid (Mid wc b g (u+17) ((k:Int)+1)):=WC.out.gb Zx;obtain⟨p0,p1,p2,p3,pz0,pz1,pz2,pz3,r0,r1,r2,r3,rz0,rz1,rz2,rz3⟩:=HMc.out);clear WC HT HU HXX HB D1 D2 q;go_wp2;have hw:zz k=wrap64 (_+wrap64 T):=HZZ.out;rw[<-hw];obtain⟨e0,e1,e2,e3⟩:=aB2 (HMc.out.rs hgb 1 (J (zz k))) (J 0) (J (zz k)) (J (u+17)) (J ((k:Int)+1));refine bodyPost_ret (v:=tY ⟨0,zz k,u+17,(k:Int)+1⟩) (by simp[results,Tryz.results21,go_sem,e0,e1,e2,e3]) rfl ⟨_,.inl ⟨k,by have:=HN.out;omega,hacc,HA.out,by rw[<-hu]⟩,rfl,?_⟩;exact ZI (G0.out.trans (HGb.out.trans Zx)) om om _ _ _ _ _ _
  ·have HN:Hid (s.size<17*k+17):=(show _<_ by omega);clear HX HZ HT;obtain⟨p0,p1,p2,p3,pz0,pz1,pz2,pz3,r0,r1,r2,r3,rz0,rz1,rz2,rz3⟩:=hM;go_wp2;obtain⟨e0,e1,e2,e3⟩:=aB2 (HM.out.rs hgb 0 (J 2)) (J 2) (J 0) (J u) (J k);refine bodyPost_ret (v:=tY ⟨2,0,u,(k:Int)⟩) (by simp[results,Tryz.results21,go_sem,e0,e1,e2,e3]) rfl ⟨_,.inr ⟨k,HN.out,hk,HA.out,by rw[<-hu]⟩,rfl,?_⟩;exact ZI (G0.out.trans HG.out) om om _ _ _ _ _ _
