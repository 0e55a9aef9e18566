import Derived.Test.YtnbbfeknbfohhaaGreatDoorDa
import Derived.BigQuiet
import Derived.WalkSmall
import Derived.Deep.QuietTactic
import Derived.Test.YtnbbfeknbfohhaaGreatDoorB0
set_option linter.unusedVariables false
set_option linter.unusedSimpArgs false
set_option maxRecDepth 1000000
set_option maxHeartbeats 40000000
open Go.Value renaming int → J
open Go.IntKind renaming i64 → Y
open Go.Proofs.Tryz
namespace Go.Proofs.YtnbbfeknbfohhaaGreatDoor
open Go.RowKit
theorem aIE{w0:World}{a:Option Addr}{len:Nat}{c:Nat→Int}(cap:Nat)(h0:rD w0 a len c)(p:Nat)(f:Int)(hf:f=0∨f=1)(hp:p≤900):
  ∃v:Int,bn v∧Hid (∀w,rD w a len c→QW 214 #[.slice a len cap,J Y p,J Y f] w (.tuple #[J .u64 v,J Y ((p+2:Nat):Int)])):=by
 obtain⟨how,c0,c1,T1⟩:=iZ cap h0 p 16 om om om
 obtain⟨d,d0,d1,T2⟩:=iZ cap h0 (p+1) 256 om om om
 clear h0
 obtain⟨mx,pp,hm,HM,HP⟩:∃mx pp:Int,(mx=127∨mx=1023)∧Hid ((24≤pp∧pp≤53)∧∀w,QW 153 #[J Y f] w (J Y mx))∧KW 115 #[J Y f] (J Y pp):=by
  rcases hf with rfl|rfl
  ·exact⟨127,24,.inl rfl,⟨om,fun w=>wF (.inl ⟨rfl,rfl,rfl,rfl,rfl,rfl,rfl⟩) w⟩,fun w=>lD (.inl ⟨rfl,rfl,rfl,rfl,rfl,rfl,rfl⟩) w⟩
  ·exact⟨1023,53,.inr rfl,⟨om,fun w=>wF aCH w⟩,fun w=>lD aCH w⟩
 have hpp:=HM.out.1
 clear hf
 rcases hm with rfl|rfl<;>rcases(show how<9∨how=9∨how=10∨how=11∨how=12∨how=13∨how=14∨how=15 by omega)with k|rfl|rfl|rfl|rfl|rfl|rfl|rfl
 all_goals
  apply Exists.intro
  refine⟨?_,fun w hC=>?_⟩
  rotate_left 1
  ·have HC:Hid (rD w a len c):=hC
   clear hC
   go_enter func214,ntmps214
   go_upto_region 3 with(go_at_call 48;refine(T1.out _ HC.out).mono ?_;rintro x w' ⟨rfl,hw⟩;subst hw)
   go_upto_region 4 with(go_at_call 48;refine(T2.out _ HC.out).mono ?_;rintro x w' ⟨rfl,hw⟩;subst hw)
   go_upto_region 5 with(go_at_call 153;refine(HM.out.2 _).mono ?_;rintro x w' ⟨rfl,hw⟩;subst hw)
   go_wp2_with (go_at_call 115;refine(HP.out _).mono ?_;rintro x w' ⟨rfl,hw⟩;subst hw)
   go_returns
   refine⟨?_,rfl⟩
   simp[go_sem]
   exact⟨rfl,om⟩
  all_goals (unfold bn;first|omega|(simp only[IntKind.wrap_u64];omega))
theorem aGx{f p mx one inf sg nan:Int}(h:aI f p mx one inf sg nan)(s v:Int)(hs:s=0∨s=1)(hv:bn v):
  ∃z:Int,bn z∧KW 151 #[J Y f,J Y s,J .u64 v] (J .u64 z):=by
 have HS:KW 111 #[J Y f] (J .u64 sg):=fun w=>dM h w
 clear h
 obtain⟨v0,v1⟩:=hv
 rcases hs with rfl|rfl
 ·refine⟨v,⟨v0,v1⟩,fun w=>?_⟩
  go_enter func151,ntmps151
  go_wp2
  go_returns
  exact⟨rfl,rfl⟩
 ·refine⟨IntKind.u64.wrap (v+sg),by unfold bn;rw[IntKind.wrap_u64];omega,fun w=>?_⟩
  go_enter func151,ntmps151
  go_wp2_with (go_at_call 111;refine(HS.out _).mono ?_;rintro x w' ⟨rfl,hw⟩;subst hw)
  go_returns
  exact⟨rfl,rfl⟩
theorem aHJ{f p mx one inf sg nan:Int}(h:aI f p mx one inf sg nan){w0:World}{a:Option Addr}{len:Nat}{c:Nat→Int}(cap:Nat)(h0:rD w0 a len c)(k:Nat)(hp:k≤800):
  ∃(v:Int) (j:Nat),bn v∧j≤k+20∧Hid (∀w,rD w a len c→QW 165 #[.slice a len cap,J Y k,J Y f] w (.tuple #[J .u64 v,J Y j])):=by
 obtain⟨e,he,HE⟩:=aIE cap h0 k f (by rcases h with h|h<;>omega) om
 have HP:KW 115 #[J Y f] (J Y p):=fun w=>lD h w
 obtain⟨p1,hp1⟩:∃p1:Int,p-1=p1:=⟨_,rfl⟩
 obtain⟨p2,hp2⟩:∃p2:Int,p-2=p2:=⟨_,rfl⟩
 have H1:KW 114 #[J Y p1] (J .u64 one):=fun w=>hp1▸mQ h w
 have H2:∃hf:Int,bn hf∧KW 114 #[J Y p2] (J .u64 hf):=by
  rw[←hp2]
  rcases h with⟨rfl,rfl,rfl,rfl,rfl,rfl,rfl⟩|⟨rfl,rfl,rfl,rfl,rfl,rfl,rfl⟩
  ·exact⟨4194304,by unfold bn;omega,fun w=>mP 22 _ om de w⟩
  ·exact⟨2251799813685248,by unfold bn;omega,fun w=>mP 51 _ om de w⟩
 obtain⟨hf,hfb,H2⟩:=H2
 obtain⟨n,hn,UW⟩:∃n:Nat,p-1=(n:Int)∧n≤64:=⟨(p-1).toNat,by rcases h with h|h<;>omega,by rcases h with h|h<;>omega⟩
 obtain⟨fr,j,hfr,hj,HB⟩:=aGI n UW cap h0 (k+2) om
 rw[←hn,hp1]at HB
 obtain⟨d,d0,d1,T1⟩:=iZ cap h0 j 12 om om om
 obtain⟨s,s0,s1,T2⟩:=iZ cap h0 (j+1) 2 om om om
 have hob:0<one∧one≤4503599627370496∧24≤p∧p≤53:=by rcases h with h|h<;>omega
 --the fraction
 obtain⟨g,hg⟩:∃g:Int,d=0∧g=0∨d=1∧g=one-1∨d=2∧g=hf∨d=3∧g=1∨((d==0)=false∧(d==1)=false∧(d==2)=false∧(d==3)=false)∧g=fr:=by
  by_cases e0:d=0
  ·exact⟨_,.inl ⟨e0,rfl⟩⟩
  ·by_cases e1:d=1
   ·exact⟨_,.inr (.inl ⟨e1,rfl⟩)⟩
   ·by_cases e2:d=2
    ·exact⟨_,.inr (.inr (.inl ⟨e2,rfl⟩))⟩
    ·by_cases e3:d=3
     ·exact⟨_,.inr (.inr (.inr (.inl ⟨e3,rfl⟩)))⟩
     ·exact⟨_,.inr (.inr (.inr (.inr ⟨by simp;omega,rfl⟩)))⟩
 obtain⟨t,ht⟩:∃t,IntKind.u64.wrap (IntKind.u64.wrap (e*one)+g)=t:=⟨_,rfl⟩
 have hU:bn t:=by rw[←ht];unfold bn;rw[IntKind.wrap_u64];omega
 obtain⟨z,hz,mM⟩:=aGx h s t om hU
 refine⟨z,j+1+1,hz,om,fun w hC=>?_⟩
 have HC:Hid (rD w a len c):=hC
 clear hC h h0 hn hz hU
 unfold bn at he hfr hfb
 have ho:IntKind.u64.wrap (one-1)=one-1:=wu
 have HT:Hid (IntKind.u64.wrap (IntKind.u64.wrap (e*one)+g)=t):=ht
 have H0:Hid (g=0→IntKind.u64.wrap (IntKind.u64.wrap (e*one))=t):=fun h=>by rw[h,Int.add_zero]at ht;exact ht
 clear ht
 rcases hg with⟨rfl,rfl⟩|⟨rfl,rfl⟩|⟨rfl,rfl⟩|⟨rfl,rfl⟩|⟨⟨k0,k1,k2,k3⟩,rfl⟩
 all_goals
  first|(have HZ:Hid (IntKind.u64.wrap (IntKind.u64.wrap (e*one))=t):=H0.out rfl)|skip
  clear H0
  go_enter func165,ntmps165
  go_upto_region 3 with(go_at_call 214;refine(HE.out _ HC.out).mono ?_;rintro x w' ⟨rfl,hw⟩;subst hw)
  go_upto_region 4 with(first|(go_at_call 115;refine(HP.out _).mono ?_;rintro x w' ⟨rfl,hw⟩;subst hw)|(go_at_call 163;refine(HB.out _ HC.out).mono ?_;rintro x w' ⟨rfl,hw⟩;subst hw))
  go_upto_region 5 with(go_at_call 48;refine(T1.out _ HC.out).mono ?_;rintro x w' ⟨rfl,hw⟩;subst hw)
  go_upto_region 6 with(go_at_call 48;refine(T2.out _ HC.out).mono ?_;rintro x w' ⟨rfl,hw⟩;subst hw)
  go_wp2_with (first
   |(go_at_call 115;refine(HP.out _).mono ?_;rintro x w' ⟨rfl,hw⟩;subst hw)
   |(go_at_call 114;first|(with_reducible refine(H1.out _).mono ?_;rintro x w' ⟨rfl,hw⟩;subst hw)|(with_reducible refine(H2.out _).mono ?_;rintro x w' ⟨rfl,hw⟩;subst hw))
   |(go_at_call 151;(first|rw[HT.out]|rw[HZ.out]);refine(mM.out _).mono ?_;rintro x w' ⟨rfl,hw⟩;subst hw))
  go_returns
  refine⟨?_,rfl⟩
  simp[go_sem]
theorem aHb{w0:World}{a:Option Addr}{len:Nat}{c:Nat→Int}(cap:Nat)(h0:rD w0 a len c)(k:Nat)(f:Int)(hp:k≤700):
  ∃(v:Int) (j:Nat),bn v∧j≤k+21∧Hid (∀w,rD w a len c→QW 175 #[.slice a len cap,J Y k,J Y f] w (.tuple #[J .u64 v,J Y j])):=by
 have HT:KW 114 #[J Y 33] (J .u64 8589934592):=fun w=>mP 33 _ om de w
 obtain⟨g,hg,v,j,hv,hj,HW⟩:∃g:Int,(f=0∧g=0∨(f==0)=false∧g=1)∧∃(v:Int) (j:Nat),bn v∧j≤k+20∧Hid (∀w,rD w a len c→QW 165 #[.slice a len cap,J Y k,J Y g] w (.tuple #[J .u64 v,J Y j])):=by
  by_cases h:f=0
  ·exact⟨0,.inl ⟨h,rfl⟩,aHJ (.inl ⟨rfl,rfl,rfl,rfl,rfl,rfl,rfl⟩) cap h0 k om⟩
  ·exact⟨1,.inr ⟨by simp[h],rfl⟩,aHJ aCH cap h0 k om⟩
 obtain⟨d,d0,d1,T1⟩:=iZ cap h0 j 50 om om om
 unfold bn at hv
 clear h0
 rcases hg with⟨rfl,rfl⟩|⟨hf0,rfl⟩<;>rcases(show d=49∨(d==49)=false by simp;omega)with rfl|k0
 all_goals
  apply Exists.intro
  refine⟨j+1,?_,om,fun w hC=>?_⟩
  rotate_left 1
  ·have HC:Hid (rD w a len c):=hC
   clear hC
   go_enter func175,ntmps175
   go_upto_region 6 with(go_at_call 165;refine(HW.out _ HC.out).mono ?_;rintro x w' ⟨rfl,hw⟩;subst hw)
   go_upto_region 7 with(go_at_call 48;refine(T1.out _ HC.out).mono ?_;rintro x w' ⟨rfl,hw⟩;subst hw)
   go_wp2_with (go_at_call 114;refine(HT.out _).mono ?_;rintro x w' ⟨rfl,hw⟩;subst hw)
   go_returns
   refine⟨?_,rfl⟩
   simp[go_sem]
   rfl
  all_goals (unfold bn;first|omega|(simp only[IntKind.wrap_u64];omega))
theorem aH6{P:Prop}(h:P:=by
 go_quiet (first|(go_at_call 111;refine Calls.quiet_of_same (bM HSg _))|(go_at_call 112;refine Calls.quiet_of_same (bM HIn _)))
 go_wp2
 go_returns
 refine⟨?_,by first|exact Gr.refl _|exact Gr.drewN (Gr.refl _) _|exact Gr.drew (Gr.refl _)⟩
 simp[go_sem]
 rfl):P:=h
theorem aG9{P:Prop}(h:P:=by
 apply Exists.intro
 refine⟨?_,fun w hC=>?_⟩
 rotate_left 1
 ·have HC:Hid (rD w a len c):=hC
  clear hC
  go_enter func166,ntmps166
  go_upto_region 2 with(go_at_call 184;refine(HF.out _ HC.out).mono ?_;rintro x w' ⟨rfl,hw⟩;subst hw)
  go_upto_region 3 with(go_at_call 48;refine(T1.out _ HC.out).mono ?_;rintro x w' ⟨rfl,hw⟩;subst hw)
  go_upto_region 4 with(go_at_call 48;refine(T2.out _ HC.out).mono ?_;rintro x w' ⟨rfl,hw⟩;subst hw)
  go_upto_region 5 with(go_at_call 175;refine(A1.out _ HC.out).mono ?_;rintro x w' ⟨rfl,hw⟩;subst hw)
  go_upto_region 6 with(go_at_call 175;refine(A2.out _ HC.out).mono ?_;rintro x w' ⟨rfl,hw⟩;subst hw)
  go_upto_region 8 with(go_at_call 110;refine(Ro.out _).mono ?_;rintro x w' ⟨rfl,hw⟩;subst hw)
  go_wp2
  go_returns
  refine⟨?_,by first|exact Gr.refl _|exact Gr.drewN (Gr.refl _) _|exact Gr.drew (Gr.refl _)⟩
  simp[go_sem]
  rfl
 ·unfold bn;first|omega|(simp only[IntKind.wrap_u64];omega)):P:=h
theorem aHa{P:Prop}(h:P:=by
 apply Exists.intro
 refine⟨?_,fun w hC=>?_⟩
 rotate_left 1
 ·have HC:Hid (rD w a len c):=hC
  clear hC
  go_enter func166,ntmps166
  go_upto_region 2 with(go_at_call 184;refine(HF.out _ HC.out).mono ?_;rintro x w' ⟨rfl,hw⟩;subst hw)
  go_upto_region 3 with(go_at_call 48;refine(T1.out _ HC.out).mono ?_;rintro x w' ⟨rfl,hw⟩;subst hw)
  go_upto_region 4 with(go_at_call 48;refine(T2.out _ HC.out).mono ?_;rintro x w' ⟨rfl,hw⟩;subst hw)
  go_upto_region 5 with(go_at_call 175;refine(A1.out _ HC.out).mono ?_;rintro x w' ⟨rfl,hw⟩;subst hw)
  go_upto_region 6 with(go_at_call 175;refine(A2.out _ HC.out).mono ?_;rintro x w' ⟨rfl,hw⟩;subst hw)
  go_upto_region 8 with(go_at_call 110;refine(Ro.out _).mono ?_;rintro x w' ⟨rfl,hw⟩;subst hw)
  go_upto_region 17 with(first|(go_at_call 115;refine(HP.out _).mono ?_;rintro x w' ⟨rfl,hw⟩;subst hw)|(go_at_call 114;refine(HTw.out _).mono ?_;rintro x w' ⟨rfl,hw⟩;subst hw)|(go_at_call 170;refine(HTn.out _).mono ?_;rintro x w' ⟨rfl,hw⟩;subst hw))
  exact aH6
 ·unfold bn;first|omega|(simp only[IntKind.wrap_u64];omega)):P:=h
theorem aGv{P:Prop}(h:P:=by
 apply Exists.intro
 refine⟨?_,fun w hC=>?_⟩
 rotate_left 1
 ·have HC:Hid (rD w a len c):=hC
  clear hC
  go_enter func166,ntmps166
  go_upto_region 2 with(go_at_call 184;refine(HF.out _ HC.out).mono ?_;rintro x w' ⟨rfl,hw⟩;subst hw)
  go_upto_region 3 with(go_at_call 48;refine(T1.out _ HC.out).mono ?_;rintro x w' ⟨rfl,hw⟩;subst hw)
  go_upto_region 4 with(go_at_call 48;refine(T2.out _ HC.out).mono ?_;rintro x w' ⟨rfl,hw⟩;subst hw)
  go_upto_region 5 with(go_at_call 175;refine(A1.out _ HC.out).mono ?_;rintro x w' ⟨rfl,hw⟩;subst hw)
  go_upto_region 6 with(go_at_call 175;refine(A2.out _ HC.out).mono ?_;rintro x w' ⟨rfl,hw⟩;subst hw)
  go_upto_region 8 with(go_at_call 110;refine(Ro.out _).mono ?_;rintro x w' ⟨rfl,hw⟩;subst hw)
  go_upto_region 10 with(go_at_call 170;refine(HTn.out _).mono ?_;rintro x w' ⟨rfl,hw⟩;subst hw)
  exact aH6
 ·unfold bn;first|omega|(simp only[IntKind.wrap_u64];omega)):P:=h
theorem aGX(sg v:Int)(h:0<sg):∃z,(v<sg∧z=v+sg∨sg≤v∧z=v-sg):=by
 by_cases c:v<sg
 ·exact⟨_,.inl ⟨c,rfl⟩⟩
 ·exact⟨_,.inr ⟨om,rfl⟩⟩
theorem Gr.drewN{W w:World}(h:Gr W w)(n:Nat):Gr W (w.drewN n):=by
 obtain⟨⟨⟨a1,a2,a3⟩,b,c⟩,d⟩:=h
 exact⟨⟨⟨a1,a2,a3⟩,b,c⟩,below_drewN d n⟩
def Sml(f:Int):Prop:=-10≤f∧f≤10
theorem bM{F:Nat}{args:Array Value}{v:Value}(h:Hid (∀w,Calls Tryz.prog F args w fun e w'=>e=.returned v∧w=w'))(w:World):Calls Tryz.prog F args w fun e w'=>e=.returned v∧w'=w:=(h.out w).mono fun e w' h=>⟨h.1,h.2.symm⟩
theorem aGW{w0:World}{a:Option Addr}{len:Nat}{c:Nat→Int}(cap:Nat)(h0:rD w0 a len c)(p:Nat)(hp:p≤600):
  ∃(f m u v:Int) (j:Nat),Sml f∧Sml m∧bn u∧bn v∧j≤p+50∧Hid (∀w,rD w a len c→QR 166 #[.slice a len cap,J Y p] w (.tuple #[J Y f,J Y m,J .u64 u,J .u64 v,J Y j])):=by
 obtain⟨f,m,hf,hm,HF⟩:=aFD cap h0 p om
 obtain⟨hw8,h1,h2,T1⟩:=iZ cap h0 (p+2) 8 om om om
 obtain⟨x16,x0,x1,T2⟩:=iZ cap h0 (p+2+1) 16 om om om
 obtain⟨u,j1,hu,hj1,A1⟩:=aHb cap h0 (p+2+1+1) f om
 obtain⟨v,j2,hv,hj2,A2⟩:=aHb cap h0 j1 f om
 clear h0
 suffices h:∃v',bn v'∧Hid (∀w,rD w a len c→QR 166 #[.slice a len cap,J Y p] w (.tuple #[J Y f,J Y m,J .u64 u,J .u64 v',J Y j2])) by
  obtain⟨v',h',H⟩:=h
  exact⟨f,m,u,v',j2,hf,hm,hu,h',om,H⟩
 obtain⟨u0,u1⟩:=hu
 obtain⟨v0,v1⟩:=hv
 rcases aBa f u u0 u1 with⟨pp,mx,one,inf,sg,nan,hF,hu'⟩|hno
 ·have hb:=hF.bounds
  obtain⟨z,hz⟩:=aGX sg u om
  have Ro:KW 110 #[J Y f,J .u64 u] (.bool true):=fun w=>dB hF u u0 hu' w
  have HTn:KW 170 #[J Y f,J .u64 u] (J .u64 z):=fun w=>u_ hF u z u0 hu' hz w
  have HSg:KW 111 #[J Y f] (J .u64 sg):=fun w=>dM hF w
  have HIn:KW 112 #[J Y f] (J .u64 inf):=fun w=>dQ hF w
  have HP:KW 115 #[J Y f] (J Y pp):=fun w=>lD hF w
  obtain⟨p1,hp1⟩:∃p1:Int,pp-1=p1:=⟨_,rfl⟩
  have HTw:KW 114 #[J Y p1] (J .u64 one):=fun w=>hp1▸mQ hF w
  have z0:0≤z∧z<2*sg:=om
  obtain⟨r,hr⟩:∃r,z%sg=r:=⟨_,rfl⟩
  have hr':Int.tmod z sg=r:=by rw[Int.tmod_eq_emod_of_nonneg z0.1];exact hr
  have r0:0≤r:=by rw[←hr];exact Int.emod_nonneg _ om
  have r1:r<sg:=by rw[←hr];exact Int.emod_lt_of_pos _ om
  obtain⟨q,hq⟩:∃q,x16/4=q:=⟨_,rfl⟩
  obtain⟨st,hst⟩:∃st,one*q=st:=⟨_,rfl⟩
  obtain⟨y,hy⟩:∃y,r+st=y:=⟨_,rfl⟩
  clear hz hb
  rcases hF with⟨rfl,rfl,rfl,rfl,rfl,rfl,rfl⟩|⟨rfl,rfl,rfl,rfl,rfl,rfl,rfl⟩
  ·rcases(show(hw8=0∧8<r∧r<2139095032)∨(hw8=0∧r≤8)∨(hw8=0∧8<r∧2139095032≤r)∨(hw8=2∧y<2139095040)∨(hw8=2∧2139095040≤y)∨hw8=1∨((hw8==0)=false∧(hw8==1)=false∧(hw8==2)=false) by simp;omega)with⟨rfl,c1,c2⟩|⟨rfl,c1⟩|⟨rfl,c1,c2⟩|⟨rfl,c1⟩|⟨rfl,c1⟩|rfl|⟨k0,k1,k2⟩
   ·have d1:decide (8<r)=true:=decide_eq_true c1
    have d2:decide (r<2139095032)=true:=decide_eq_true c2
    exact aGv
   ·have d1:decide (8<r)=false:=decide_eq_false om
    exact aGv
   ·have d1:decide (8<r)=true:=decide_eq_true c1
    have d2:decide (r<2139095032)=false:=decide_eq_false om
    exact aGv
   ·have wy:IntKind.u64.wrap y=y:=wu
    have d1:decide (y<2139095040)=true:=decide_eq_true c1
    exact aHa
   ·have wy:IntKind.u64.wrap y=y:=wu
    have d1:decide (y<2139095040)=false:=decide_eq_false om
    exact aHa
   ·skip
    exact aG9
   ·skip
    exact aG9
  ·rcases(show(hw8=0∧8<r∧r<9218868437227405304)∨(hw8=0∧r≤8)∨(hw8=0∧8<r∧9218868437227405304≤r)∨(hw8=2∧y<9218868437227405312)∨(hw8=2∧9218868437227405312≤y)∨hw8=1∨((hw8==0)=false∧(hw8==1)=false∧(hw8==2)=false) by simp;omega)with⟨rfl,c1,c2⟩|⟨rfl,c1⟩|⟨rfl,c1,c2⟩|⟨rfl,c1⟩|⟨rfl,c1⟩|rfl|⟨k0,k1,k2⟩
   ·have d1:decide (8<r)=true:=decide_eq_true c1
    have d2:decide (r<9218868437227405304)=true:=decide_eq_true c2
    exact aGv
   ·have d1:decide (8<r)=false:=decide_eq_false om
    exact aGv
   ·have d1:decide (8<r)=true:=decide_eq_true c1
    have d2:decide (r<9218868437227405304)=false:=decide_eq_false om
    exact aGv
   ·have wy:IntKind.u64.wrap y=y:=wu
    have d1:decide (y<9218868437227405312)=true:=decide_eq_true c1
    exact aHa
   ·have wy:IntKind.u64.wrap y=y:=wu
    have d1:decide (y<9218868437227405312)=false:=decide_eq_false om
    exact aHa
   ·skip
    exact aG9
   ·skip
    exact aG9
 ·have Ro:KW 110 #[J Y f,J .u64 u] (.bool false):=fun w=>CG f u u0 hno w
  clear hno
  apply Exists.intro
  refine⟨?_,fun w hC=>?_⟩
  rotate_left 1
  ·have HC:Hid (rD w a len c):=hC
   clear hC
   go_enter func166,ntmps166
   go_upto_region 2 with(go_at_call 184;refine(HF.out _ HC.out).mono ?_;rintro x w' ⟨rfl,hw⟩;subst hw)
   go_upto_region 3 with(go_at_call 48;refine(T1.out _ HC.out).mono ?_;rintro x w' ⟨rfl,hw⟩;subst hw)
   go_upto_region 4 with(go_at_call 48;refine(T2.out _ HC.out).mono ?_;rintro x w' ⟨rfl,hw⟩;subst hw)
   go_upto_region 5 with(go_at_call 175;refine(A1.out _ HC.out).mono ?_;rintro x w' ⟨rfl,hw⟩;subst hw)
   go_upto_region 6 with(go_at_call 175;refine(A2.out _ HC.out).mono ?_;rintro x w' ⟨rfl,hw⟩;subst hw)
   go_wp2_with (go_at_call 110;refine(Ro.out _).mono ?_;rintro x w' ⟨rfl,hw⟩;subst hw)
   go_returns
   refine⟨?_,by first|exact Gr.refl _|exact Gr.drewN (Gr.refl _) _|exact Gr.drew (Gr.refl _)⟩
   simp[go_sem]
   rfl
  ·unfold bn;first|omega|(simp only[IntKind.wrap_u64];omega)
