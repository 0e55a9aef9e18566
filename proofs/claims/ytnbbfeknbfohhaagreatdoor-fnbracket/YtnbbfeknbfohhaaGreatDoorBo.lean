import Derived.Test.YtnbbfeknbfohhaaGreatDoorBm
import Derived.Test.YtnbbfeknbfohhaaGreatDoorBrL
import Derived.Test.YtnbbfeknbfohhaaGreatDoorG3
import Derived.Test.YtnbbfeknbfohhaaGreatDoorLb5
import Derived.Test.YtnbbfeknbfohhaaGreatDoorLa5
import Derived.Test.YtnbbfeknbfohhaaGreatDoorF2D
import Derived.Test.YtnbbfeknbfohhaaGreatDoorBp
import Derived.Test.YtnbbfeknbfohhaaGreatDoorDn5
import Derived.Test.YtnbbfeknbfohhaaGreatDoorDc
import Derived.Test.YtnbbfeknbfohhaaGreatDoorC2
import Derived.Test.YtnbbfeknbfohhaaGreatDoorC3
import Derived.Test.YtnbbfeknbfohhaaGreatDoorC5
import Derived.Test.YtnbbfeknbfohhaaGreatDoorFz
import Derived.Test.YtnbbfeknbfohhaaGreatDoorH5
import Derived.Test.YtnbbfeknbfohhaaGreatDoorH7
import Derived.Test.YtnbbfeknbfohhaaGreatDoorLv
set_option linter.unusedVariables false
set_option linter.unusedSimpArgs false
open Go.Value renaming int → J, agg → X
open Go.IntKind renaming i64 → Y, u64 → O
open Go.Proofs.Tryz
namespace Go.Proofs.YtnbbfeknbfohhaaGreatDoor
open Go.RowKit
theorem aHy(m:Int)(x y:bI):ou m x y=ou 0 x y∨(ou m x y).c =0∧(ou 0 x y).c =0:=by
 unfold ou
 split
 ·exact .inl rfl
 ·split
  ·exact .inr ⟨rfl,rfl⟩
  ·exact .inl rfl
theorem aF2(m:Int)(x y:bI):fM m x y=fM 0 x y∨(fM m x y).c =0∧(fM 0 x y).c =0:=by
 have ht:=aHy m x y
 unfold fM
 repeat' split
 all_goals first|exact .inl rfl|exact ht|exact .inr ⟨rfl,rfl⟩
theorem aHO(m:Int)(x y:bI)(hx:x.s=0∨x.s=1)(hy:y.s=0∨y.s=1):(ou m x y).s =0∨(ou m x y).s =1:=by
 have hn:(xX m).s =0∨(xX m).s =1:=by unfold xX;dsimp only;split<;>simp
 unfold ou
 repeat' split
 all_goals first|exact hx|exact hy|exact hn
theorem aGB(m:Int)(x y:bI)(hx:x.s=0∨x.s=1)(hy:y.s=0∨y.s=1):(fM m x y).s =0∨(fM m x y).s =1:=by
 have ht:=aHO m x y hx hy
 have hn:(xX m).s =0∨(xX m).s =1:=by unfold xX;dsimp only;split<;>simp
 unfold fM
 repeat' split
 all_goals first|exact hx|exact hy|exact ht|exact hn|exact .inl rfl
theorem aF4(x y:bI):(cu x y).s =0∨(cu x y).s =1:=by
 have hm:mulS x.s y.s=0∨mulS x.s y.s=1:=by unfold mulS;split<;>simp
 unfold cu
 repeat' split
 all_goals first|exact hm|exact .inl rfl
theorem aHQ{f p mx one inf sg nan mode s:Int}{M:Nat}{e:Int}{b:Bool}{z fl:Int}(h:aI f p mx one inf sg nan)(hr:aH p (1-mx) mx one inf mode s M e b z fl):0≤z∧z<sg:=by
 have hb:=h.bounds
 obtain⟨top,E,r,r2,hf,h1,h2,h3,h4,h5,h6⟩:=hr
 have hov:iw inf mode s=inf∨iw inf mode s=inf-1:=by unfold iw;split<;>simp
 have hE:0≤one*(E-(1-mx)):=Int.mul_nonneg om om
 rcases h6 with⟨_,rfl,_⟩|⟨_,_,rfl,_⟩|⟨_,h7,rfl,_⟩
 ·omega
 ·omega
 ·generalize one*(E-(1-mx))=Q at*
  omega
theorem aHC{f p mx one inf sg nan mode:Int}{o:bI}{Z fl:Int}(h:aI f p mx one inf sg nan)(hs:o.s=0∨o.s=1)(hp:ql p (1-mx) mx one inf sg nan mode o Z fl):0≤Z∧Z<2*sg:=by
 have hb:=h.bounds
 have hsw:∀z,0≤z→z<sg→0≤sw o.s sg z∧sw o.s sg z<2*sg:=by
  intro z z0 z1
  unfold sw
  split<;>omega
 rcases hp with(⟨_,rfl,_⟩|⟨_,z,hz,rfl⟩|⟨_,rfl,_⟩|⟨_,rfl,_⟩|⟨_,rfl,_⟩)|⟨_,rfl,_⟩
 ·exact hsw 0 om om
 ·have:=aHQ h hz
  exact hsw z this.1 this.2
 ·exact hsw inf om om
 ·omega
 ·omega
 ·exact hsw inf om om
theorem aHn{f p mx one inf sg nan:Int}(h:aI f p mx one inf sg nan){cl:Int}(hc:cl=4∨∃p mx one inf sg nan' x,aI f p mx one inf sg nan'∧nan<2*sg∧bZ p mx one inf sg nan' nan x∧cl=x.c):3≤cl:=by
 rcases hc with rfl|⟨p',mx',one',inf',TI,nan',x,hF,_,hx,rfl⟩
 ·decide
 ·obtain⟨rfl,rfl,rfl,rfl,rfl,rfl⟩:=h.one hF
  have hb:=h.bounds
  rcases hx with⟨_,v,hv,hu⟩|⟨_,rfl⟩
  ·omega
  ·decide
def BrC(f:Int)(Z fl:Nat→Int):Prop:=∃cl sg le:Int,KR 27 #[J Y f,J O (Z 0)] (J Y cl)∧
 (3≤cl∨¬3≤cl∧BrZ sg f Z∧BrX sg Z fl∨¬3≤cl∧BrZ sg f Z∧BrB sg Z fl le∧∃p mx one inf nan,aI f p mx one inf sg nan∧iL inf sg nan (Z 4) (Z 3)∧0≤Z 4∧Z 4<2*sg)
theorem aFX{f:Int}(hf:¬(f=0∨f=1))(Z fl:Nat→Int)(h0:0≤Z 0):BrC f Z fl:=
 ⟨4,0,0,fun w=>aGL f (Z 0) 4 0 0 0 (fun w=>aFU f (Z 0) h0 (.inl hf) w) w,.inl de⟩
theorem aGK{f p mx one inf sg nan:Int}(h:aI f p mx one inf sg nan)(Z fl:Nat→Int)(h0:Z 0=nan):BrC f Z fl:=by
 have hb:=h.bounds
 obtain⟨cl,H,hc⟩:=aG1 f (Z 0) om om
 refine⟨cl,0,0,H,.inl (aHn h ?_)⟩
 rw[h0]at hc
 exact hc
theorem aFY{f p mx one inf sg nan:Int}(h:aI f p mx one inf sg nan)(o:Int→bI)(Z fl:Int→Int)(hs:∀m,(o m).s =0∨(o m).s =1)(hO:∀m,0≤m→m≤4→o m=o 0∨(o m).c =0∧(o 0).c =0)(hp:∀m,0≤m→m≤4→ql p (1-mx) mx one inf sg nan m (o m) (Z m) (fl m)):
  BrC f (fun i=>Z i) (fun i=>fl i):=by
 have hb:=h.bounds
 have hu:∀m,0≤m→m≤4→0≤Z m∧Z m<2*sg:=fun m m0 m4=>aHC h (hs m) (hp m m0 m4)
 have u0:=hu 0 om om
 have aIs:∀{c:Int},(o 0).c =c→(c=3∨c=4)→Z 0=nan:=fun hc h34=>by
  rcases hp 0 om om with(⟨d,_⟩|⟨d,_⟩|⟨d,_⟩|⟨_,d,_⟩|⟨_,d,_⟩)|⟨d,_⟩
  ·omega
  ·omega
  ·omega
  ·exact d
  ·exact d
  ·omega
 rcases aHY h o Z fl hs hO hp with c|c|ok
 ·exact aGK h _ _ (aIs c (.inl rfl))
 ·exact aGK h _ _ (aIs c (.inr rfl))
 ·obtain⟨cl,H,_⟩:=aG1 f (Z 0) u0.1 om
  by_cases h3:3≤cl
  ·exact⟨cl,0,0,H,.inl h3⟩
  ·have hz:BrZ sg f (fun i=>Z i):=fun i hi w'=>aIp h (Z i) (hu i om om).1 w'
   have z0:bits .and Y 0 16=0:=de
   have z2:bits .and Y 2 16=0:=de
   have z16:bits .and Y 16 16=16:=de
   have z20:bits .and Y 20 16=16:=de
   have z24:bits .and Y 24 16=16:=de
   rcases ok with ok|⟨ok,hn,hl⟩
   ·refine⟨cl,sg,0,H,.inr (.inl ⟨h3,hz,fun i hi=>?_⟩)⟩
    obtain⟨hf,hv⟩:=ok i om om
    refine⟨by rcases hf with e|e<;>(dsimp only;rw[e];assumption),?_⟩
    by_cases e:Z i=Z 3
    ·exact .inl e
    ·rcases hv with k|k
     ·exact absurd k e
     ·exact .inr ⟨by simpa using e,k.1,k.2⟩
   ·have u4:=hu 4 om om
    refine⟨cl,sg,Z 2%sg,H,.inr (.inr ⟨h3,hz,⟨fun i hi=>?_,rfl,?_⟩,p,mx,one,inf,nan,h,hn,u4.1,u4.2⟩)⟩
    ·obtain⟨hf,hv⟩:=ok i om om
     refine⟨by rcases hf with e|e|e<;>(dsimp only;rw[e];assumption),?_⟩
     by_cases e:Z i=Z 3
     ·exact .inl e
     ·rcases hv with k|k
      ·exact absurd k e
      ·exact .inr ⟨by simpa using e,k⟩
    ·show Z 4%sg<Z 3%sg∧Z 2%sg=Z 4%sg∨¬Z 4%sg<Z 3%sg∧Z 2%sg=Z 3%sg
     omega
theorem Oc(x y:Int):(x==y)=decide (x=y):=by by_cases h:x=y<;>simp[h]
theorem aI3(a:Int)(a0:0≤a)(a1:a<18446744073709551616):∃s m:Int,(jK 0 a=true→s=eH 0 a∧m=((iH 0 a:Nat):Int))∧∀w,QR 267 #[X #[J .i32 (-2147483648),J .i32 2147483647],J O a] w (.tuple #[J Y s,J O m,.bool (jK 0 a)]):=by
 obtain⟨x,hx⟩:∃x,IntKind.i32.wrap a=x:=⟨_,rfl⟩
 have hx':=hx
 rw[IntKind.wrap_i32]at hx'
 have hft:jK 0 a=decide (IntKind.u64.wrap x=a):=by
  unfold jK
  rw[IntKind.wrap_u64,decide_eq_decide]
  by_cases h:9223372036854775808≤a
  ·have e1:eH 0 a=1:=by unfold eH;rw[if_pos ⟨.inl rfl,h⟩]
   have e2:iH 0 a=(18446744073709551616-a).toNat :=by unfold iH;rw[if_pos ⟨.inl rfl,h⟩]
   rw[e1,e2,show dX 0 1=2147483648 by decide];omega
  ·have e1:eH 0 a=0:=by unfold eH;rw[if_neg (fun k=>h k.2)]
   have e2:iH 0 a=a.toNat:=by unfold iH;rw[if_neg (fun k=>h k.2)]
   rw[e1,e2,show dX 0 0=2147483647 by decide];omega
 have hd:=hft
 rw[hd]
 by_cases c:x<0
 ·refine⟨1,IntKind.u64.wrap (-a),fun h=>?_,fun w=>aGV a x _ _ _ hx c rfl (Oc _ _) rfl w⟩
  have:=of_decide_eq_true h
  rw[IntKind.wrap_u64]at this
  have hh:9223372036854775808≤a:=om
  unfold eH iH
  rw[if_pos ⟨.inl rfl,hh⟩,if_pos ⟨.inl rfl,hh⟩,IntKind.wrap_u64]
  exact⟨rfl,om⟩
 ·refine⟨0,a,fun h=>?_,fun w=>aGU a x _ _ hx om rfl (Oc _ _) w⟩
  have:=of_decide_eq_true h
  rw[IntKind.wrap_u64]at this
  have hh:¬9223372036854775808≤a:=om
  unfold eH iH
  rw[if_neg (fun k=>hh k.2),if_neg (fun k=>hh k.2)]
  exact⟨rfl,om⟩
theorem aEc(a:Int)(a0:0≤a)(a1:a<18446744073709551616):∃s m:Int,(jK 1 a=true→s=eH 1 a∧m=((iH 1 a:Nat):Int))∧∀w,QR 270 #[X #[J Y (-9223372036854775808),J Y 9223372036854775807],J O a] w (.tuple #[J Y s,J O m,.bool (jK 1 a)]):=by
 obtain⟨x,hx⟩:∃x,IntKind.i64.wrap a=x:=⟨_,rfl⟩
 have hx':=hx
 rw[IntKind.wrap_i64]at hx'
 have hft:jK 1 a=decide (IntKind.u64.wrap x=a):=by
  unfold jK
  rw[IntKind.wrap_u64,decide_eq_decide]
  by_cases h:9223372036854775808≤a
  ·have e1:eH 1 a=1:=by unfold eH;rw[if_pos ⟨.inr rfl,h⟩]
   have e2:iH 1 a=(18446744073709551616-a).toNat :=by unfold iH;rw[if_pos ⟨.inr rfl,h⟩]
   rw[e1,e2,show dX 1 1=9223372036854775808 by decide];omega
  ·have e1:eH 1 a=0:=by unfold eH;rw[if_neg (fun k=>h k.2)]
   have e2:iH 1 a=a.toNat:=by unfold iH;rw[if_neg (fun k=>h k.2)]
   rw[e1,e2,show dX 1 0=9223372036854775807 by decide];omega
 have hd:=hft
 rw[hd]
 by_cases c:x<0
 ·refine⟨1,IntKind.u64.wrap (-a),fun h=>?_,fun w=>GU a x _ _ _ hx c rfl (Oc _ _) rfl w⟩
  have hh:9223372036854775808≤a:=om
  unfold eH iH
  rw[if_pos ⟨.inr rfl,hh⟩,if_pos ⟨.inr rfl,hh⟩,IntKind.wrap_u64]
  exact⟨rfl,om⟩
 ·refine⟨0,a,fun h=>?_,fun w=>GR a x _ _ hx om rfl (Oc _ _) w⟩
  have hh:¬9223372036854775808≤a:=om
  unfold eH iH
  rw[if_neg (fun k=>hh k.2),if_neg (fun k=>hh k.2)]
  exact⟨rfl,om⟩
theorem aI2(a:Int)(a0:0≤a)(a1:a<18446744073709551616):∃s m:Int,(jK 2 a=true→s=eH 2 a∧m=((iH 2 a:Nat):Int))∧∀w,QR 272 #[X #[J .u32 0,J .u32 4294967295],J O a] w (.tuple #[J Y s,J O m,.bool (jK 2 a)]):=by
 obtain⟨x,hx⟩:∃x,IntKind.u32.wrap a=x:=⟨_,rfl⟩
 have hx':=hx
 rw[IntKind.wrap_u32]at hx'
 have hsg:eH 2 a=0:=by unfold eH;rw[if_neg (by omega)]
 have hmg:iH 2 a=a.toNat:=by unfold iH;rw[if_neg (by omega)]
 have hft:jK 2 a=decide (IntKind.u64.wrap x=a):=by
  unfold jK
  rw[hsg,hmg]
  rw[IntKind.wrap_u64,decide_eq_decide,show dX 2 0=4294967295 by decide]
  omega
 rw[hft,hsg,hmg]
 exact⟨0,a,fun _=>⟨rfl,om⟩,fun w=>aGT a x _ _ hx om rfl (Oc _ _) w⟩
theorem aI1(a:Int)(a0:0≤a)(a1:a<18446744073709551616):∃s m:Int,(jK 3 a=true→s=eH 3 a∧m=((iH 3 a:Nat):Int))∧∀w,QR 274 #[X #[J O 0,J O 18446744073709551615],J O a] w (.tuple #[J Y s,J O m,.bool (jK 3 a)]):=by
 have hsg:eH 3 a=0:=by unfold eH;rw[if_neg (by omega)]
 have hmg:iH 3 a=a.toNat:=by unfold iH;rw[if_neg (by omega)]
 have hft:jK 3 a=true:=by
  unfold jK
  rw[hsg,hmg]
  rw[show dX 3 0=18446744073709551615 by decide]
  exact decide_eq_true om
 rw[hft,hsg,hmg]
 exact⟨0,a,fun _=>⟨rfl,om⟩,fun w=>aGS a a0 (by rw[IntKind.wrap_u64];omega) w⟩
theorem wX(f mode kind a:Int)(a0:0≤a)(a1:a<18446744073709551616)(w:World)(hw:Fm w):
  CT 97 #[J Y f,J Y mode,J Y kind,J O a] w fun e w'=>∃Z fl,gQ f mode kind a Z fl∧e=.returned (X #[J O Z,J Y fl])∧Gr w w':=by
 have fin:∀Z,gQ f mode kind a Z 1→(QR 97 #[J Y f,J Y mode,J Y kind,J O a] w (X #[J O Z,J Y 1]))→CT 97 #[J Y f,J Y mode,J Y kind,J O a] w fun e w'=>∃Z fl,gQ f mode kind a Z fl∧e=.returned (X #[J O Z,J Y fl])∧Gr w w':=fun Z hp h=>h.mono (fun e w' ⟨h1,h2⟩=>⟨Z,1,hp,h1,h2⟩)
 have kn:∃(kv:Value) (kb:Bool),∀w,QR 71 #[J Y kind] w (.tuple #[kv,.bool kb]):=by
  by_cases hk:0≤kind∧kind≤3
  ·rcases(show kind=0∨kind=1∨kind=2∨kind=3 by omega)with rfl|rfl|rfl|rfl
   ·exact⟨_,_,aGj⟩
   ·exact⟨_,_,zS⟩
   ·exact⟨_,_,aGi⟩
   ·exact⟨_,_,aGh⟩
  ·exact⟨_,_,fun w=>aGw kind hk w⟩
 obtain⟨kv,kb,HKn⟩:=kn
 by_cases hf:f=0∨f=1
 ·obtain⟨p,mx,one,inf,sg,nan,hF⟩:=kF f hf
  obtain⟨mn,fb,sp,hM,hmn,hfb⟩:=hF.m
  have HN:KR 176 #[X #[J Y p,J Y mn,J Y mx]] (X #[J O nan,J Y 1]):=fun w=>dI hM w
  by_cases hm:0≤mode∧mode≤4
  ·obtain⟨k,hk⟩:=o9 mode hm.1 hm.2
   have HS:Hid (∀w',Gr w w'→QR 70 #[J Y f,J Y mode] w' (.tuple #[X #[J Y p,J Y mn,J Y mx,J Y mode,.func (.func k) #[] #[]],.bool true])):=fun w'' hg'=>gK hF hM mode k (fun w=>jQ mode k hk w) (hw.gr hg')
   have bad:jK kind a=false→gQ f mode kind a nan 1:=fun h=>.inr (.inl ⟨p,mx,one,inf,sg,nan,hF,.inr h,rfl,rfl⟩)
   have HR:∀s m,s=eH kind a→m=((iH kind a:Nat):Int)→Hid (∀w,CT 186 #[X #[J Y p,J Y mn,J Y mx,J Y mode,.func (.func k) #[] #[]],J Y s,J Y 0,X #[J O 0,J O m],.bool false] w fun e w'=>∃z fl,bV p (1-mx) mx one inf sg nan mode (sW kind a) z fl∧e=.returned (X #[J O z,J Y fl])∧Gr w w'):=by
    intro s m hs hm' w
    subst hs hm'
    have hlt:=uY kind a a0 a1
    rcases Nat.eq_zero_or_pos (iH kind a)with h0|h0
    ·have hs0:eH kind a=0:=by
      unfold iH at h0
      unfold eH
      by_cases c:(kind=0∨kind=1)∧9223372036854775808≤a
      ·rw[if_pos c]at h0;exfalso;omega
      ·rw[if_neg c]
     rw[h0,hs0]
     refine(Nh hM mode k 0 0 false om om (sw 0 sg 0) (fun w=>jX hM 0 _ (.inl ⟨rfl,by simp[sw]⟩) w) w).mono ?_
     rintro e w' ⟨rfl,hg⟩
     refine⟨_,_,?_,rfl,hg⟩
     unfold sW;rw[if_pos h0];exact .inl ⟨rfl,rfl,rfl⟩
    ·have:=vY hM mode mode k hk (eH kind a) (Fg kind a) 0 om om (iH kind a) h0 om false (fun h=>by cases h) w
     rw[show iH kind a/18446744073709551616=0 by omega,show iH kind a%18446744073709551616=iH kind a by omega]at this
     refine this.mono ?_
     rintro e w' ⟨z,fl,hr,rfl,hg⟩
     rw[hmn]at hr
     refine⟨_,_,?_,rfl,hg⟩
     unfold sW;rw[if_neg (by omega)]
     exact .inr (.inl ⟨rfl,z,hr,by rw[Tf]⟩)
   have ok:jK kind a=true→(∃s m,(s=eH kind a∧m=((iH kind a:Nat):Int))∧CT 97 #[J Y f,J Y mode,J Y kind,J O a] w fun e w'=>∃z fl,bV p (1-mx) mx one inf sg nan mode (sW kind a) z fl∧e=.returned (X #[J O z,J Y fl])∧Gr w w')→CT 97 #[J Y f,J Y mode,J Y kind,J O a] w fun e w'=>∃Z fl,gQ f mode kind a Z fl∧e=.returned (X #[J O Z,J Y fl])∧Gr w w':=fun hq ⟨s,m,_,h⟩=>h.mono (fun e w' ⟨z,fl,h0,h1,h2⟩=>⟨z,fl,.inl ⟨p,mx,one,inf,sg,nan,hF,hm,hq,h0⟩,h1,h2⟩)
   by_cases hkd:0≤kind∧kind≤3
   ·rcases(show kind=0∨kind=1∨kind=2∨kind=3 by omega)with rfl|rfl|rfl|rfl
    ·obtain⟨s,m,he,HW⟩:=aI3 a a0 a1
     cases hq:jK 0 a<;>rw[hq]at HW he
     ·exact fin nan (bad hq) (aHq p mn mx mode nan f mode 0 a s m k HS aGj HW HN)
     ·exact ok hq ⟨s,m,he rfl,aHF p mn mx mode f mode 0 a s m k HS aGj HW _ (HR s m (he rfl).1 (he rfl).2)⟩
    ·obtain⟨s,m,he,HW⟩:=aEc a a0 a1
     cases hq:jK 1 a<;>rw[hq]at HW he
     ·exact fin nan (bad hq) (QN p mn mx mode nan f mode 1 a s m k HS zS HW HN)
     ·exact ok hq ⟨s,m,he rfl,U9 p mn mx mode f mode 1 a s m k HS zS HW _ (HR s m (he rfl).1 (he rfl).2)⟩
    ·obtain⟨s,m,he,HW⟩:=aI2 a a0 a1
     cases hq:jK 2 a<;>rw[hq]at HW he
     ·exact fin nan (bad hq) (aHp p mn mx mode nan f mode 2 a s m k HS aGi HW HN)
     ·exact ok hq ⟨s,m,he rfl,aHE p mn mx mode f mode 2 a s m k HS aGi HW _ (HR s m (he rfl).1 (he rfl).2)⟩
    ·obtain⟨s,m,he,HW⟩:=aI1 a a0 a1
     cases hq:jK 3 a<;>rw[hq]at HW he
     ·exact fin nan (bad hq) (aHo p mn mx mode nan f mode 3 a s m k HS aGh HW HN)
     ·exact ok hq ⟨s,m,he rfl,aHD p mn mx mode f mode 3 a s m k HS aGh HW _ (HR s m (he rfl).1 (he rfl).2)⟩
   ·exact fin nan (bad (by unfold jK;exact decide_eq_false (fun h=>hkd h.1))) (aHG p mn mx mode nan f mode kind a k HS (fun w=>aGw kind hkd w) HN)
  ·exact fin nan (.inr (.inl ⟨p,mx,one,inf,sg,nan,hF,.inl hm,rfl,rfl⟩)) (aGR p mn mx mode nan f mode kind a kv kb (fun w'' hg'=>jm hF hM mode (fun w=>oC mode om w) (hw.gr hg')) HKn HN)
 ·exact fin _ (.inr (.inr ⟨hf,rfl,rfl⟩)) (aGR _ _ _ _ _ f mode kind a kv kb (fun w'' hg'=>je f mode hf (hw.gr hg')) HKn (fun w=>dI m64 w))
theorem aHT(f mode kind a:Int)(a0:0≤a)(a1:a<18446744073709551616):
  ∃Z fl:Int,gQ f mode kind a Z fl∧(∀w,QB 19 #[J Y f,J Y mode,J Y kind,J O a] w (X #[J O Z,J Y fl]))∧
   (∀w,Fm w→QR 97 #[J Y f,J Y mode,J Y kind,J O a] w (X #[J O Z,J Y fl])):=
 aH1 (fun _ _ _ _ h h'=>gQ.one h h') (NW f mode kind a) (xR f mode kind a a0 a1) (wX f mode kind a a0 a1)
set_option maxRecDepth 1000000
set_option maxHeartbeats 40000000
theorem aIb{P:Prop}(h:P:=by
 go_enter func127,ntmps127
 go_wp2_with (go_at_call 157;refine(HW.out _ Gb.g).mono ?_;rintro e w1 ⟨rfl,aj⟩)
 go_returns
 exact⟨rfl,Gb.g⟩):P:=h
theorem Gi(s v r:Int)(hr:s=1∧IntKind.u64.wrap (0-v)=r∧IntKind.u64.wrap (-v)=r∨s=0∧v=r)(b k c:Nat){w:World}(HW:Hid (∀w',Gb w w'→QB 157 #[.slice (some ⟨b,0,none⟩) k c] w' (J O v))):
  QB 127 #[J Y s,.slice (some ⟨b,0,none⟩) k c] w (J O r):=by
 rcases hr with⟨rfl,h1,h2⟩|⟨rfl,rfl⟩
 ·exact aIb
 ·exact aIb
theorem MR(N:Nat):l7 0 N=(N:Int):=by unfold l7;rw[if_neg (by simp)]
theorem yJ(N:Nat)(h:N<18446744073709551616):IntKind.u64.wrap (-(N:Int))=l7 1 N:=by
 rw[IntKind.wrap_u64];unfold l7
 by_cases c:N=0
 ·subst c;rfl
 ·rw[if_pos ⟨rfl,c⟩];omega
theorem zM(s:Int)(hs:s=0∨s=1)(K:Nat)(hK:K≤1000000)(N:Nat)(hN:N<18446744073709551616)(b k c:Nat)(w:World)(hB:aB K w (.slice (some ⟨b,0,none⟩) k c) N):
  QB 127 #[J Y s,.slice (some ⟨b,0,none⟩) k c] w (J O (l7 s N)):=by
 refine Gi s (N:Int) _ ?_ b k c (fun w' hg=>?_)
 ·rcases hs with rfl|rfl
  ·exact .inr ⟨rfl,(MR N).symm⟩
  ·exact .inl ⟨rfl,by rw[Int.zero_sub];exact yJ N hN,yJ N hN⟩
 ·obtain⟨n,hn,hb⟩:=aB.gb hB hg
  refine(zQ hb om hN).mono ?_
  rintro e w'' ⟨rfl,hg'⟩
  exact⟨rfl,by first|exact hg'|(subst hg';exact Gb.refl _)⟩
theorem aGM{P:Prop}(h:P:=by
 go_enter func29,ntmps29
 go_wp2_with (go_at_call 102;refine(HF.out _ kr).mono ?_;rintro e w3 ⟨rfl,aA⟩)
 go_region_held3 (fun w'=>w'.cell? ⟨w3.heap.size,0,none⟩=some (J Y p)∧w'.cell? ⟨w3.heap.size,1,none⟩=some (J Y mn)∧w'.cell? ⟨w3.heap.size,2,none⟩=some (J Y mx))
  ((go_split_ands;(repeat' apply And.intro)<;>exact kl))
  (first
   |(go_at_call 72;refine(HI.out _).mono ?_;rintro e w4 ⟨rfl,aF⟩;have sJ:=aF.cells;have sH:=aF.aQ;have jH:=aF.size;(try simp only[World.size_alloc,World.size_drew,World.size_setCell]at jH))
   |(go_at_call 104;refine(HM.out _).mono ?_;rintro e w5 ⟨rfl,aJ⟩;have U3:=aJ.cells;have U0:=aJ.aQ;have zW:=aJ.size;(try simp only[World.size_alloc,World.size_drew,World.size_setCell]at zW))
   |(go_at_call 105;refine(EC.out _).mono ?_;rintro e w6 ⟨rfl,fK⟩;have aJc:=fK.cells;have aJb:=fK.aQ;have aIA:=fK.size;(try simp only[World.size_alloc,World.size_drew,World.size_setCell]at aIA)))
 all_goals
  (try go_split_ands)
  go_wp2_with (first
   |(go_at_call 105;refine(EC.out _).mono ?_;rintro e w7 ⟨rfl,gU⟩;obtain⟨cm0,cm1,cm2⟩:qo w7 w3.heap.size 0 1 2 (J Y p) (J Y mn) (J Y mx):=⟨kq,kq,kq⟩)
   |(go_at_call 106;refine(HZ1.out _).mono ?_;rintro e w8 ⟨rfl,aCw⟩;obtain⟨dm0,dm1,dm2⟩:qo w8 w3.heap.size 0 1 2 (J Y p) (J Y mn) (J Y mx):=⟨kq,kq,kq⟩)
   |(go_at_call 106;refine(HZ0.out _).mono ?_;rintro e w9 ⟨rfl,aP⟩;obtain⟨em0,em1,em2⟩:qo w9 w3.heap.size 0 1 2 (J Y p) (J Y mn) (J Y mx):=⟨kq,kq,kq⟩)
   |(go_at_call 107;refine(HS.out _).mono ?_;rintro e w10 ⟨rfl,aIW⟩;obtain⟨fm0,fm1,fm2⟩:qo w10 w3.heap.size 0 1 2 (J Y p) (J Y mn) (J Y mx):=⟨kq,kq,kq⟩)
   |(go_at_call 103;refine(HN.out _).mono ?_;rintro e w11 ⟨rfl,aIV⟩;obtain⟨gm0,gm1,gm2⟩:qo w11 w3.heap.size 0 1 2 (J Y p) (J Y mn) (J Y mx):=⟨kq,kq,kq⟩))
  go_returns
  exact⟨_,HU.out,rfl,kr⟩):P:=h
theorem aGH{f p mx one inf sg nan:Int}(h:aI f p mx one inf sg nan)(W:Int)(h0:0≤W)(h1:W<2*sg){w:World}(hw:Fm w):
  CT 29 #[J Y f,J O W] w fun e w'=>∃z,iL inf sg nan W z∧e=.returned (J O z)∧Gr w w':=by
 obtain⟨mn,fb,sp,hm,hmn,hfb⟩:=h.m
 clear hmn hfb
 obtain⟨b1,b2,b3,b4,b5,b6⟩:=hm.bounds
 have HF:Hid (∀w',Gr w w'→QR 102 #[J Y f] w' (.tuple #[X #[J Y p,J Y mn,J Y mx],.bool true])):=fun w' hg=>vF h hm (hw.gr hg)
 have HI:KR 72 #[X #[J Y p,J Y mn,J Y mx],J O W] (.bool true):=fun w=>by
  have:=fits_any hm W h0 om w
  rw[decide_eq_true h1]at this;exact this
 have HS:KR 107 #[X #[J Y p,J Y mn,J Y mx],J O W] (J Y (W/sg)):=fun w=>Jh hm W h0 h1 w
 have HM:KR 104 #[X #[J Y p,J Y mn,J Y mx],J O W] (J O (W%sg)):=fun w=>BA hm W h0 h1 w
 have EC:KR 105 #[X #[J Y p,J Y mn,J Y mx],J Y 0] (J O inf):=fun w=>gW hm 0 inf (.inl ⟨rfl,rfl⟩) w
 have HZ0:KR 106 #[X #[J Y p,J Y mn,J Y mx],J Y 0] (J O 0):=fun w=>jX hm 0 0 (.inl ⟨rfl,rfl⟩) w
 have HZ1:KR 106 #[X #[J Y p,J Y mn,J Y mx],J Y 1] (J O sg):=fun w=>jX hm 1 sg (.inr ⟨rfl,rfl⟩) w
 have HN:KR 103 #[X #[J Y p,J Y mn,J Y mx]] (J O nan):=fun w=>yA hm w
 have hsv:Hid (W/sg=0∧W%sg=W∧W<sg∨W/sg=1∧W%sg=W-sg∧sg≤W):=TB W sg h0 h1
 generalize W/sg=s at*
 generalize W%sg=v at*
 have v0:0≤v∧v<sg∧0≤s∧s≤1:=by have:=hsv.out;omega
 have hU:Hid (∀z:Int,((W=0∨W=sg)∧z=1∨(inf<W∧W<sg∨sg+inf<W)∧z=nan∨W=inf∧z=inf∨0<W∧W<inf∧z=W+1∨sg<W∧W≤sg+inf∧z=W-1)→iL inf sg nan W z):=fun z hc=>hc
 clear h hm hw
 rcases(show inf<v∨(v≤inf∧W=inf)∨(v≤inf∧W=sg)∨(v≤inf∧W≠inf∧W≠sg∧s=1)∨(v≤inf∧W≠inf∧W≠sg∧s=0) by omega)with c1|⟨c1,c2⟩|⟨c1,c2⟩|⟨c1,c2,c3,rfl⟩|⟨c1,c2,c3,rfl⟩
 ·have HU:Hid (iL inf sg nan W (nan)):=hU.out _ (by have:=hsv.out;omega)
  clear hU hsv
  skip
  exact aGM
 ·have HU:Hid (iL inf sg nan W (W)):=hU.out _ (by have:=hsv.out;omega)
  clear hU hsv
  have c1d:decide (v>inf)=false:=by simp;omega
  subst c2
  exact aGM
 ·have HU:Hid (iL inf sg nan W (1)):=hU.out _ (by have:=hsv.out;omega)
  clear hU hsv
  have c1d:decide (v>inf)=false:=by simp;omega
  subst c2
  have c4:(W==inf)=false:=by simp;omega
  exact aGM
 ·have HU:Hid (iL inf sg nan W (W-1)):=hU.out _ (by have:=hsv.out;omega)
  clear hU
  have c1d:decide (v>inf)=false:=by simp;omega
  have c4:(W==inf)=false:=by simp;omega
  have c5:(W==sg)=false:=by simp;omega
  have c6:sg<W:=by have:=hsv.out;omega
  clear c2 c3 hsv
  exact aGM
 ·have HU:Hid (iL inf sg nan W (W+1)):=hU.out _ (by have:=hsv.out;omega)
  clear hU
  have c1d:decide (v>inf)=false:=by simp;omega
  have c4:(W==inf)=false:=by simp;omega
  have c5:(W==sg)=false:=by simp;omega
  have c6:W<sg:=by have:=hsv.out;omega
  have c7:W<inf:=by have:=hsv.out;omega
  clear c2 c3 hsv
  exact aGM
theorem aFT{P:Int→Int→Int→Prop}(h:∀m,∃Z fl,P m Z fl):∃Z fl:Int→Int,∀m,P m (Z m) (fl m):=⟨fun m=>(h m).choose,fun m=>(h m).choose_spec.choose,fun m=>(h m).choose_spec.choose_spec⟩
theorem aGn{R:Int→Int→bI→bI→bI}{f a b:Int}{Z fl:Int→Int}(hR:∀p m x y,R p m x y=R p 0 x y∨(R p m x y).c =0∧(R p 0 x y).c =0)(hS:∀p m x y,(x.s=0∨x.s=1)→(y.s=0∨y.s=1)→(R p m x y).s =0∨(R p m x y).s =1)(h:∀m,kH R f m a b (Z m) (fl m)):BrC f (fun i=>Z i) (fun i=>fl i):=by
 rcases h 0 with⟨p,mx,one,inf,sg,nan,x,y,hF,hm,hx,hy,hp⟩|⟨p,mx,one,inf,sg,nan,hF,hm,hz,_⟩|⟨hf,hz,_⟩
 ·refine aFY hF (fun m=>R p m x y) Z fl (fun m=>hS p m x y (dA hF hx).1.nN (dA hF hy).1.nN) (fun m _ _=>hR p m x y) (fun m m0 m4=>?_)
  rcases h m with⟨p',mx',one',inf',TI,nan',x',y',hF',hm',hx',hy',hp'⟩|⟨p',mx',one',inf',TI,nan',hF',hm',hz,_⟩|⟨hf,hz,_⟩
  ·obtain⟨rfl,rfl,rfl,rfl,rfl,rfl⟩:=hF.one hF'
   obtain rfl:=hx.one hF hx'
   obtain rfl:=hy.one hF hy'
   exact hp'
  ·omega
  ·exact absurd hF.yes.symm (by simp[hf])
 ·omega
 ·exact aFX hf _ _ (by show 0≤Z 0;omega)
theorem qm.d{R:Int→bI→bI→bI}{f m a b Z fl:Int}(h:qm R f m a b Z fl):kH (fun _=>R) f m a b Z fl:=by
 rcases h with⟨p,mx,one,inf,sg,nan,x,y,hF,hm,hx,hy,hp⟩|h|h
 ·exact .inl ⟨p,mx,one,inf,sg,nan,x,y,hF,hm,hx,hy,.inl hp⟩
 ·exact .inr (.inl h)
 ·exact .inr (.inr h)
theorem aId{x:bI}(h:x.s=0∨x.s=1):(jZ x).s =0∨(jZ x).s =1:=by unfold jZ;dsimp only;omega
theorem aHU(p m:Int)(x y:bI):(divO p m x y).s =0∨(divO p m x y).s =1:=by
 have hm:=NQ x.s y.s
 unfold divO
 repeat' split
 all_goals first|exact hm|exact .inl rfl
theorem aHz(p m:Int)(x y:bI)(hx:x.s=0∨x.s=1):(jl p m x y).s =0∨(jl p m x y).s =1:=by
 unfold jl
 repeat' split
 all_goals first|exact hx|exact .inl rfl
theorem aIn{f a b c:Int}{Z fl:Int→Int}(h:∀m,aGt f m a b c (Z m) (fl m)):BrC f (fun i=>Z i) (fun i=>fl i):=by
 rcases h 0 with⟨p,mx,one,inf,sg,nan,x,y,z,hF,hm,hx,hy,hz,hp⟩|⟨p,mx,one,inf,sg,nan,hF,hm,hz,_⟩|⟨hf,hz,_⟩
 ·refine aFY hF (fun m=>aGr m x y z) Z fl (fun m=>aGB m _ _ (aF4 x y) (dA hF hz).1.nN) (fun m _ _=>aF2 m _ _) (fun m m0 m4=>?_)
  rcases h m with⟨p',mx',one',inf',TI,nan',x',y',z',hF',hm',hx',hy',hz',hp'⟩|⟨p',mx',one',inf',TI,nan',hF',hm',hz,_⟩|⟨hf,hz,_⟩
  ·obtain⟨rfl,rfl,rfl,rfl,rfl,rfl⟩:=hF.one hF'
   obtain rfl:=hx.one hF hx'
   obtain rfl:=hy.one hF hy'
   obtain rfl:=hz.one hF hz'
   exact .inl hp'
  ·omega
  ·exact absurd hF.yes.symm (by simp[hf])
 ·omega
 ·exact aFX hf _ _ (by show 0≤Z 0;omega)
theorem aHS(k a:Int):(sW k a).s =0∨(sW k a).s =1:=by
 have hs:eH k a=0∨eH k a=1:=by unfold eH;split<;>simp
 unfold sW
 split
 ·exact .inl rfl
 ·exact hs
theorem aHZ{f k a:Int}{Z fl:Int→Int}(h:∀m,gQ f m k a (Z m) (fl m)):BrC f (fun i=>Z i) (fun i=>fl i):=by
 rcases h 0 with⟨p,mx,one,inf,sg,nan,hF,hm,hk,hp⟩|⟨p,mx,one,inf,sg,nan,hF,hm,hz,_⟩|⟨hf,hz,_⟩
 ·refine aFY hF (fun m=>sW k a) Z fl (fun m=>aHS k a) (fun m _ _=>.inl rfl) (fun m m0 m4=>?_)
  rcases h m with⟨p',mx',one',inf',TI,nan',hF',hm',hk',hp'⟩|⟨p',mx',one',inf',TI,nan',hF',hm',hz,_⟩|⟨hf,hz,_⟩
  ·obtain⟨rfl,rfl,rfl,rfl,rfl,rfl⟩:=hF.one hF'
   exact .inl hp'
  ·rcases hm' with q|q
   ·exact absurd ⟨m0,m4⟩ q
   ·rw[hk]at q;cases q
  ·exact absurd hF.yes.symm (by simp[hf])
 ·exact aGK hF _ _ hz
 ·exact aFX hf _ _ (by show 0≤Z 0;omega)
theorem aH0{f t a:Int}{Z fl:Int→Int}(h:∀m,wE f t m a (Z m) (fl m)):BrC t (fun i=>Z i) (fun i=>fl i):=by
 rcases h 0 with⟨p,mx,one,inf,sg,nan,q,mq,oq,iq,sq,nq,x,hF,hm,hG,hx,hp⟩|⟨p,mx,one,inf,sg,nan,hF,hm,hz,_⟩|⟨hf,hz,_⟩
 ·refine aFY hF (fun m=>x) Z fl (fun m=>(dA hG hx).1.nN) (fun m _ _=>.inl rfl) (fun m m0 m4=>?_)
  rcases h m with⟨p',mx',one',inf',TI,nan',q',mq',oq',iq',sq',nq',x',hF',hm',hG',hx',hp'⟩|⟨p',mx',one',inf',TI,nan',hF',hm',hz,_⟩|⟨hf,hz,_⟩
  ·obtain⟨rfl,rfl,rfl,rfl,rfl,rfl⟩:=hF.one hF'
   obtain⟨rfl,rfl,rfl,rfl,rfl,rfl⟩:=hG.one hG'
   obtain rfl:=hx.one hG hx'
   exact .inl hp'
  ·rcases hm' with r|r
   ·exact absurd ⟨m0,m4⟩ r
   ·exact absurd hG.yes.symm (by simp[r])
  ·exact absurd hF.yes.symm (by simp[hf])
 ·exact aGK hF _ _ hz
 ·exact aFX hf _ _ (by show 0≤Z 0;omega)
theorem aIo{w0:World}{a:Option Addr}{len:Nat}{c:Nat→Int}(cap:Nat)(h0:rD w0 a len c)(k:Int)(k0:0≤k)(k7:k≤7):
  ∃(f:Int) (Z fl:Nat→Int),(∀i:Nat,i≤4→aGs a len cap c k i f (Z i) (fl i))∧BrC f Z fl:=by
 have Om:Hid (∀f mode a b:Int,0≤a→a<18446744073709551616→0≤b→b<18446744073709551616→(∃p mx one inf sg nan,aI f p mx one inf sg nan∧KW 117 #[J Y f,J Y mode,J O a,J O b] (.bool true))∨KW 117 #[J Y f,J Y mode,J O a,J O b] (.bool false)):=fun f mode a b a0 a1 b0 b1=>by
  by_cases hf:f=0∨f=1
  ·obtain⟨p,mx,one,inf,sg,nan,hF⟩:=kF f hf
   by_cases hm:0≤mode∧mode≤4
   ·by_cases hfit:a<2*sg∧b<2*sg
    ·exact .inl ⟨p,mx,one,inf,sg,nan,hF,fun w=>nH hF mode a b hm.1 hm.2 a0 hfit.1 b0 hfit.2 w⟩
    ·exact .inr (fun w=>dY f mode a b a0 a1 b0 b1 (qK hF a1 b1 om) w)
   ·exact .inr (fun w=>dY f mode a b a0 a1 b0 b1 (.inl om) w)
  ·exact .inr (fun w=>dY f mode a b a0 a1 b0 b1 (.inr (.inl hf)) w)
 have HMu:Hid (∀f p mx one inf sg nan a b:Int,aI f p mx one inf sg nan→0≤a→a<18446744073709551616→0≤b→b<18446744073709551616→∃Z fl:Int,0≤Z∧Z<2*sg∧KB 85 #[J Y f,J Y 0,J O a,J O b] (X #[J O Z,J Y fl])):=fun f p mx one inf sg nan a b hF a0 a1 b0 b1=>by
  obtain⟨Z,fl,hR,hs,_⟩:=uV f 0 a b a0 a1 b0 b1
  have hZ:0≤Z∧Z<2*sg:=by
   have hb:=hF.bounds
   rcases hR with⟨p1,mx1,one1,aIQ,sg1,aIP,x1,y1,hF1,hm1,hx1,hy1,hp1⟩|⟨p1,mx1,one1,aIQ,sg1,aIP,hF1,_,rfl,_⟩|⟨hn,_,_⟩
   ·obtain⟨rfl,rfl,rfl,rfl,rfl,rfl⟩:=hF.one hF1
    exact aHC hF (aF4 x1 y1) (.inl hp1)
   ·obtain⟨rfl,rfl,rfl,rfl,rfl,rfl⟩:=hF.one hF1
    omega
   ·exact absurd hF.yes.symm (by simp[hn])
  exact⟨Z,fl,hZ.1,hZ.2,hs⟩
 rcases(show k=0∨k=1∨k=2∨k=3∨k=4∨k=5∨k=6∨k=7 by omega)with rfl|rfl|rfl|rfl|rfl|rfl|rfl|rfl
 ·obtain⟨f,m,u,v,_,_,hu,hv,D,_⟩:=aIc cap h0
  obtain⟨Z,fl,h⟩:=aFT fun m=>add_same f m u v hu.1 hu.2 hv.1 hv.2
  exact⟨f,fun i=>Z i,fun i=>fl i,fun i _=>aIO D (h i).2.1 (h i).2.2,aGn (fun _ m x y=>aF2 m x y) (fun _ m x y hx hy=>aGB m x y hx hy) fun m=>(h m).1.d⟩
 ·obtain⟨f,m,u,v,_,_,hu,hv,_,D⟩:=aIc cap h0
  obtain⟨Z,fl,h⟩:=aFT fun m=>uF f m u v hu.1 hu.2 hv.1 hv.2
  exact⟨f,fun i=>Z i,fun i=>fl i,fun i _=>aIN D (h i).2.1 (h i).2.2,aGn (fun _ m x y=>aF2 m x (jZ y)) (fun _ m x y hx hy=>aGB m x (jZ y) hx (aId hy)) fun m=>(h m).1.d⟩
 ·obtain⟨f,m,u,v,_,_,hu,hv,D⟩:=aIC cap h0
  obtain⟨Z,fl,h⟩:=aFT fun m=>uV f m u v hu.1 hu.2 hv.1 hv.2
  exact⟨f,fun i=>Z i,fun i=>fl i,fun i _=>aIM D (h i).2.1 (h i).2.2,aGn (fun _ m x y=>.inl rfl) (fun _ m x y hx hy=>aF4 x y) fun m=>(h m).1.d⟩
 ·obtain⟨f,m,u,v,t,_,_,hu,hv,ht,D⟩:=aID cap h0 Om HMu
  obtain⟨Z,fl,h⟩:=aFT fun m=>aHH f m u v t hu.1 hu.2 hv.1 hv.2 ht.1 ht.2
  exact⟨f,fun i=>Z i,fun i=>fl i,fun i _=>aIL D (h i).2.1 (h i).2.2,aIn fun m=>(h m).1⟩
 ·obtain⟨f,m,u,v,_,_,hu,hv,D⟩:=aIF cap h0 Om HMu
  obtain⟨Z,fl,h⟩:=aFT fun m=>Ai f m u v hu.1 hu.2 hv.1 hv.2
  exact⟨f,fun i=>Z i,fun i=>fl i,fun i _=>aIK D (h i).2.1 (h i).2.2,aGn (fun p m x y=>.inl rfl) (fun p m x y hx hy=>aHU p m x y) fun m=>(h m).1⟩
 ·obtain⟨f,m,u,_,_,hu,D⟩:=aIi cap h0 Om HMu
  obtain⟨Z,fl,h⟩:=aFT fun m=>vW f m u hu.1 hu.2
  exact⟨f,fun i=>Z i,fun i=>fl i,fun i _=>aIJ D (h i).2.1 (h i).2.2,aGn (fun p m x y=>.inl rfl) (fun p m x y hx hy=>aHz p m x y hx) fun m=>(h m).1⟩
 ·obtain⟨f,m,kd,u,_,_,_,hu,D⟩:=aIk cap h0 fun s N hs hN=>⟨l7 s N,aHt s N hN,fun b n c w hB=>zM s hs 20 om N hN b n c w hB⟩
  obtain⟨Z,fl,h⟩:=aFT fun m=>NW f m kd u
  refine⟨f,fun i=>Z i,fun i=>fl i,fun i _=>aII D (fun w=>(xR f i kd u hu.1 hu.2 w).mono ?_) (fun w hw=>(wX f i kd u hu.1 hu.2 w hw).mono ?_),aHZ h⟩
  all_goals
   rintro e w' ⟨Z',qA,h',rfl,hg⟩
   obtain⟨e1,e2⟩:=(h i).one h'
   exact⟨by dsimp only;rw[e1,e2],hg⟩
 ·obtain⟨f,g,m,u,_,_,_,hu,D⟩:=aIl cap h0
  obtain⟨Z,fl,h⟩:=aFT fun m=>aHs f g m u hu.1 hu.2
  exact⟨g,fun i=>Z i,fun i=>fl i,fun i _=>aIH D (h i).2.1 (h i).2.2,aH0 fun m=>(h m).1⟩
theorem aGG(a a2:Option Addr)(len cap len2 cap2:Nat)(w:World)(hC:pV w a len)(hC2:pV w a2 len2)(hw:Fm w):
  CT 8 #[.slice a len cap,.slice a2 len2 cap2] w fun e w'=>e=.returned (.bool true)∧Below w.heap.size w w':=by
 obtain⟨c,hc⟩:=hC.is
 obtain⟨c2,hc2⟩:=hC2.is
 obtain⟨q,⟨q0,q1⟩,hP⟩:=aIq (cap:=cap2) hc2
 obtain⟨f,Z,fl,hO,cl,sg,le,HCl,hcase⟩:=aIo cap hc (q%8) om om
 refine aHX a a2 len cap len2 cap2 hC.few hC2.few q (q%8) q0 q1 rfl f cl sg le Z fl (fun w' g=>hc.gb g) (fun w' g=>hw.gb g) hP hO HCl ?_
 rcases hcase with h|h|⟨h3,hz,hb,p,mx,one,inf,nan,hF,hn,z0,z1⟩
 ·exact .inl h
 ·exact .inr (.inl h)
 ·refine .inr (.inr ⟨h3,hz,hb,fun w' g=>(aGH hF (Z 4) z0 z1 (hw.gb g)).mono ?_⟩)
  rintro e w'' ⟨z,hz',rfl,hg⟩
  exact⟨by rw[iL.one hF hz' hn],hg⟩
