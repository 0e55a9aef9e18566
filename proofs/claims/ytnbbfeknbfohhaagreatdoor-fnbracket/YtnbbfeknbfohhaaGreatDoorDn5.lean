import Derived.Test.YtnbbfeknbfohhaaGreatDoorDc
set_option linter.unusedVariables false
set_option linter.unusedSimpArgs false
set_option maxRecDepth 1000000
set_option maxHeartbeats 40000000
open Go.Value renaming int → J
open Go.IntKind renaming i64 → Y, u64 → O
open Go.Proofs.Tryz
namespace Go.Proofs.YtnbbfeknbfohhaaGreatDoor
open Go.RowKit
theorem aHv{P:Prop}(h:P:=by
 apply Exists.intro
 apply Exists.intro
 refine⟨?_,?_,fun w hC=>?_⟩
 rotate_left 2
 ·have HC:Hid (∀w',Gr w w'→rD w' a len c):=fun w' g=>hC.gr g
  clear hC
  go_enter func90,ntmps90
  go_upto_region 2 with(go_at_call 166;refine(H.out _ (HC.out _ (Gr.refl _))).mono ?_;rintro x w1 ⟨rfl,aj⟩)
  go_upto_region 3 with(go_at_call 48;refine(T1.out _ (HC.out _ aj)).mono ?_;rintro x w' ⟨rfl,hw⟩;subst hw)
  go_upto_region 4 with(go_at_call 48;refine(T2.out _ (HC.out _ aj)).mono ?_;rintro x w' ⟨rfl,hw⟩;subst hw)
  go_upto_region 6 with(first
   |(go_at_call 117;refine(Ro.out _).mono ?_;rintro x w' ⟨rfl,hw⟩;subst hw)
   |(go_at_call 85;refine(HM.out _).mono ?_;rintro x w2 ⟨rfl,ak⟩))
  go_quiet (first|(go_at_call 111;refine Calls.quiet_of_same (bM HSg _))|(go_at_call 112;refine Calls.quiet_of_same (bM HIn _)))
  go_wp2
  (try (go_quiet (fail);go_wp2))
  exact aF0
 all_goals (first|assumption|(unfold bn;first|omega|(simp only[IntKind.wrap_u64];omega)))):P:=h
theorem aHw{P:Prop}(h:P:=by
 apply Exists.intro
 apply Exists.intro
 apply Exists.intro
 refine⟨?_,?_,?_,fun w hC=>?_⟩
 rotate_left 3
 ·have HC:Hid (∀w',Gr w w'→rD w' a len c):=fun w' g=>hC.gr g
  clear hC
  go_enter func87,ntmps87
  go_upto_region 2 with(go_at_call 166;refine(H.out _ (HC.out _ (Gr.refl _))).mono ?_;rintro x w1 ⟨rfl,aj⟩)
  go_upto_region 3 with(go_at_call 48;refine(T1.out _ (HC.out _ aj)).mono ?_;rintro x w' ⟨rfl,hw⟩;subst hw)
  go_upto_region 4 with(go_at_call 175;refine(A1.out _ (HC.out _ aj)).mono ?_;rintro x w' ⟨rfl,hw⟩;subst hw)
  go_upto_region 5 with(go_at_call 48;refine(T2.out _ (HC.out _ aj)).mono ?_;rintro x w' ⟨rfl,hw⟩;subst hw)
  go_upto_region 15 with(first
   |(go_at_call 117;refine(Ro.out _).mono ?_;rintro x w' ⟨rfl,hw⟩;subst hw)
   |(go_at_call 85;refine(HM.out _).mono ?_;rintro x w2 ⟨rfl,ak⟩)
   |(go_at_call 170;refine(HTn.out _).mono ?_;rintro x w' ⟨rfl,hw⟩;subst hw))
  go_quiet (first|(go_at_call 111;refine Calls.quiet_of_same (bM HSg _))|(go_at_call 112;refine Calls.quiet_of_same (bM HIn _)))
  go_wp2
  exact aF1
 all_goals (first|assumption|(unfold bn;first|omega|(simp only[IntKind.wrap_u64];omega)))):P:=h
theorem aF0{P:Prop}(h:P:=by
 go_returns
 refine⟨?_,by first|exact aj.gb|exact Gb.iP aj.gb _|exact Gb.drew aj.gb|exact Gb.iP ((aj.gb.trans ak).alloc _) _|exact(aj.gb.trans ak).alloc _|exact Gb.iP (Gb.iP ((aj.gb.trans ak).alloc _) _) _|exact Gb.drew (Gb.iP ((aj.gb.trans ak).alloc _) _)⟩
 simp[go_sem]
 exact⟨rfl,rfl⟩):P:=h
theorem aF1{P:Prop}(h:P:=by
 go_returns
 refine⟨?_,by first|exact aj.gb|exact Gb.iP aj.gb _|exact Gb.drew aj.gb|exact Gb.iP ((aj.gb.trans ak).alloc _) _|exact(aj.gb.trans ak).alloc _|exact Gb.iP (Gb.iP ((aj.gb.trans ak).alloc _) _) _|exact Gb.drew (Gb.iP ((aj.gb.trans ak).alloc _) _)⟩
 simp[go_sem]
 exact⟨rfl,rfl,rfl⟩):P:=h
theorem aID{w0:World}{a:Option Addr}{len:Nat}{c:Nat→Int}(cap:Nat)(h0:rD w0 a len c)
  (Om:Hid (∀f mode a b:Int,0≤a→a<18446744073709551616→0≤b→b<18446744073709551616→(∃p mx one inf sg nan,aI f p mx one inf sg nan∧KW 117 #[J Y f,J Y mode,J O a,J O b] (.bool true))∨KW 117 #[J Y f,J Y mode,J O a,J O b] (.bool false)))
  (HMu:Hid (∀f p mx one inf sg nan a b:Int,aI f p mx one inf sg nan→0≤a→a<18446744073709551616→0≤b→b<18446744073709551616→∃Z fl:Int,0≤Z∧Z<2*sg∧KB 85 #[J Y f,J Y 0,J O a,J O b] (.agg #[J O Z,J Y fl]))):
  ∃f m u v t:Int,Sml f∧Sml m∧bn u∧bn v∧bn t∧Hid (∀w,rD w a len c→QB 87 #[.slice a len cap] w (.tuple #[J Y f,J Y m,J O u,J O v,J O t])):=by
 obtain⟨f,m,u,v,j,hf,hm,hu,hv,hj,H⟩:=aGW cap h0 0 om
 obtain⟨hw8,h80,h81,T1⟩:=iZ cap h0 j 8 om om om
 obtain⟨t,j1,ht,hj1,A1⟩:=aHb cap h0 (j+1) f om
 obtain⟨x5,x0,x1,T2⟩:=iZ cap h0 j1 5 om om om
 clear h0
 suffices h:∃u' v' t':Int,bn u'∧bn v'∧bn t'∧Hid (∀w,rD w a len c→QB 87 #[.slice a len cap] w (.tuple #[J Y f,J Y m,J O u',J O v',J O t'])) by
  obtain⟨u',v',t',h1,h2,h3,h4⟩:=h
  exact⟨f,m,u',v',t',hf,hm,h1,h2,h3,h4⟩
 have hu':=hu
 have hv':=hv
 have ht':=ht
 obtain⟨u0,u1⟩:=hu
 obtain⟨v0,v1⟩:=hv
 obtain⟨t0,t1⟩:=ht
 rcases(show hw8=3∨((hw8==3)=false∧3≤hw8)∨((hw8==3)=false∧hw8<3) by simp;omega)with rfl|⟨k1,k2⟩|⟨k1,k2⟩
 ·clear Om HMu
  rcases aGY f with⟨pp,mx,one,inf,sg,nan,hF⟩|hno
  ·have hb:=hF.bounds
   have V9:KW 61 #[J Y f] (.bool true):=fun w=>iD f true (aI.yes hF) w
   have HIn:KW 112 #[J Y f] (J O inf):=fun w=>dQ hF w
   have HNa:KW 113 #[J Y f] (J O nan):=fun w=>gX hF w
   obtain⟨z0,g0,P0⟩:=aGx hF 0 inf (.inl rfl) (by unfold bn;omega)
   obtain⟨z1,g1,P1⟩:=aGx hF 1 inf (.inr rfl) (by unfold bn;omega)
   obtain⟨y0,e0,Q0⟩:=aGx hF 0 0 (.inl rfl) (by unfold bn;omega)
   obtain⟨y1,e1,Q1⟩:=aGx hF 1 0 (.inr rfl) (by unfold bn;omega)
   clear hF
   rcases(show x5=0∨x5=1∨x5=2∨x5=3∨x5=4 by omega)with rfl|rfl|rfl|rfl|rfl
   all_goals
    apply Exists.intro
    apply Exists.intro
    apply Exists.intro
    refine⟨?_,?_,?_,fun w hC=>?_⟩
    rotate_left 3
    ·have HC:Hid (∀w',Gr w w'→rD w' a len c):=fun w' g=>hC.gr g
     clear hC
     go_enter func87,ntmps87
     go_upto_region 2 with(go_at_call 166;refine(H.out _ (HC.out _ (Gr.refl _))).mono ?_;rintro x w1 ⟨rfl,aj⟩)
     go_upto_region 3 with(go_at_call 48;refine(T1.out _ (HC.out _ aj)).mono ?_;rintro x w' ⟨rfl,hw⟩;subst hw)
     go_upto_region 4 with(go_at_call 175;refine(A1.out _ (HC.out _ aj)).mono ?_;rintro x w' ⟨rfl,hw⟩;subst hw)
     go_upto_region 5 with(go_at_call 48;refine(T2.out _ (HC.out _ aj)).mono ?_;rintro x w' ⟨rfl,hw⟩;subst hw)
     go_wp2_with (first
      |(go_at_call 61;refine(V9.out _).mono ?_;rintro x w' ⟨rfl,hw⟩;subst hw)
      |(go_at_call 112;refine(HIn.out _).mono ?_;rintro x w' ⟨rfl,hw⟩;subst hw)
      |(go_at_call 113;refine(HNa.out _).mono ?_;rintro x w' ⟨rfl,hw⟩;subst hw)
      |(go_at_call 151;first|(with_reducible refine(P0.out _).mono ?_;rintro x w' ⟨rfl,hw⟩;subst hw)|(with_reducible refine(P1.out _).mono ?_;rintro x w' ⟨rfl,hw⟩;subst hw)|(with_reducible refine(Q0.out _).mono ?_;rintro x w' ⟨rfl,hw⟩;subst hw)|(with_reducible refine(Q1.out _).mono ?_;rintro x w' ⟨rfl,hw⟩;subst hw)))
     exact aF1
    all_goals (first|assumption|(unfold bn;first|omega|(simp only[IntKind.wrap_u64];omega)))
  ·have V9:KW 61 #[J Y f] (.bool false):=fun w=>iD f false (by symm;simp;omega) w
   apply Exists.intro
   apply Exists.intro
   apply Exists.intro
   refine⟨?_,?_,?_,fun w hC=>?_⟩
   rotate_left 3
   ·have HC:Hid (∀w',Gr w w'→rD w' a len c):=fun w' g=>hC.gr g
    clear hC
    go_enter func87,ntmps87
    go_upto_region 2 with(go_at_call 166;refine(H.out _ (HC.out _ (Gr.refl _))).mono ?_;rintro x w1 ⟨rfl,aj⟩)
    go_upto_region 3 with(go_at_call 48;refine(T1.out _ (HC.out _ aj)).mono ?_;rintro x w' ⟨rfl,hw⟩;subst hw)
    go_upto_region 4 with(go_at_call 175;refine(A1.out _ (HC.out _ aj)).mono ?_;rintro x w' ⟨rfl,hw⟩;subst hw)
    go_upto_region 5 with(go_at_call 48;refine(T2.out _ (HC.out _ aj)).mono ?_;rintro x w' ⟨rfl,hw⟩;subst hw)
    go_wp2_with (go_at_call 61;refine(V9.out _).mono ?_;rintro x w' ⟨rfl,hw⟩;subst hw)
    exact aF1
   all_goals (first|assumption|(unfold bn;first|omega|(simp only[IntKind.wrap_u64];omega)))
 ·clear Om HMu
  apply Exists.intro
  apply Exists.intro
  apply Exists.intro
  refine⟨?_,?_,?_,fun w hC=>?_⟩
  rotate_left 3
  ·have HC:Hid (∀w',Gr w w'→rD w' a len c):=fun w' g=>hC.gr g
   clear hC
   go_enter func87,ntmps87
   go_upto_region 2 with(go_at_call 166;refine(H.out _ (HC.out _ (Gr.refl _))).mono ?_;rintro x w1 ⟨rfl,aj⟩)
   go_upto_region 3 with(go_at_call 48;refine(T1.out _ (HC.out _ aj)).mono ?_;rintro x w' ⟨rfl,hw⟩;subst hw)
   go_upto_region 4 with(go_at_call 175;refine(A1.out _ (HC.out _ aj)).mono ?_;rintro x w' ⟨rfl,hw⟩;subst hw)
   go_upto_region 5 with(go_at_call 48;refine(T2.out _ (HC.out _ aj)).mono ?_;rintro x w' ⟨rfl,hw⟩;subst hw)
   go_wp2
   exact aF1
  all_goals (first|assumption|(unfold bn;first|omega|(simp only[IntKind.wrap_u64];omega)))
 ·rcases Om.out f m u v u0 u1 v0 v1 with⟨pp,mx,one,inf,sg,nan,hF,Ro⟩|Ro
  ·have hb:=hF.bounds
   obtain⟨Z,fl,Z0,Z1,HM⟩:=HMu.out f pp mx one inf sg nan u v hF u0 u1 v0 v1
   obtain⟨z,hz⟩:=aGX sg Z om
   have HTn:KW 170 #[J Y f,J O Z] (J O z):=fun w=>u_ hF Z z Z0 Z1 hz w
   have HSg:KW 111 #[J Y f] (J O sg):=fun w=>dM hF w
   have HIn:KW 112 #[J Y f] (J O inf):=fun w=>dQ hF w
   have z0:0≤z∧z<2*sg:=om
   obtain⟨r,hr⟩:∃r,z%sg=r:=⟨_,rfl⟩
   have hr':Int.tmod z sg=r:=by rw[Int.tmod_eq_emod_of_nonneg z0.1];exact hr
   have r0:0≤r:=by rw[←hr];exact Int.emod_nonneg _ om
   clear hz hb HMu Om
   rcases hF with⟨rfl,rfl,rfl,rfl,rfl,rfl,rfl⟩|⟨rfl,rfl,rfl,rfl,rfl,rfl,rfl⟩
   ·rcases(show(decide (4<r)=true∧decide (r<2139095036)=true)∨decide (4<r)=false∨(decide (4<r)=true∧decide (r<2139095036)=false) by simp;omega)with⟨d1,d2⟩|d1|⟨d1,d2⟩
    all_goals
     exact aHw
   ·rcases(show(decide (4<r)=true∧decide (r<9218868437227405308)=true)∨decide (4<r)=false∨(decide (4<r)=true∧decide (r<9218868437227405308)=false) by simp;omega)with⟨d1,d2⟩|d1|⟨d1,d2⟩
    all_goals
     exact aHw
  ·clear HMu Om
   apply Exists.intro
   apply Exists.intro
   apply Exists.intro
   refine⟨?_,?_,?_,fun w hC=>?_⟩
   rotate_left 3
   ·have HC:Hid (∀w',Gr w w'→rD w' a len c):=fun w' g=>hC.gr g
    clear hC
    go_enter func87,ntmps87
    go_upto_region 2 with(go_at_call 166;refine(H.out _ (HC.out _ (Gr.refl _))).mono ?_;rintro x w1 ⟨rfl,aj⟩)
    go_upto_region 3 with(go_at_call 48;refine(T1.out _ (HC.out _ aj)).mono ?_;rintro x w' ⟨rfl,hw⟩;subst hw)
    go_upto_region 4 with(go_at_call 175;refine(A1.out _ (HC.out _ aj)).mono ?_;rintro x w' ⟨rfl,hw⟩;subst hw)
    go_upto_region 5 with(go_at_call 48;refine(T2.out _ (HC.out _ aj)).mono ?_;rintro x w' ⟨rfl,hw⟩;subst hw)
    go_wp2_with (go_at_call 117;refine(Ro.out _).mono ?_;rintro x w' ⟨rfl,hw⟩;subst hw)
    exact aF1
   all_goals (first|assumption|(unfold bn;first|omega|(simp only[IntKind.wrap_u64];omega)))
theorem aIF{w0:World}{a:Option Addr}{len:Nat}{c:Nat→Int}(cap:Nat)(h0:rD w0 a len c)
  (Om:Hid (∀f mode a b:Int,0≤a→a<18446744073709551616→0≤b→b<18446744073709551616→(∃p mx one inf sg nan,aI f p mx one inf sg nan∧KW 117 #[J Y f,J Y mode,J O a,J O b] (.bool true))∨KW 117 #[J Y f,J Y mode,J O a,J O b] (.bool false)))
  (HMu:Hid (∀f p mx one inf sg nan a b:Int,aI f p mx one inf sg nan→0≤a→a<18446744073709551616→0≤b→b<18446744073709551616→∃Z fl:Int,0≤Z∧Z<2*sg∧KB 85 #[J Y f,J Y 0,J O a,J O b] (.agg #[J O Z,J Y fl]))):
  ∃f m u v:Int,Sml f∧Sml m∧bn u∧bn v∧aGo 90 a len cap c f m u v:=by
 obtain⟨f,m,u,v,j,hf,hm,hu,hv,hj,H⟩:=aGW cap h0 0 om
 obtain⟨h6,h60,h61,T1⟩:=iZ cap h0 j 6 om om om
 obtain⟨x,x0,x1,T2⟩:=iZ cap h0 (j+1) 100 om om om
 clear h0
 suffices h:∃u' v':Int,bn u'∧bn v'∧aGo 90 a len cap c f m u' v' by
  obtain⟨u',v',h1,h2,h3⟩:=h
  exact⟨f,m,u',v',hf,hm,h1,h2,h3⟩
 have hu':=hu
 have hv':=hv
 obtain⟨u0,u1⟩:=hu
 obtain⟨v0,v1⟩:=hv
 obtain⟨x3,hx3⟩:∃r,x%3=r:=⟨_,rfl⟩
 have x30:0≤x3∧x3<3:=om
 rcases(show h6=0∨h6=1∨((h6==0)=false∧(h6==1)=false) by simp;omega)with rfl|rfl|⟨k1,k2⟩
 ·rcases Om.out f m u v u0 u1 v0 v1 with⟨pp,mx,one,inf,sg,nan,hF,Ro⟩|Ro
  ·have hb:=hF.bounds
   obtain⟨Z,fl,Z0,Z1,HM⟩:=HMu.out f pp mx one inf sg nan u v hF u0 u1 v0 v1
   have HSg:KW 111 #[J Y f] (J O sg):=fun w=>dM hF w
   have HIn:KW 112 #[J Y f] (J O inf):=fun w=>dQ hF w
   obtain⟨r,hr⟩:∃r,Z%sg=r:=⟨_,rfl⟩
   have hr':Int.tmod Z sg=r:=by rw[Int.tmod_eq_emod_of_nonneg Z0];exact hr
   have r0:0≤r:=by rw[←hr];exact Int.emod_nonneg _ om
   clear hb HMu Om
   rcases hF with⟨rfl,rfl,rfl,rfl,rfl,rfl,rfl⟩|⟨rfl,rfl,rfl,rfl,rfl,rfl,rfl⟩
   ·rcases(show(decide (4<r)=true∧decide (r<2139095036)=true)∨decide (4<r)=false∨(decide (4<r)=true∧decide (r<2139095036)=false) by simp;omega)with⟨d1,d2⟩|d1|⟨d1,d2⟩
    all_goals
     exact aHv
   ·rcases(show(decide (4<r)=true∧decide (r<9218868437227405308)=true)∨decide (4<r)=false∨(decide (4<r)=true∧decide (r<9218868437227405308)=false) by simp;omega)with⟨d1,d2⟩|d1|⟨d1,d2⟩
    all_goals
     exact aHv
  ·clear HMu Om
   apply Exists.intro
   apply Exists.intro
   refine⟨?_,?_,fun w hC=>?_⟩
   rotate_left 2
   ·have HC:Hid (∀w',Gr w w'→rD w' a len c):=fun w' g=>hC.gr g
    clear hC
    go_enter func90,ntmps90
    go_upto_region 2 with(go_at_call 166;refine(H.out _ (HC.out _ (Gr.refl _))).mono ?_;rintro x w1 ⟨rfl,aj⟩)
    go_upto_region 3 with(go_at_call 48;refine(T1.out _ (HC.out _ aj)).mono ?_;rintro x w' ⟨rfl,hw⟩;subst hw)
    go_upto_region 4 with(go_at_call 48;refine(T2.out _ (HC.out _ aj)).mono ?_;rintro x w' ⟨rfl,hw⟩;subst hw)
    go_wp2_with (go_at_call 117;refine(Ro.out _).mono ?_;rintro x w' ⟨rfl,hw⟩;subst hw)
    exact aF0
   all_goals (first|assumption|(unfold bn;first|omega|(simp only[IntKind.wrap_u64];omega)))
 ·clear Om HMu
  rcases aGY f with⟨pp,mx,one,inf,sg,nan,hF⟩|hno
  ·have V9:KW 61 #[J Y f] (.bool true):=fun w=>iD f true (aI.yes hF) w
   have HP:KW 115 #[J Y f] (J Y pp):=fun w=>lD hF w
   have HTw:KW 114 #[J Y (pp-1)] (J O one):=fun w=>mQ hF w
   have HMx:KW 153 #[J Y f] (J Y mx):=fun w=>wF hF w
   rcases hF with⟨rfl,rfl,rfl,rfl,rfl,rfl,rfl⟩|⟨rfl,rfl,rfl,rfl,rfl,rfl,rfl⟩
   all_goals
    apply Exists.intro
    apply Exists.intro
    refine⟨?_,?_,fun w hC=>?_⟩
    rotate_left 2
    ·have HC:Hid (∀w',Gr w w'→rD w' a len c):=fun w' g=>hC.gr g
     clear hC
     go_enter func90,ntmps90
     go_upto_region 2 with(go_at_call 166;refine(H.out _ (HC.out _ (Gr.refl _))).mono ?_;rintro x w1 ⟨rfl,aj⟩)
     go_upto_region 3 with(go_at_call 48;refine(T1.out _ (HC.out _ aj)).mono ?_;rintro x w' ⟨rfl,hw⟩;subst hw)
     go_upto_region 4 with(go_at_call 48;refine(T2.out _ (HC.out _ aj)).mono ?_;rintro x w' ⟨rfl,hw⟩;subst hw)
     go_upto_region 10 with(first
      |(go_at_call 61;refine(V9.out _).mono ?_;rintro x w' ⟨rfl,hw⟩;subst hw)
      |(go_at_call 115;refine(HP.out _).mono ?_;rintro x w' ⟨rfl,hw⟩;subst hw)
      |(go_at_call 114;refine(HTw.out _).mono ?_;rintro x w' ⟨rfl,hw⟩;subst hw))
     go_quiet ((go_at_call 153;refine Calls.quiet_of_same (bM HMx _)))
     go_wp2
     exact aF0
    all_goals (first|assumption|(unfold bn;first|omega|(simp only[IntKind.wrap_u64];omega)))
  ·have V9:KW 61 #[J Y f] (.bool false):=fun w=>iD f false (by symm;simp;omega) w
   apply Exists.intro
   apply Exists.intro
   refine⟨?_,?_,fun w hC=>?_⟩
   rotate_left 2
   ·have HC:Hid (∀w',Gr w w'→rD w' a len c):=fun w' g=>hC.gr g
    clear hC
    go_enter func90,ntmps90
    go_upto_region 2 with(go_at_call 166;refine(H.out _ (HC.out _ (Gr.refl _))).mono ?_;rintro x w1 ⟨rfl,aj⟩)
    go_upto_region 3 with(go_at_call 48;refine(T1.out _ (HC.out _ aj)).mono ?_;rintro x w' ⟨rfl,hw⟩;subst hw)
    go_upto_region 4 with(go_at_call 48;refine(T2.out _ (HC.out _ aj)).mono ?_;rintro x w' ⟨rfl,hw⟩;subst hw)
    go_wp2_with (go_at_call 61;refine(V9.out _).mono ?_;rintro x w' ⟨rfl,hw⟩;subst hw)
    exact aF0
   all_goals (first|assumption|(unfold bn;first|omega|(simp only[IntKind.wrap_u64];omega)))
 ·clear Om HMu
  apply Exists.intro
  apply Exists.intro
  refine⟨?_,?_,fun w hC=>?_⟩
  rotate_left 2
  ·have HC:Hid (∀w',Gr w w'→rD w' a len c):=fun w' g=>hC.gr g
   clear hC
   go_enter func90,ntmps90
   go_upto_region 2 with(go_at_call 166;refine(H.out _ (HC.out _ (Gr.refl _))).mono ?_;rintro x w1 ⟨rfl,aj⟩)
   go_upto_region 3 with(go_at_call 48;refine(T1.out _ (HC.out _ aj)).mono ?_;rintro x w' ⟨rfl,hw⟩;subst hw)
   go_upto_region 4 with(go_at_call 48;refine(T2.out _ (HC.out _ aj)).mono ?_;rintro x w' ⟨rfl,hw⟩;subst hw)
   go_wp2
   exact aF0
  all_goals (first|assumption|(unfold bn;first|omega|(simp only[IntKind.wrap_u64];omega)))
