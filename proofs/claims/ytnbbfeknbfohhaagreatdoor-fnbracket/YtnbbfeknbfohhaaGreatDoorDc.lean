import Derived.Test.YtnbbfeknbfohhaaGreatDoorDb
import Derived.Test.YtnbbfeknbfohhaaGreatDoorG3
import Derived.Test.YtnbbfeknbfohhaaGreatDoorLa5
set_option linter.unusedVariables false
set_option linter.unusedSimpArgs false
set_option maxRecDepth 1000000
set_option maxHeartbeats 40000000
open Go.Value renaming int → J
open Go.IntKind renaming i64 → Y, u64 → O
open Go.Proofs.Tryz
namespace Go.Proofs.YtnbbfeknbfohhaaGreatDoor
open Go.RowKit
def aGo(D:Nat)(a:Option Addr)(len cap:Nat)(c:Nat→Int)(f m u v:Int):Prop:=∀w,rD w a len c→Calls Tryz.prog D #[.slice a len cap] w fun x w'=>x=.returned (.tuple #[J Y f,J Y m,J O u,J O v])∧Gb w w'
theorem Gb.iP{W w:World}(h:Gb W w)(n:Nat):Gb W (w.drewN n):=below_drewN h n
theorem aIc{w0:World}{a:Option Addr}{len:Nat}{c:Nat→Int}(cap:Nat)(h0:rD w0 a len c):∃f m u v:Int,Sml f∧Sml m∧bn u∧bn v∧aGo 78 a len cap c f m u v∧aGo 81 a len cap c f m u v:=by
 obtain⟨f,m,u,v,j,hf,hm,hu,hv,hj,H⟩:=aGW cap h0 0 om
 have HA:aGo 78 a len cap c f m u v:=fun w hC=>by
  have HC:Hid (rD w a len c):=hC
  clear hC h0
  go_enter func78,ntmps78
  go_wp2_with (go_at_call 166;refine(H.out _ HC.out).mono ?_;rintro x w1 ⟨rfl,aj⟩)
  go_returns
  exact⟨rfl,aj.gb⟩
 refine⟨f,m,u,v,hf,hm,hu,hv,HA,fun w hC=>?_⟩
 have HC:Hid (rD w a len c):=hC
 have HH:Hid (aGo 78 a len cap c f m u v):=HA
 clear hC h0 HA H
 go_enter func81,ntmps81
 go_wp2_with (go_at_call 78;refine(HH.out _ HC.out).mono ?_;rintro x w1 ⟨rfl,aj⟩)
 go_returns
 exact⟨rfl,aj⟩
theorem rD.gr{w w':World}{a:Option Addr}{len:Nat}{c:Nat→Int}(h:rD w a len c)(g:Gr w w'):rD w' a len c:=h.gb g.gb
theorem aGY(f:Int):(∃p mx one inf sg nan,aI f p mx one inf sg nan)∨¬(f=0∨f=1):=by
 by_cases h:f=0∨f=1
 ·rcases h with rfl|rfl
  ·exact .inl ⟨_,_,_,_,_,_,.inl ⟨rfl,rfl,rfl,rfl,rfl,rfl,rfl⟩⟩
  ·exact .inl ⟨_,_,_,_,_,_,.inr ⟨rfl,rfl,rfl,rfl,rfl,rfl,rfl⟩⟩
 ·exact .inr h
theorem aIC{w0:World}{a:Option Addr}{len:Nat}{c:Nat→Int}(cap:Nat)(h0:rD w0 a len c):∃f m u v:Int,Sml f∧Sml m∧bn u∧bn v∧aGo 84 a len cap c f m u v:=by
 obtain⟨f,m,u,v,j,hf,hm,hu,hv,hj,H⟩:=aGW cap h0 0 om
 obtain⟨h6,h60,h61,T1⟩:=iZ cap h0 j 6 om om om
 obtain⟨x,x0,x1,T2⟩:=iZ cap h0 (j+1) 64 om om om
 rcases(show 1<h6∨¬1<h6 by omega)with k1|k1
 ·refine⟨f,m,u,v,hf,hm,hu,hv,fun w hC=>?_⟩
  have HC:Hid (∀w',Gr w w'→rD w' a len c):=fun w' g=>hC.gr g
  clear hC h0
  go_enter func84,ntmps84
  go_upto_region 2 with(go_at_call 166;refine(H.out _ (HC.out _ (Gr.refl _))).mono ?_;rintro x w1 ⟨rfl,aj⟩)
  go_upto_region 3 with(go_at_call 48;refine(T1.out _ (HC.out _ aj)).mono ?_;rintro x w' ⟨rfl,hw⟩;subst hw)
  go_upto_region 4 with(go_at_call 48;refine(T2.out _ (HC.out _ aj)).mono ?_;rintro x w' ⟨rfl,hw⟩;subst hw)
  go_wp2
  go_returns
  exact⟨rfl,aj.gb⟩
 ·rcases aGY f with⟨p,mx,one,inf,sg,nan,hF⟩|hno
  ·have V9:KW 61 #[J Y f] (.bool true):=fun w=>iD f true (aI.yes hF) w
   have HP:KW 115 #[J Y f] (J Y p):=fun w=>lD hF w
   obtain⟨p1,hp1⟩:∃p1:Int,p-1=p1:=⟨_,rfl⟩
   have HTw:KW 114 #[J Y p1] (J O one):=fun w=>hp1▸mQ hF w
   have HMx:KW 153 #[J Y f] (J Y mx):=fun w=>wF hF w
   obtain⟨n,hn,UW⟩:∃n:Nat,p-1=(n:Int)∧n≤64:=⟨(p-1).toNat,by rcases hF with h|h<;>omega,by rcases hF with h|h<;>omega⟩
   obtain⟨fa,j1,hfa,hj1,B1⟩:=aGI n UW cap h0 (j+1+1) om
   obtain⟨fb,j2,hfb,hj2,B2⟩:=aGI n UW cap h0 j1 om
   rw[←hn,hp1]at B1 B2
   obtain⟨x2,hx2⟩:∃x2,x%2=x2:=⟨_,rfl⟩
   obtain⟨sm,hsm⟩:∃s:Int,h6=1∧s=3*mx+2-x%4∨h6=0∧s=mx+5-x:=by
    by_cases e:h6=1
    ·exact⟨_,.inl ⟨e,rfl⟩⟩
    ·exact⟨_,.inr ⟨om,rfl⟩⟩
   have hsb:0≤sm∧sm≤4000:=by
    have:mx=127∨mx=1023:=by rcases hF with h|h<;>omega
    omega
   obtain⟨s2,hs2⟩:∃s2,sm/2=s2:=⟨_,rfl⟩
   obtain⟨s3,hs3⟩:∃s3,sm-s2=s3:=⟨_,rfl⟩
   obtain⟨y,hy⟩:∃y,IntKind.u64.wrap (IntKind.u64.wrap (s3*one)+fb)=y:=⟨_,rfl⟩
   obtain⟨z,hz,mM⟩:=aGx hF x2 y om (by rw[←hy];unfold bn;rw[IntKind.wrap_u64];omega)
   obtain⟨m0,m1⟩:127≤mx∧mx≤1023:=by rcases hF with h|h<;>omega
   obtain⟨q0,q1⟩:24≤p∧p≤53:=by rcases hF with h|h<;>omega
   obtain⟨sb0,sb1⟩:=hsb
   have HY:Hid (IntKind.u64.wrap (IntKind.u64.wrap (s3*one)+fb)=y):=hy
   have u2:IntKind.u64.wrap s2=s2:=wu
   have u3:IntKind.u64.wrap s3=s3:=wu
   clear hy hn hF h0
   unfold bn at hfa hfb
   refine⟨f,m,IntKind.u64.wrap (IntKind.u64.wrap (s2*one)+fa),z,hf,hm,by unfold bn;rw[IntKind.wrap_u64];omega,hz,fun w hC=>?_⟩
   have HC:Hid (∀w',Gr w w'→rD w' a len c):=fun w' g=>hC.gr g
   clear hC
   clear k1
   rcases hsm with⟨rfl,hsm⟩|⟨rfl,hsm⟩
   all_goals
    have aJf:=hsm.symm
    clear hsm
    go_enter func84,ntmps84
    go_upto_region 2 with(go_at_call 166;refine(H.out _ (HC.out _ (Gr.refl _))).mono ?_;rintro x w1 ⟨rfl,aj⟩)
    go_upto_region 3 with(go_at_call 48;refine(T1.out _ (HC.out _ aj)).mono ?_;rintro x w' ⟨rfl,hw⟩;subst hw)
    go_upto_region 4 with(go_at_call 48;refine(T2.out _ (HC.out _ aj)).mono ?_;rintro x w' ⟨rfl,hw⟩;subst hw)
    go_upto_region 6 with(go_at_call 61;refine(V9.out _).mono ?_;rintro x w' ⟨rfl,hw⟩;subst hw)
    go_upto_region 9 with(go_at_call 153;refine(HMx.out _).mono ?_;rintro x w' ⟨rfl,hw⟩;subst hw)
    go_upto_region 10 with(first
     |(go_at_call 115;refine(HP.out _).mono ?_;rintro x w' ⟨rfl,hw⟩;subst hw)
     |(go_at_call 114;refine(HTw.out _).mono ?_;rintro x w' ⟨rfl,hw⟩;subst hw))
    go_upto_region 11 with(first
     |(go_at_call 115;refine(HP.out _).mono ?_;rintro x w' ⟨rfl,hw⟩;subst hw)
     |(go_at_call 163;refine(B1.out _ (HC.out _ aj)).mono ?_;rintro x w' ⟨rfl,hw⟩;subst hw))
    go_upto_region 12 with(first
     |(go_at_call 115;refine(HP.out _).mono ?_;rintro x w' ⟨rfl,hw⟩;subst hw)
     |(go_at_call 163;refine(B2.out _ (HC.out _ aj)).mono ?_;rintro x w' ⟨rfl,hw⟩;subst hw))
    go_wp2_with (go_at_call 151;rw[HY.out];refine(mM.out _).mono ?_;rintro x w' ⟨rfl,hw⟩;subst hw)
    go_returns
    exact⟨rfl,aj.gb⟩
  ·have V9:KW 61 #[J Y f] (.bool false):=fun w=>iD f false (by symm;simp;omega) w
   refine⟨f,m,u,v,hf,hm,hu,hv,fun w hC=>?_⟩
   have HC:Hid (∀w',Gr w w'→rD w' a len c):=fun w' g=>hC.gr g
   clear hC h0 hno
   go_enter func84,ntmps84
   go_upto_region 2 with(go_at_call 166;refine(H.out _ (HC.out _ (Gr.refl _))).mono ?_;rintro x w1 ⟨rfl,aj⟩)
   go_upto_region 3 with(go_at_call 48;refine(T1.out _ (HC.out _ aj)).mono ?_;rintro x w' ⟨rfl,hw⟩;subst hw)
   go_upto_region 4 with(go_at_call 48;refine(T2.out _ (HC.out _ aj)).mono ?_;rintro x w' ⟨rfl,hw⟩;subst hw)
   go_wp2_with (go_at_call 61;refine(V9.out _).mono ?_;rintro x w' ⟨rfl,hw⟩;subst hw)
   go_returns
   exact⟨rfl,aj.gb⟩
theorem aIl{w0:World}{a:Option Addr}{len:Nat}{c:Nat→Int}(cap:Nat)(h0:rD w0 a len c):∃f g m u:Int,Sml f∧Sml g∧Sml m∧bn u∧Hid (∀w,rD w a len c→QB 98 #[.slice a len cap] w (.tuple #[J Y f,J Y g,J Y m,J O u])):=by
 obtain⟨f,m,hf,hm,F1⟩:=aFD cap h0 0 om
 obtain⟨g,m',hg,hm',F2⟩:=aFD cap h0 2 om
 obtain⟨u,j,hu,hj,A1⟩:=aHb cap h0 4 f om
 obtain⟨h6,h60,h61,T1⟩:=iZ cap h0 j 6 om om om
 obtain⟨x,x0,x1,T2⟩:=iZ cap h0 (j+1) 64 om om om
 have HTw:KW 114 #[J Y 52] (J O 4503599627370496):=fun w=>mP 52 _ om de w
 clear h0
 suffices h:∃u',bn u'∧Hid (∀w,rD w a len c→QB 98 #[.slice a len cap] w (.tuple #[J Y f,J Y g,J Y m,J O u'])) by
  obtain⟨u',h',H⟩:=h
  exact⟨f,g,m,u',hf,hg,hm,h',H⟩
 obtain⟨u0,u1⟩:=hu
 rcases(show(h6<2∧f=1∧g=0∧x%2=1)∨(h6<2∧f=1∧g=0∧¬x%2=1)∨(h6=2∨h6=3∨h6=4∨h6=5)∨(h6<2∧(f==1)=false)∨(h6<2∧f=1∧(g==0)=false) by simp;omega)with⟨k1,rfl,rfl,k4⟩|⟨k1,rfl,rfl,k4⟩|(rfl|rfl|rfl|rfl)|⟨k1,k2⟩|⟨k1,rfl,k3⟩
 all_goals
  apply Exists.intro
  refine⟨?_,fun w hC=>?_⟩
  rotate_left 1
  ·have HC:Hid (rD w a len c):=hC
   clear hC
   go_enter func98,ntmps98
   go_upto_region 2 with(go_at_call 184;refine(F1.out _ HC.out).mono ?_;rintro x w' ⟨rfl,hw⟩;subst hw)
   go_upto_region 3 with(go_at_call 184;refine(F2.out _ HC.out).mono ?_;rintro x w' ⟨rfl,hw⟩;subst hw)
   go_upto_region 4 with(go_at_call 175;refine(A1.out _ HC.out).mono ?_;rintro x w' ⟨rfl,hw⟩;subst hw)
   go_upto_region 5 with(go_at_call 48;refine(T1.out _ HC.out).mono ?_;rintro x w' ⟨rfl,hw⟩;subst hw)
   go_upto_region 6 with(go_at_call 48;refine(T2.out _ HC.out).mono ?_;rintro x w' ⟨rfl,hw⟩;subst hw)
   go_wp2
   first
    |(go_returns;refine⟨?_,Gb.refl _⟩;simp[go_sem];rfl)
    |(go_quiet ((go_at_call 114;refine Calls.quiet_of_same (bM HTw _)));go_wp2;go_returns;refine⟨?_,by first|exact Gb.refl _|exact Gb.iP (Gb.refl _) _|exact Gb.drew (Gb.refl _)⟩;simp[go_sem];rfl)
  ·unfold bn;first|omega|(simp only[IntKind.wrap_u64];omega)
theorem aH4{P:Prop}(h:P:=by
 go_wp2_with (go_at_call 61;refine(V9.out _).mono ?_;rintro x w' ⟨rfl,hw⟩;subst hw)
 (try (go_quiet (first|(go_at_call 111;refine Calls.quiet_of_same (bM HSg _))|(go_at_call 112;refine Calls.quiet_of_same (bM HIn _)));go_wp2))
 exact aGu):P:=h
theorem aH5{P:Prop}(h:P:=by
 rcases(show h6=0∨h6=1 by omega)with rfl|rfl
 all_goals
  apply Exists.intro
  refine⟨?_,fun w hC=>?_⟩
  rotate_left 1
  ·have HC:Hid (∀w',Gr w w'→rD w' a len c):=fun w' g=>hC.gr g
   clear hC
   go_enter func93,ntmps93
   go_upto_region 2 with(go_at_call 166;refine(H.out _ (HC.out _ (Gr.refl _))).mono ?_;rintro x w1 ⟨rfl,aj⟩)
   go_upto_region 3 with(go_at_call 48;refine(T1.out _ (HC.out _ aj)).mono ?_;rintro x w' ⟨rfl,hw⟩;subst hw)
   go_upto_region 4 with(go_at_call 48;refine(T2.out _ (HC.out _ aj)).mono ?_;rintro x w' ⟨rfl,hw⟩;subst hw)
   go_upto_region 6 with(first
    |(go_at_call 117;refine(Ro.out _).mono ?_;rintro x w' ⟨rfl,hw⟩;subst hw)
    |(go_at_call 85;refine(HM.out _).mono ?_;rintro x w2 ⟨rfl,ak⟩))
   go_quiet (first|(go_at_call 111;refine Calls.quiet_of_same (bM HSg _))|(go_at_call 112;refine Calls.quiet_of_same (bM HIn _)))
   go_wp2
   (try (go_quiet (fail);go_wp2))
   exact aGu
  all_goals (first|assumption|(unfold bn;first|omega|(simp only[IntKind.wrap_u64];omega)))):P:=h
theorem aGu{P:Prop}(h:P:=by
 go_returns
 refine⟨?_,by first|exact Gb.iP hgW _|exact aj.gb|exact Gb.iP aj.gb _|exact Gb.drew aj.gb|exact Gb.iP ((aj.gb.trans ak).alloc _) _|exact(aj.gb.trans ak).alloc _|exact Gb.iP (Gb.iP ((aj.gb.trans ak).alloc _) _) _|exact Gb.drew (Gb.iP ((aj.gb.trans ak).alloc _) _)⟩
 simp[go_sem]
 rfl):P:=h
theorem aG8{P:Prop}(h:P:=by
 rcases(show h6=0∨h6=1 by omega)with rfl|rfl
 all_goals
  apply Exists.intro
  refine⟨?_,fun w hC=>?_⟩
  rotate_left 1
  ·have HC:Hid (∀w',Gr w w'→rD w' a len c):=fun w' g=>hC.gr g
   clear hC
   go_enter func93,ntmps93
   go_upto_region 2 with(go_at_call 166;refine(H.out _ (HC.out _ (Gr.refl _))).mono ?_;rintro x w1 ⟨rfl,aj⟩)
   go_upto_region 3 with(go_at_call 48;refine(T1.out _ (HC.out _ aj)).mono ?_;rintro x w' ⟨rfl,hw⟩;subst hw)
   go_upto_region 4 with(go_at_call 48;refine(T2.out _ (HC.out _ aj)).mono ?_;rintro x w' ⟨rfl,hw⟩;subst hw)
   go_upto_region 6 with(first
    |(go_at_call 117;refine(Ro.out _).mono ?_;rintro x w' ⟨rfl,hw⟩;subst hw)
    |(go_at_call 85;refine(HM.out _).mono ?_;rintro x w2 ⟨rfl,ak⟩))
   go_quiet (first|(go_at_call 111;refine Calls.quiet_of_same (bM HSg _))|(go_at_call 112;refine Calls.quiet_of_same (bM HIn _)))
   generalize hW:World.drewN (World.alloc w2 (.cells #[J O Z,J Y fl] 41)) nq=W
   have hgW:Gb w W:=by rw[←hW];exact Gb.iP ((aj.gb.trans ak).alloc _) _
   clear hW
   exact aH4
  all_goals (first|assumption|(unfold bn;first|omega|(simp only[IntKind.wrap_u64];omega)))):P:=h
theorem aIi{w0:World}{a:Option Addr}{len:Nat}{c:Nat→Int}(cap:Nat)(h0:rD w0 a len c)
  (Om:Hid (∀f mode a b:Int,0≤a→a<18446744073709551616→0≤b→b<18446744073709551616→(∃p mx one inf sg nan,aI f p mx one inf sg nan∧KW 117 #[J Y f,J Y mode,J O a,J O b] (.bool true))∨KW 117 #[J Y f,J Y mode,J O a,J O b] (.bool false)))
  (HMu:Hid (∀f p mx one inf sg nan a b:Int,aI f p mx one inf sg nan→0≤a→a<18446744073709551616→0≤b→b<18446744073709551616→∃Z fl:Int,0≤Z∧Z<2*sg∧KB 85 #[J Y f,J Y 0,J O a,J O b] (.agg #[J O Z,J Y fl]))):
  ∃f m u:Int,Sml f∧Sml m∧bn u∧Hid (∀w,rD w a len c→QB 93 #[.slice a len cap] w (.tuple #[J Y f,J Y m,J O u])):=by
 obtain⟨f,m,u,v,j,hf,hm,hu,hv,hj,H⟩:=aGW cap h0 0 om
 obtain⟨h6,h60,h61,T1⟩:=iZ cap h0 j 6 om om om
 obtain⟨x,x0,x1,T2⟩:=iZ cap h0 (j+1) 3 om om om
 clear h0
 suffices h:∃u':Int,bn u'∧Hid (∀w,rD w a len c→QB 93 #[.slice a len cap] w (.tuple #[J Y f,J Y m,J O u'])) by
  obtain⟨u',h1,h3⟩:=h
  exact⟨f,m,u',hf,hm,h1,h3⟩
 have hu':=hu
 obtain⟨u0,u1⟩:=hu
 rcases(show h6<2∨(h6=2∨h6=3∨h6=4)∨h6=5 by omega)with k1|k1|rfl
 ·rcases Om.out f m u u u0 u1 u0 u1 with⟨pp,mx,one,inf,sg,nan,hF,Ro⟩|Ro
  ·have hb:=hF.bounds
   obtain⟨Z,fl,Z0,Z1,HM⟩:=HMu.out f pp mx one inf sg nan u u hF u0 u1 u0 u1
   have V9:KW 61 #[J Y f] (.bool true):=fun w=>iD f true (aI.yes hF) w
   have HSg:KW 111 #[J Y f] (J O sg):=fun w=>dM hF w
   have HIn:KW 112 #[J Y f] (J O inf):=fun w=>dQ hF w
   clear hb HMu Om
   obtain⟨r,hr⟩:∃r,u%sg=r:=⟨_,rfl⟩
   have hr':Int.tmod u sg=r:=by rw[Int.tmod_eq_emod_of_nonneg u0];exact hr
   have r0:0≤r∧r<sg:=by rw[←hr];exact⟨Int.emod_nonneg _ (by rcases hF with h|h<;>omega),Int.emod_lt_of_pos _ (by rcases hF with h|h<;>omega)⟩
   rcases hF with⟨rfl,rfl,rfl,rfl,rfl,rfl,rfl⟩|⟨rfl,rfl,rfl,rfl,rfl,rfl,rfl⟩
   ·rcases(show(decide (4<Z)=true∧decide (Z<2139095036)=true)∨decide (4<Z)=false∨(decide (4<Z)=true∧decide (Z<2139095036)=false) by simp;omega)with⟨d1,d2⟩|d1|⟨d1,d2⟩
    ·exact aH5
    ·exact aG8
    ·exact aG8
   ·rcases(show(decide (4<Z)=true∧decide (Z<9218868437227405308)=true)∨decide (4<Z)=false∨(decide (4<Z)=true∧decide (Z<9218868437227405308)=false) by simp;omega)with⟨d1,d2⟩|d1|⟨d1,d2⟩
    ·exact aH5
    ·exact aG8
    ·exact aG8
  ·clear HMu Om
   rcases aGY f with⟨pp,mx,one,inf,sg,nan,hF⟩|hno
   ·have V9:KW 61 #[J Y f] (.bool true):=fun w=>iD f true (aI.yes hF) w
    have HSg:KW 111 #[J Y f] (J O sg):=fun w=>dM hF w
    have HIn:KW 112 #[J Y f] (J O inf):=fun w=>dQ hF w
    obtain⟨r,hr⟩:∃r,u%sg=r:=⟨_,rfl⟩
    have hr':Int.tmod u sg=r:=by rw[Int.tmod_eq_emod_of_nonneg u0];exact hr
    have r0:0≤r∧r<sg:=by rw[←hr];exact⟨Int.emod_nonneg _ (by rcases hF with h|h<;>omega),Int.emod_lt_of_pos _ (by rcases hF with h|h<;>omega)⟩
    rcases hF with⟨rfl,rfl,rfl,rfl,rfl,rfl,rfl⟩|⟨rfl,rfl,rfl,rfl,rfl,rfl,rfl⟩<;>rcases(show h6=0∨h6=1 by omega)with rfl|rfl
    all_goals
     apply Exists.intro
     refine⟨?_,fun w hC=>?_⟩
     rotate_left 1
     ·have HC:Hid (∀w',Gr w w'→rD w' a len c):=fun w' g=>hC.gr g
      clear hC
      go_enter func93,ntmps93
      go_upto_region 2 with(go_at_call 166;refine(H.out _ (HC.out _ (Gr.refl _))).mono ?_;rintro x w1 ⟨rfl,aj⟩)
      go_upto_region 3 with(go_at_call 48;refine(T1.out _ (HC.out _ aj)).mono ?_;rintro x w' ⟨rfl,hw⟩;subst hw)
      go_upto_region 4 with(go_at_call 48;refine(T2.out _ (HC.out _ aj)).mono ?_;rintro x w' ⟨rfl,hw⟩;subst hw)
      go_wp2_with (first
       |(go_at_call 117;refine(Ro.out _).mono ?_;rintro x w' ⟨rfl,hw⟩;subst hw)
       |(go_at_call 61;refine(V9.out _).mono ?_;rintro x w' ⟨rfl,hw⟩;subst hw))
      (try (go_quiet (first|(go_at_call 111;refine Calls.quiet_of_same (bM HSg _))|(go_at_call 112;refine Calls.quiet_of_same (bM HIn _)));go_wp2))
      exact aGu
     all_goals (first|assumption|(unfold bn;first|omega|(simp only[IntKind.wrap_u64];omega)))
   ·have V9:KW 61 #[J Y f] (.bool false):=fun w=>iD f false (by symm;simp;omega) w
    rcases(show h6=0∨h6=1 by omega)with rfl|rfl
    all_goals
     apply Exists.intro
     refine⟨?_,fun w hC=>?_⟩
     rotate_left 1
     ·have HC:Hid (∀w',Gr w w'→rD w' a len c):=fun w' g=>hC.gr g
      clear hC
      go_enter func93,ntmps93
      go_upto_region 2 with(go_at_call 166;refine(H.out _ (HC.out _ (Gr.refl _))).mono ?_;rintro x w1 ⟨rfl,aj⟩)
      go_upto_region 3 with(go_at_call 48;refine(T1.out _ (HC.out _ aj)).mono ?_;rintro x w' ⟨rfl,hw⟩;subst hw)
      go_upto_region 4 with(go_at_call 48;refine(T2.out _ (HC.out _ aj)).mono ?_;rintro x w' ⟨rfl,hw⟩;subst hw)
      go_wp2_with (first
       |(go_at_call 117;refine(Ro.out _).mono ?_;rintro x w' ⟨rfl,hw⟩;subst hw)
       |(go_at_call 61;refine(V9.out _).mono ?_;rintro x w' ⟨rfl,hw⟩;subst hw))
      exact aGu
     all_goals (first|assumption|(unfold bn;first|omega|(simp only[IntKind.wrap_u64];omega)))
 ·clear HMu Om
  rcases aGY f with⟨pp,mx,one,inf,sg,nan,hF⟩|hno
  ·have V9:KW 61 #[J Y f] (.bool true):=fun w=>iD f true (aI.yes hF) w
   have HSg:KW 111 #[J Y f] (J O sg):=fun w=>dM hF w
   have HIn:KW 112 #[J Y f] (J O inf):=fun w=>dQ hF w
   obtain⟨r,hr⟩:∃r,u%sg=r:=⟨_,rfl⟩
   have hr':Int.tmod u sg=r:=by rw[Int.tmod_eq_emod_of_nonneg u0];exact hr
   have r0:0≤r∧r<sg:=by rw[←hr];exact⟨Int.emod_nonneg _ (by rcases hF with h|h<;>omega),Int.emod_lt_of_pos _ (by rcases hF with h|h<;>omega)⟩
   rcases hF with⟨rfl,rfl,rfl,rfl,rfl,rfl,rfl⟩|⟨rfl,rfl,rfl,rfl,rfl,rfl,rfl⟩<;>rcases k1 with rfl|rfl|rfl
   all_goals
    apply Exists.intro
    refine⟨?_,fun w hC=>?_⟩
    rotate_left 1
    ·have HC:Hid (∀w',Gr w w'→rD w' a len c):=fun w' g=>hC.gr g
     clear hC
     go_enter func93,ntmps93
     go_upto_region 2 with(go_at_call 166;refine(H.out _ (HC.out _ (Gr.refl _))).mono ?_;rintro x w1 ⟨rfl,aj⟩)
     go_upto_region 3 with(go_at_call 48;refine(T1.out _ (HC.out _ aj)).mono ?_;rintro x w' ⟨rfl,hw⟩;subst hw)
     go_upto_region 4 with(go_at_call 48;refine(T2.out _ (HC.out _ aj)).mono ?_;rintro x w' ⟨rfl,hw⟩;subst hw)
     exact aH4
    all_goals (first|assumption|(unfold bn;first|omega|(simp only[IntKind.wrap_u64];omega)))
  ·have V9:KW 61 #[J Y f] (.bool false):=fun w=>iD f false (by symm;simp;omega) w
   rcases k1 with rfl|rfl|rfl
   all_goals
    apply Exists.intro
    refine⟨?_,fun w hC=>?_⟩
    rotate_left 1
    ·have HC:Hid (∀w',Gr w w'→rD w' a len c):=fun w' g=>hC.gr g
     clear hC
     go_enter func93,ntmps93
     go_upto_region 2 with(go_at_call 166;refine(H.out _ (HC.out _ (Gr.refl _))).mono ?_;rintro x w1 ⟨rfl,aj⟩)
     go_upto_region 3 with(go_at_call 48;refine(T1.out _ (HC.out _ aj)).mono ?_;rintro x w' ⟨rfl,hw⟩;subst hw)
     go_upto_region 4 with(go_at_call 48;refine(T2.out _ (HC.out _ aj)).mono ?_;rintro x w' ⟨rfl,hw⟩;subst hw)
     go_wp2_with (go_at_call 61;refine(V9.out _).mono ?_;rintro x w' ⟨rfl,hw⟩;subst hw)
     exact aGu
    all_goals (first|assumption|(unfold bn;first|omega|(simp only[IntKind.wrap_u64];omega)))
 ·clear HMu Om
  apply Exists.intro
  refine⟨?_,fun w hC=>?_⟩
  rotate_left 1
  ·have HC:Hid (∀w',Gr w w'→rD w' a len c):=fun w' g=>hC.gr g
   clear hC
   go_enter func93,ntmps93
   go_upto_region 2 with(go_at_call 166;refine(H.out _ (HC.out _ (Gr.refl _))).mono ?_;rintro x w1 ⟨rfl,aj⟩)
   go_upto_region 3 with(go_at_call 48;refine(T1.out _ (HC.out _ aj)).mono ?_;rintro x w' ⟨rfl,hw⟩;subst hw)
   go_upto_region 4 with(go_at_call 48;refine(T2.out _ (HC.out _ aj)).mono ?_;rintro x w' ⟨rfl,hw⟩;subst hw)
   go_wp2
   exact aGu
  all_goals (first|assumption|(unfold bn;first|omega|(simp only[IntKind.wrap_u64];omega)))
theorem aIj{w0:World}{a:Option Addr}{len:Nat}{c:Nat→Int}(cap:Nat)(h0:rD w0 a len c)(p:Nat)(hp:p≤900):
  ∃k:Int,(-1≤k∧k≤4)∧Hid (∀w,rD w a len c→QW 185 #[.slice a len cap,J Y p] w (.tuple #[J Y k,J Y ((p+1:Nat):Int)])):=by
 obtain⟨x,x0,x1,T1⟩:=iZ cap h0 p 60 om om om
 clear h0
 rcases(show x=58∨x=59∨x<58 by omega)with rfl|rfl|k
 all_goals
  apply Exists.intro
  refine⟨?_,fun w hC=>?_⟩
  rotate_left 1
  ·have HC:Hid (rD w a len c):=hC
   clear hC
   go_enter func185,ntmps185
   go_upto_region 3 with(go_at_call 48;refine(T1.out _ HC.out).mono ?_;rintro x w' ⟨rfl,hw⟩;subst hw)
   go_wp2
   go_returns
   refine⟨?_,rfl⟩
   simp[go_sem]
   rfl
  all_goals omega
theorem aIk{w0:World}{a:Option Addr}{len:Nat}{c:Nat→Int}(cap:Nat)(h0:rD w0 a len c)
  (HWd:Hid (∀(s:Int) (N:Nat),(s=0∨s=1)→N<18446744073709551616→∃z:Int,bn z∧Hid (∀(b n c:Nat) (w:World),aB 20 w (.slice (some ⟨b,0,none⟩) n c) N→QB 127 #[J Y s,.slice (some ⟨b,0,none⟩) n c] w (J O z)))):
  ∃f m k u:Int,Sml f∧Sml m∧(-1≤k∧k≤4)∧bn u∧Hid (∀w,rD w a len c→QB 96 #[.slice a len cap] w (.tuple #[J Y f,J Y m,J Y k,J O u])):=by
 obtain⟨f,m,hf,hm,F1⟩:=aFD cap h0 0 om
 obtain⟨kd,hk,K1⟩:=aIj cap h0 2 om
 obtain⟨how,h1,h2,T1⟩:=iZ cap h0 3 10 om om om
 obtain⟨v,j,hv,hj,B1⟩:=aGI 64 om cap h0 4 om
 obtain⟨x5,x0,x1,T2⟩:=iZ cap h0 j 5 om om om
 clear h0
 suffices h:∃u':Int,bn u'∧Hid (∀w,rD w a len c→QB 96 #[.slice a len cap] w (.tuple #[J Y f,J Y m,J Y kd,J O u'])) by
  obtain⟨u',h1,h3⟩:=h
  exact⟨f,m,kd,u',hf,hm,hk,h1,h3⟩
 have hv':=hv
 obtain⟨v0,v1⟩:=hv
 obtain⟨B,hB⟩:∃B,nY kd=B:=⟨_,rfl⟩
 obtain⟨S,hS⟩:∃S,uO kd=S:=⟨_,rfl⟩
 have HK:KW 126 #[J Y kd] (.tuple #[J Y B,.bool S]):=fun w=>by rw[←hB,←hS];exact nG kd w
 have HM:Hid (∀s w,(s=0∨s=1)→CT 128 #[J Y kd,J Y s] w fun e w'=>∃b k c,aB 20 w' (.slice (some ⟨b,0,none⟩) k c) (dX kd s)∧e=.returned (.slice (some ⟨b,0,none⟩) k c)∧Gb w w'):=fun s w hs=>zN kd s hs w
 have HT:KW 114 #[J Y 31] (J O 2147483648):=fun w=>mP 31 _ om de w
 obtain⟨z0,hz0,W0⟩:=HWd.out 0 (dX kd 0) (.inl rfl) (uX _ _)
 obtain⟨z1,hz1,W1⟩:=HWd.out 1 (dX kd 1) (.inr rfl) (uX _ _)
 clear hB hS HWd
 unfold bn at hz0 hz1
 obtain⟨u,hu⟩:∃u,v%4294967296=u:=⟨_,rfl⟩
 have hu':Int.tmod v 4294967296=u:=by rw[Int.tmod_eq_emod_of_nonneg v0];exact hu
 have u0:0≤u∧u<4294967296:=om
 rcases(show how=9∨how=8∨((how==8)=false∧(how==9)=false) by simp;omega)with rfl|rfl|⟨n8,n9⟩
 ·refine⟨v,hv',fun w hC=>?_⟩
  have HC:Hid (rD w a len c):=hC
  clear hC
  go_enter func96,ntmps96
  go_upto_region 2 with(go_at_call 184;refine(F1.out _ HC.out).mono ?_;rintro x w' ⟨rfl,hw⟩;subst hw)
  go_upto_region 3 with(go_at_call 185;refine(K1.out _ HC.out).mono ?_;rintro x w' ⟨rfl,hw⟩;subst hw)
  go_upto_region 4 with(go_at_call 48;refine(T1.out _ HC.out).mono ?_;rintro x w' ⟨rfl,hw⟩;subst hw)
  go_upto_region 5 with(go_at_call 163;refine(B1.out _ HC.out).mono ?_;rintro x w' ⟨rfl,hw⟩;subst hw)
  go_upto_region 6 with(go_at_call 48;refine(T2.out _ HC.out).mono ?_;rintro x w' ⟨rfl,hw⟩;subst hw)
  go_wp2_with (go_at_call 126;refine(HK.out _).mono ?_;rintro x w' ⟨rfl,hw⟩;subst hw)
  go_returns
  exact⟨rfl,Gb.refl _⟩
 ·rcases(show x5=0∨x5=1∨x5=2∨x5=3∨x5=4 by omega)with rfl|rfl|rfl|rfl|rfl
  all_goals
   rcases(show B=32∨(B==32)=false by simp;omega)with rfl|hB
   all_goals
    apply Exists.intro
    refine⟨?_,fun w hC=>?_⟩
    rotate_left 1
    ·have HC:Hid (rD w a len c):=hC
     clear hC
     go_enter func96,ntmps96
     go_upto_region 2 with(go_at_call 184;refine(F1.out _ HC.out).mono ?_;rintro x w' ⟨rfl,hw⟩;subst hw)
     go_upto_region 3 with(go_at_call 185;refine(K1.out _ HC.out).mono ?_;rintro x w' ⟨rfl,hw⟩;subst hw)
     go_upto_region 4 with(go_at_call 48;refine(T1.out _ HC.out).mono ?_;rintro x w' ⟨rfl,hw⟩;subst hw)
     go_upto_region 5 with(go_at_call 163;refine(B1.out _ HC.out).mono ?_;rintro x w' ⟨rfl,hw⟩;subst hw)
     go_upto_region 6 with(go_at_call 48;refine(T2.out _ HC.out).mono ?_;rintro x w' ⟨rfl,hw⟩;subst hw)
     go_wp2_with (first
      |(go_at_call 126;refine(HK.out _).mono ?_;rintro x w' ⟨rfl,hw⟩;subst hw)
      |(go_at_call 128;refine(HM.out _ _ de).mono ?_;rintro x w1 ⟨b1,n1,c1,hb1,rfl,aj⟩)
      |(go_at_call 127;first|(with_reducible refine(W0.out _ _ _ _ hb1).mono ?_;rintro x w2 ⟨rfl,ak⟩)|(with_reducible refine(W1.out _ _ _ _ hb1).mono ?_;rintro x w2 ⟨rfl,ak⟩)))
     go_returns
     refine⟨?_,aj.trans ak⟩
     simp[go_sem]
     rfl
    all_goals (unfold bn;first|omega|(simp only[IntKind.wrap_u64];omega))
 ·rcases(show(B=32∧S=false)∨(B=32∧S=true∧decide (2147483648≤u)=true)∨(B=32∧S=true∧decide (2147483648≤u)=false)∨((B==32)=false∧S=false)∨((B==32)=false∧S=true) by cases S<;>simp<;>omega)with⟨rfl,rfl⟩|⟨rfl,rfl,d⟩|⟨rfl,rfl,d⟩|⟨d,rfl⟩|⟨d,rfl⟩
  all_goals
   apply Exists.intro
   refine⟨?_,fun w hC=>?_⟩
   rotate_left 1
   ·have HC:Hid (rD w a len c):=hC
    clear hC
    go_enter func96,ntmps96
    go_upto_region 2 with(go_at_call 184;refine(F1.out _ HC.out).mono ?_;rintro x w' ⟨rfl,hw⟩;subst hw)
    go_upto_region 3 with(go_at_call 185;refine(K1.out _ HC.out).mono ?_;rintro x w' ⟨rfl,hw⟩;subst hw)
    go_upto_region 4 with(go_at_call 48;refine(T1.out _ HC.out).mono ?_;rintro x w' ⟨rfl,hw⟩;subst hw)
    go_upto_region 5 with(go_at_call 163;refine(B1.out _ HC.out).mono ?_;rintro x w' ⟨rfl,hw⟩;subst hw)
    go_upto_region 6 with(go_at_call 48;refine(T2.out _ HC.out).mono ?_;rintro x w' ⟨rfl,hw⟩;subst hw)
    go_wp2_with (first
     |(go_at_call 126;refine(HK.out _).mono ?_;rintro x w' ⟨rfl,hw⟩;subst hw)
     |(go_at_call 114;refine(HT.out _).mono ?_;rintro x w' ⟨rfl,hw⟩;subst hw))
    go_returns
    refine⟨?_,Gb.refl _⟩
    simp[go_sem]
    rfl
   all_goals (first|assumption|(unfold bn;first|omega|(simp only[IntKind.wrap_u64];omega)))
