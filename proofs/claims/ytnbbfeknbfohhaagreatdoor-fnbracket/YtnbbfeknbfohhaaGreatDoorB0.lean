import Derived.Test.YtnbbfeknbfohhaaGreatDoorA1
import Derived.Test.YtnbbfeknbfohhaaGreatDoorRows
import Derived.WalkSpells
import Derived.WalkLawsBesides
import Derived.Deep.LoopGhost
set_option linter.unusedVariables false
set_option linter.unusedSimpArgs false
open Go.Value renaming int → J
open Go.IntKind renaming i64 → Y, u64 → Z
open Go.Proofs.Tryz
namespace Go.Proofs.YtnbbfeknbfohhaaGreatDoor
open Go.RowKit
def aI(f p mx one inf sg nan:Int):Prop:=
 (f=0∧p=24∧mx=127∧one=8388608∧inf=2139095040∧sg=2147483648∧nan=2143289344)∨
 (f=1∧p=53∧mx=1023∧one=4503599627370496∧inf=9218868437227405312∧sg=9223372036854775808∧nan=9221120237041090560)
theorem iD(f:Int)(b:Bool)(hb:b=decide (f=0∨f=1))(w:World):
  QW 61 #[J Y f] w (.bool b):=by
 rcases(show f=0∨f=1∨((f==0)=false∧(f==1)=false∧¬(f=0∨f=1)) by simp;omega)with rfl|rfl|⟨e0,e1,h⟩
 ·have:b=true:=by rw[hb];decide
  subst this
  clear hb
  go_enter func61,ntmps61
  go_wp2
  go_ret
  exact⟨rfl,rfl⟩
 ·have:b=true:=by rw[hb];decide
  subst this
  clear hb
  go_enter func61,ntmps61
  go_wp2
  go_ret
  exact⟨rfl,rfl⟩
 ·have:b=false:=by rw[hb];simp;omega
  subst this
  clear h hb
  go_enter func61,ntmps61
  go_wp2
  go_ret
  exact⟨rfl,rfl⟩
theorem lD{f p mx one inf sg nan:Int}(h:aI f p mx one inf sg nan)(w:World):
  QW 115 #[J Y f] w (J Y p):=by
 rcases h with⟨rfl,rfl,rfl,rfl,rfl,rfl,rfl⟩|⟨rfl,rfl,rfl,rfl,rfl,rfl,rfl⟩
 all_goals
  go_enter func115,ntmps115
  go_wp2
  go_ret
  exact⟨rfl,rfl⟩
theorem wF{f p mx one inf sg nan:Int}(h:aI f p mx one inf sg nan)(w:World):
  QW 153 #[J Y f] w (J Y mx):=by
 rcases h with⟨rfl,rfl,rfl,rfl,rfl,rfl,rfl⟩|⟨rfl,rfl,rfl,rfl,rfl,rfl,rfl⟩
 all_goals
  go_enter func153,ntmps153
  go_wp2
  go_ret
  exact⟨rfl,rfl⟩
theorem oI{f p mx one inf sg nan:Int}(h:aI f p mx one inf sg nan)(w:World):
  QW 116 #[J Y f] w (J Y (1-mx)):=by
 have hm:-2000≤mx∧mx≤2000:=by rcases h with h|h<;>omega
 go_enter func116,ntmps116
 go_wp2_with (go_at_call 153;refine(wF h _).mono ?_;rintro e w' ⟨rfl,hw⟩;subst hw)
 go_ret
 exact⟨rfl,rfl⟩
theorem P_(k:Nat)(h:k≤62):(2:Int)^k≤4611686018427387904:=by
 have:=Nat.pow_le_pow_right (show 0<2 by decide) h
 have c:(2:Int)^k=((2^k:Nat):Int):=by push_cast;rfl
 rw[c];omega
theorem mP(n:Nat)(z:Int)(hn:n≤63)(hz:z=2^n)(w:World):
  QW 114 #[J Y n] w (J Z z):=by
 have HZ:Hid _:=hz
 clear hz
 go_enter func114,ntmps114
 go_wp2
 go_loop [3,4] (fun s i=>∃(k:Nat) (P:Int),k≤n∧s=J Z P∧i=J Y k∧Hid (P=2^k)∧1≤P) (fun _ i=>n-(intOf i).toNat)
 case atStart=>exact⟨0,1,om,rfl,rfl,rfl,om⟩
 case round=>
  obtain⟨k,P,hk,rfl,rfl,HP,p1⟩:=hrel
  by_cases hlt:(k:Int)<(n:Int)
  ·have hp:=P_ k om
   rw[←HP.out]at hp
   go_wp2
   go_round
   case rel=>exact⟨k+1,P*2,om,rfl,by go_num,by show _=_;rw[Int.pow_succ,←HP.out],om⟩
   case measure=>simp[intOf];omega
  ·have e:P=z:=by rw[HP.out,HZ.out,show k=n by omega]
   have E:Hid _:=e
   clear e
   go_wp2
   go_ret
   exact⟨aU (congrArg (Value.int IntKind.u64) E.out),rfl⟩
theorem aI.bounds{f p mx one inf sg nan:Int}(h:aI f p mx one inf sg nan):24≤p∧p≤53∧127≤mx∧mx≤1023∧8388608≤one∧one≤4503599627370496∧0<inf∧inf<sg∧inf<nan∧nan<sg∧sg≤9223372036854775808∧one<inf:=by
 rcases h with h|h<;>omega
theorem aI.pow{f p mx one inf sg nan:Int}(h:aI f p mx one inf sg nan):∃n:Nat,(n:Int)=p-1∧n≤63∧one=2^n:=by
 rcases h with h|h
 ·exact⟨23,om,om,by rw[h.2.2.2.1];decide⟩
 ·exact⟨52,om,om,by rw[h.2.2.2.1];decide⟩
theorem mQ{f p mx one inf sg nan:Int}(h:aI f p mx one inf sg nan)(w:World):
  QW 114 #[J Y (p-1)] w (J Z one):=by
 obtain⟨n,hn,hn63,hone⟩:=h.pow
 rw[←hn]
 exact mP n one hn63 hone w
theorem dQ{f p mx one inf sg nan:Int}(h:aI f p mx one inf sg nan)(w:World):
  QW 112 #[J Y f] w (J Z inf):=by
 obtain⟨b1,b2,b3,b4,b5,b6,b7,b8,b9,b10,b11,b12⟩:=h.bounds
 have he:IntKind.u64.wrap (one*(2*mx+1))=inf:=by
  rw[IntKind.wrap_u64]
  rcases h with⟨rfl,rfl,rfl,rfl,rfl,rfl,rfl⟩|⟨rfl,rfl,rfl,rfl,rfl,rfl,rfl⟩<;>decide
 have HE:Hid _:=h
 clear h
 go_enter func112,ntmps112
 go_wp2_with (first
  |(go_at_call 115;refine(lD HE.out _).mono ?_;rintro e w' ⟨rfl,hw⟩;subst hw)
  |(go_at_call 114;refine(mQ HE.out _).mono ?_;rintro e w' ⟨rfl,hw⟩;subst hw)
  |(go_at_call 153;refine(wF HE.out _).mono ?_;rintro e w' ⟨rfl,hw⟩;subst hw))
 go_ret
 exact⟨rfl,rfl⟩
theorem dM{f p mx one inf sg nan:Int}(h:aI f p mx one inf sg nan)(w:World):
  QW 111 #[J Y f] w (J Z sg):=by
 rcases h with⟨rfl,rfl,rfl,rfl,rfl,rfl,rfl⟩|⟨rfl,rfl,rfl,rfl,rfl,rfl,rfl⟩
 ·go_enter func111,ntmps111
  go_wp2_with (go_at_call 114;refine(mP 31 2147483648 om de _).mono ?_;rintro e w' ⟨rfl,hw⟩;subst hw)
  go_ret
  exact⟨rfl,rfl⟩
 ·go_enter func111,ntmps111
  go_wp2_with (go_at_call 114;refine(mP 63 9223372036854775808 om de _).mono ?_;rintro e w' ⟨rfl,hw⟩;subst hw)
  go_ret
  exact⟨rfl,rfl⟩
theorem gX{f p mx one inf sg nan:Int}(h:aI f p mx one inf sg nan)(w:World):
  QW 113 #[J Y f] w (J Z nan):=by
 have H0:∀w,QW 114 #[J Y (p-2)] w (J Z (nan-inf)):=by
  rcases h with⟨rfl,rfl,rfl,rfl,rfl,rfl,rfl⟩|⟨rfl,rfl,rfl,rfl,rfl,rfl,rfl⟩
  ·exact fun w=>mP 22 _ om de w
  ·exact fun w=>mP 51 _ om de w
 obtain⟨b1,b2,b3,b4,b5,b6,b7,b8,b9,b10,b11,b12⟩:=h.bounds
 have HE:Hid _:=h
 have H0h:Hid _:=H0
 have he:inf+(nan-inf)=nan:=om
 clear h H0
 go_enter func113,ntmps113
 go_wp2_with (first
  |(go_at_call 112;refine(dQ HE.out _).mono ?_;rintro e w' ⟨rfl,hw⟩;subst hw)
  |(go_at_call 115;refine(lD HE.out _).mono ?_;rintro e w' ⟨rfl,hw⟩;subst hw)
  |(go_at_call 114;refine(H0h.out _).mono ?_;rintro e w' ⟨rfl,hw⟩;subst hw))
 go_ret
 exact⟨rfl,rfl⟩
theorem cZ{f p mx one inf sg nan:Int}(h:aI f p mx one inf sg nan)(w:World):
  QR 63 #[J Y f] w (.agg #[J Z nan,J Y 1]):=by
 have hf:true=decide (f=0∨f=1):=by rcases h with h|h<;>simp[h.1]
 have HE:Hid _:=h
 have HF:Hid _:=hf
 clear h hf
 go_enter func63,ntmps63
 go_wp2_with (first
  |(go_at_call 61;refine(iD _ true HF.out _).mono ?_;rintro e w' ⟨rfl,hw⟩;subst hw)
  |(go_at_call 113;refine(gX HE.out _).mono ?_;rintro e w' ⟨rfl,hw⟩;subst hw))
 go_returns
 exact⟨rfl,kr⟩
theorem aCH:aI 1 53 1023 4503599627370496 9218868437227405312 9223372036854775808 9221120237041090560:=.inr ⟨rfl,rfl,rfl,rfl,rfl,rfl,rfl⟩
theorem oJ(f:Int)(h:¬(f=0∨f=1))(w:World):
  QR 63 #[J Y f] w (.agg #[J Z 9221120237041090560,J Y 1]):=by
 have HF:Hid (false=decide (f=0∨f=1)):=by show _=_;simp;omega
 clear h
 go_enter func63,ntmps63
 go_wp2_with (first
  |(go_at_call 61;refine(iD _ false HF.out _).mono ?_;rintro e w' ⟨rfl,hw⟩;subst hw)
  |(go_at_call 113;refine(gX aCH _).mono ?_;rintro e w' ⟨rfl,hw⟩;subst hw))
 go_returns
 exact⟨rfl,kr⟩
theorem J9(f v:Int)(w:World):
  QW 151 #[J Y f,J Y 0,J Z v] w (J Z v):=by
 go_enter func151,ntmps151
 go_wp2
 go_ret
 exact⟨rfl,rfl⟩
theorem QF{f p mx one inf sg nan:Int}(h:aI f p mx one inf sg nan)(v:Int)(v0:0≤v)(v1:v<sg)(w:World):
  QW 151 #[J Y f,J Y 1,J Z v] w (J Z (v+sg)):=by
 obtain⟨b1,b2,b3,b4,b5,b6,b7,b8,b9,b10,b11,b12⟩:=h.bounds
 have HE:Hid _:=h
 clear h
 go_enter func151,ntmps151
 go_wp2_with (go_at_call 111;refine(dM HE.out _).mono ?_;rintro e w' ⟨rfl,hw⟩;subst hw)
 go_ret
 exact⟨rfl,rfl⟩
theorem aI.yes{f p mx one inf sg nan:Int}(h:aI f p mx one inf sg nan):true=decide (f=0∨f=1):=by
 rcases h with h|h<;>simp[h.1]
theorem dB{f p mx one inf sg nan:Int}(h:aI f p mx one inf sg nan)(v:Int)(v0:0≤v)(v1:v<2*sg)(w:World):
  QW 110 #[J Y f,J Z v] w (.bool true):=by
 rcases h with⟨rfl,rfl,rfl,rfl,rfl,rfl,rfl⟩|⟨rfl,rfl,rfl,rfl,rfl,rfl,rfl⟩
 all_goals
  go_enter func110,ntmps110
  go_wp2_with (go_at_call 61;refine(iD _ true de _).mono ?_;rintro e w' ⟨rfl,hw⟩;subst hw)
  go_ret
  first
   |exact⟨rfl,rfl⟩
   |exact⟨congrArg (fun b=>Exit.returned (Value.bool b)) (decide_eq_true om),rfl⟩
   |(refine⟨?_,rfl⟩;simp;omega)
theorem CG(f v:Int)(v0:0≤v)(h:¬(f=0∨f=1)∨(f=0∧4294967296≤v))(w:World):
  QW 110 #[J Y f,J Z v] w (.bool false):=by
 rcases h with h|⟨rfl,hv⟩
 ·have hf:false=decide (f=0∨f=1):=by simp;omega
  have HF:Hid _:=hf
  clear hf h
  go_enter func110,ntmps110
  go_wp2_with (go_at_call 61;refine(iD _ false HF.out _).mono ?_;rintro e w' ⟨rfl,hw⟩;subst hw)
  go_ret
  exact⟨rfl,rfl⟩
 ·go_enter func110,ntmps110
  go_wp2_with (go_at_call 61;refine(iD _ true de _).mono ?_;rintro e w' ⟨rfl,hw⟩;subst hw)
  go_ret
  first
   |exact⟨rfl,rfl⟩
   |(refine⟨?_,rfl⟩;simp;omega)
set_option maxHeartbeats 40000000
def nM(p mx one v e g:Int):Prop:=
 ∃(k:Nat) (m e0:Int),(v<one∧m=v∧e0=2-mx-p∨one≤v∧m=v%one+one∧e0=1-mx-p+v/one)∧g=m*2^k∧e=e0-k∧one≤g∧g<2*one
def bY(p mx one inf sg nan W c s e g:Int):Prop:=
 ∃v:Int,(s=0∧v=W∧W<sg∨s=1∧v=W-sg∧sg≤W)∧
  (v=0∧c=0∧e=0∧g=0∨inf<v∧v<nan∧c=4∧e=0∧g=0∨nan≤v∧c=3∧e=0∧g=0∨v=inf∧c=2∧e=0∧g=0∨0<v∧v<inf∧c=1∧nM p mx one v e g)
theorem xO{f p mx one inf sg nan:Int}(h:aI f p mx one inf sg nan)(W:Int)(v0:0≤W)(v1:W<2*sg)(hn:W=0∨W=sg∨(inf≤W∧W<sg)∨sg+inf≤W)(w:World):
  CT 31 #[J Y f,J Z W] w fun e w'=>∃c s x g:Int,bY p mx one inf sg nan W c s x g∧e=.returned (.agg #[J Y c,J Y s,J Y x,J Z g])∧Gr w w':=by
 obtain⟨b1,b2,b3,b4,b5,b6,b7,b8,b9,b10,b11,b12⟩:=h.bounds
 have HE:Hid _:=h
 clear h
 rcases(show W=0∨W=sg∨(inf<W∧W<nan)∨(nan≤W∧W<sg)∨W=inf∨(∃v,W=v+sg∧inf<v∧v<nan)∨(∃v,W=v+sg∧nan≤v)∨W=inf+sg by
  rcases hn with h|h|h|h
  ·exact .inl h
  ·exact .inr (.inl h)
  ·omega
  ·by_cases a:W=inf+sg
   ·simp[a]
   ·by_cases b:W-sg<nan
    ·exact .inr (.inr (.inr (.inr (.inr (.inl ⟨W-sg,om,om,b⟩)))))
    ·exact .inr (.inr (.inr (.inr (.inr (.inr (.inl ⟨W-sg,om,om⟩)))))))with rfl|rfl|⟨c1,c2⟩|⟨c1,c2⟩|rfl|⟨v,rfl,c1,c2⟩|⟨v,rfl,c1⟩|rfl
 ·go_enter func31,ntmps31
  go_wp2_with (first
   |(go_at_call 110;refine(dB HE.out _ om om _).mono ?_;rintro e w' ⟨rfl,hw⟩;subst hw)
   |(go_at_call 112;refine(dQ HE.out _).mono ?_;rintro e w' ⟨rfl,hw⟩;subst hw)
   |(go_at_call 113;refine(gX HE.out _).mono ?_;rintro e w' ⟨rfl,hw⟩;subst hw)
   |(go_at_call 111;refine(dM HE.out _).mono ?_;rintro e w' ⟨rfl,hw⟩;subst hw))
  go_returns
  exact⟨0,0,0,0,⟨0,.inl ⟨rfl,rfl,om⟩,.inl ⟨rfl,rfl,rfl,rfl⟩⟩,rfl,kr⟩
 ·go_enter func31,ntmps31
  go_wp2_with (first
   |(go_at_call 110;refine(dB HE.out _ om om _).mono ?_;rintro e w' ⟨rfl,hw⟩;subst hw)
   |(go_at_call 112;refine(dQ HE.out _).mono ?_;rintro e w' ⟨rfl,hw⟩;subst hw)
   |(go_at_call 113;refine(gX HE.out _).mono ?_;rintro e w' ⟨rfl,hw⟩;subst hw)
   |(go_at_call 111;refine(dM HE.out _).mono ?_;rintro e w' ⟨rfl,hw⟩;subst hw))
  go_returns
  exact⟨0,1,0,0,⟨0,.inr ⟨rfl,om,om⟩,.inl ⟨rfl,rfl,rfl,rfl⟩⟩,rfl,kr⟩
 ·go_enter func31,ntmps31
  go_wp2_with (first
   |(go_at_call 110;refine(dB HE.out _ om om _).mono ?_;rintro e w' ⟨rfl,hw⟩;subst hw)
   |(go_at_call 112;refine(dQ HE.out _).mono ?_;rintro e w' ⟨rfl,hw⟩;subst hw)
   |(go_at_call 113;refine(gX HE.out _).mono ?_;rintro e w' ⟨rfl,hw⟩;subst hw)
   |(go_at_call 111;refine(dM HE.out _).mono ?_;rintro e w' ⟨rfl,hw⟩;subst hw))
  go_returns
  exact⟨4,0,0,0,⟨W,.inl ⟨rfl,rfl,om⟩,.inr (.inl ⟨c1,c2,rfl,rfl,rfl⟩)⟩,rfl,kr⟩
 ·go_enter func31,ntmps31
  go_wp2_with (first
   |(go_at_call 110;refine(dB HE.out _ om om _).mono ?_;rintro e w' ⟨rfl,hw⟩;subst hw)
   |(go_at_call 112;refine(dQ HE.out _).mono ?_;rintro e w' ⟨rfl,hw⟩;subst hw)
   |(go_at_call 113;refine(gX HE.out _).mono ?_;rintro e w' ⟨rfl,hw⟩;subst hw)
   |(go_at_call 111;refine(dM HE.out _).mono ?_;rintro e w' ⟨rfl,hw⟩;subst hw))
  go_returns
  exact⟨3,0,0,0,⟨W,.inl ⟨rfl,rfl,om⟩,.inr (.inr (.inl ⟨c1,rfl,rfl,rfl⟩))⟩,rfl,kr⟩
 ·go_enter func31,ntmps31
  go_wp2_with (first
   |(go_at_call 110;refine(dB HE.out _ om om _).mono ?_;rintro e w' ⟨rfl,hw⟩;subst hw)
   |(go_at_call 112;refine(dQ HE.out _).mono ?_;rintro e w' ⟨rfl,hw⟩;subst hw)
   |(go_at_call 113;refine(gX HE.out _).mono ?_;rintro e w' ⟨rfl,hw⟩;subst hw)
   |(go_at_call 111;refine(dM HE.out _).mono ?_;rintro e w' ⟨rfl,hw⟩;subst hw))
  go_returns
  exact⟨2,0,0,0,⟨_,.inl ⟨rfl,rfl,om⟩,.inr (.inr (.inr (.inl ⟨rfl,rfl,rfl,rfl⟩)))⟩,rfl,kr⟩
 ·go_enter func31,ntmps31
  go_wp2_with (first
   |(go_at_call 110;refine(dB HE.out _ om om _).mono ?_;rintro e w' ⟨rfl,hw⟩;subst hw)
   |(go_at_call 112;refine(dQ HE.out _).mono ?_;rintro e w' ⟨rfl,hw⟩;subst hw)
   |(go_at_call 113;refine(gX HE.out _).mono ?_;rintro e w' ⟨rfl,hw⟩;subst hw)
   |(go_at_call 111;refine(dM HE.out _).mono ?_;rintro e w' ⟨rfl,hw⟩;subst hw))
  go_returns
  exact⟨4,1,0,0,⟨v,.inr ⟨rfl,om,om⟩,.inr (.inl ⟨c1,c2,rfl,rfl,rfl⟩)⟩,rfl,kr⟩
 ·go_enter func31,ntmps31
  go_wp2_with (first
   |(go_at_call 110;refine(dB HE.out _ om om _).mono ?_;rintro e w' ⟨rfl,hw⟩;subst hw)
   |(go_at_call 112;refine(dQ HE.out _).mono ?_;rintro e w' ⟨rfl,hw⟩;subst hw)
   |(go_at_call 113;refine(gX HE.out _).mono ?_;rintro e w' ⟨rfl,hw⟩;subst hw)
   |(go_at_call 111;refine(dM HE.out _).mono ?_;rintro e w' ⟨rfl,hw⟩;subst hw))
  go_returns
  exact⟨3,1,0,0,⟨v,.inr ⟨rfl,om,om⟩,.inr (.inr (.inl ⟨c1,rfl,rfl,rfl⟩))⟩,rfl,kr⟩
 ·go_enter func31,ntmps31
  go_wp2_with (first
   |(go_at_call 110;refine(dB HE.out _ om om _).mono ?_;rintro e w' ⟨rfl,hw⟩;subst hw)
   |(go_at_call 112;refine(dQ HE.out _).mono ?_;rintro e w' ⟨rfl,hw⟩;subst hw)
   |(go_at_call 113;refine(gX HE.out _).mono ?_;rintro e w' ⟨rfl,hw⟩;subst hw)
   |(go_at_call 111;refine(dM HE.out _).mono ?_;rintro e w' ⟨rfl,hw⟩;subst hw))
  go_returns
  exact⟨2,1,0,0,⟨inf,.inr ⟨rfl,om,om⟩,.inr (.inr (.inr (.inl ⟨rfl,rfl,rfl,rfl⟩)))⟩,rfl,kr⟩
theorem Zk{P:Prop}(h:P:=by
 go_wp2
 go_roundg (gk-g.toNat)
 case measure=>omega
 case rel=>exact⟨j+1,g*2,by show _=_;rw[Int.pow_succ,←Int.mul_assoc,←HG.out],om,om,om,om,by rw[show 1-mx-p+1-((j+1:Nat):Int)=1-mx-p+1-j-1 by omega]⟩):P:=h
theorem aI.quot{f p mx one inf sg nan:Int}(h:aI f p mx one inf sg nan)(v:Int)(v0:one≤v)(v1:v<inf):
  0≤v%one∧v%one<one∧1≤v/one∧v/one≤2*mx:=by
 rcases h with⟨rfl,rfl,rfl,rfl,rfl,rfl,rfl⟩|⟨rfl,rfl,rfl,rfl,rfl,rfl,rfl⟩<;>omega
theorem xQ{f p mx one inf sg nan:Int}(h:aI f p mx one inf sg nan)(W:Int)(v0:one≤W)(v1:W<inf)(w:World):
  CT 31 #[J Y f,J Z W] w fun e w'=>∃c s x g:Int,bY p mx one inf sg nan W c s x g∧e=.returned (.agg #[J Y c,J Y s,J Y x,J Z g])∧Gr w w':=by
 obtain⟨b1,b2,b3,b4,b5,b6,b7,b8,b9,b10,b11,b12⟩:=h.bounds
 obtain⟨q1,q2,q3,q4⟩:=h.quot W v0 v1
 have HE:Hid _:=h
 have HF:Hid (bY p mx one inf sg nan W 1 0 (1-mx-p+1+W/one-1) (W%one+one)):=
  ⟨W,.inl ⟨rfl,rfl,om⟩,.inr (.inr (.inr (.inr ⟨om,v1,rfl,0,W%one+one,_,.inr ⟨v0,rfl,rfl⟩,om,om,om,om⟩)))⟩
 clear h
 generalize hm:W%one=m at*
 generalize hq:W/one=q at*
 go_enter func31,ntmps31
 go_wp2_with (first
   |(go_at_call 110;refine(dB HE.out _ om om _).mono ?_;rintro e w' ⟨rfl,hw⟩;subst hw)
   |(go_at_call 112;refine(dQ HE.out _).mono ?_;rintro e w' ⟨rfl,hw⟩;subst hw)
   |(go_at_call 115;refine(lD HE.out _).mono ?_;rintro e w' ⟨rfl,hw⟩;subst hw)
   |(go_at_call 116;refine(oI HE.out _).mono ?_;rintro e w' ⟨rfl,hw⟩;subst hw)
   |(go_at_call 114;refine(mQ HE.out _).mono ?_;rintro e w' ⟨rfl,hw⟩;subst hw)
   |(go_at_call 111;refine(dM HE.out _).mono ?_;rintro e w' ⟨rfl,hw⟩;subst hw))
 go_region
 go_wp2
 go_loopg [] 1 (fun k wr=>wr=(((w.alloc (.cells #[J Y 0,J Y 0,J Y 0,J Z 0] 59)).alloc (.cells #[J Y 1,J Y 0,J Y (1-mx-p+1+q-1),J Z (m+one)] 59))).drew)
 case atStart=>rfl
 case round=>
  subst hrel
  go_wp2
  go_returns
  exact⟨1,0,_,_,HF.out,rfl,kr⟩
theorem uH{f p mx one inf sg nan:Int}(h:aI f p mx one inf sg nan)(W:Int)(v0:0<W)(v1:W<one)(w:World):
  CT 31 #[J Y f,J Z W] w fun e w'=>∃c s x g:Int,bY p mx one inf sg nan W c s x g∧e=.returned (.agg #[J Y c,J Y s,J Y x,J Z g])∧Gr w w':=by
 obtain⟨b1,b2,b3,b4,b5,b6,b7,b8,b9,b10,b11,b12⟩:=h.bounds
 have HE:Hid _:=h
 have hm:W%one=W:=Int.emod_eq_of_lt om v1
 clear h
 go_enter func31,ntmps31
 go_wp2_with (first
   |(go_at_call 110;refine(dB HE.out _ om om _).mono ?_;rintro e w' ⟨rfl,hw⟩;subst hw)
   |(go_at_call 112;refine(dQ HE.out _).mono ?_;rintro e w' ⟨rfl,hw⟩;subst hw)
   |(go_at_call 115;refine(lD HE.out _).mono ?_;rintro e w' ⟨rfl,hw⟩;subst hw)
   |(go_at_call 116;refine(oI HE.out _).mono ?_;rintro e w' ⟨rfl,hw⟩;subst hw)
   |(go_at_call 114;refine(mQ HE.out _).mono ?_;rintro e w' ⟨rfl,hw⟩;subst hw)
   |(go_at_call 111;refine(dM HE.out _).mono ?_;rintro e w' ⟨rfl,hw⟩;subst hw))
 go_loopg [] (one.toNat) (fun k wr=>∃(j:Nat) (g:Int),Hid (g=W*2^j)∧0<g∧g<2*one∧j<g∧one≤k+g∧wr=((w.alloc (.cells #[J Y 0,J Y 0,J Y 0,J Z 0] 59)).alloc (.cells #[J Y 1,J Y 0,J Y (1-mx-p+1-j),J Z (g)] 59)))
 case atStart=>exact⟨0,W,by show _=_;omega,v0,om,om,om,by simp⟩
 case round=>
  obtain⟨j,g,HG,g0,g1,g2,g3,rfl⟩:=hrel
  by_cases hg:g<one
  ·exact Zk
  ·have HF:Hid (bY p mx one inf sg nan W 1 0 (1-mx-p+1-j) g):=
    ⟨W,.inl ⟨rfl,rfl,om⟩,.inr (.inr (.inr (.inr ⟨om,om,rfl,j,W,_,.inl ⟨v1,rfl,rfl⟩,HG.out,om,om,g1⟩)))⟩
   go_wp2
   go_returns
   exact⟨1,0,_,_,HF.out,rfl,kr⟩
theorem xP{f p mx one inf sg nan:Int}(h:aI f p mx one inf sg nan)(W:Int)(v0:one≤W)(v1:W<inf)(w:World):
  CT 31 #[J Y f,J Z (W+sg)] w fun e w'=>∃c s x g:Int,bY p mx one inf sg nan (W+sg) c s x g∧e=.returned (.agg #[J Y c,J Y s,J Y x,J Z g])∧Gr w w':=by
 obtain⟨b1,b2,b3,b4,b5,b6,b7,b8,b9,b10,b11,b12⟩:=h.bounds
 obtain⟨q1,q2,q3,q4⟩:=h.quot W v0 v1
 have HE:Hid _:=h
 have HF:Hid (bY p mx one inf sg nan (W+sg) 1 1 (1-mx-p+1+W/one-1) (W%one+one)):=
  ⟨W,.inr ⟨rfl,om,om⟩,.inr (.inr (.inr (.inr ⟨om,v1,rfl,0,W%one+one,_,.inr ⟨v0,rfl,rfl⟩,om,om,om,om⟩)))⟩
 clear h
 generalize hm:W%one=m at*
 generalize hq:W/one=q at*
 go_enter func31,ntmps31
 go_wp2_with (first
   |(go_at_call 110;refine(dB HE.out _ om om _).mono ?_;rintro e w' ⟨rfl,hw⟩;subst hw)
   |(go_at_call 112;refine(dQ HE.out _).mono ?_;rintro e w' ⟨rfl,hw⟩;subst hw)
   |(go_at_call 115;refine(lD HE.out _).mono ?_;rintro e w' ⟨rfl,hw⟩;subst hw)
   |(go_at_call 116;refine(oI HE.out _).mono ?_;rintro e w' ⟨rfl,hw⟩;subst hw)
   |(go_at_call 114;refine(mQ HE.out _).mono ?_;rintro e w' ⟨rfl,hw⟩;subst hw)
   |(go_at_call 111;refine(dM HE.out _).mono ?_;rintro e w' ⟨rfl,hw⟩;subst hw))
 go_region
 go_wp2
 go_loopg [] 1 (fun k wr=>wr=(((w.alloc (.cells #[J Y 0,J Y 0,J Y 0,J Z 0] 59)).alloc (.cells #[J Y 1,J Y 1,J Y (1-mx-p+1+q-1),J Z (m+one)] 59))).drew)
 case atStart=>rfl
 case round=>
  subst hrel
  go_wp2
  go_returns
  exact⟨1,1,_,_,HF.out,rfl,kr⟩
theorem uG{f p mx one inf sg nan:Int}(h:aI f p mx one inf sg nan)(W:Int)(v0:0<W)(v1:W<one)(w:World):
  CT 31 #[J Y f,J Z (W+sg)] w fun e w'=>∃c s x g:Int,bY p mx one inf sg nan (W+sg) c s x g∧e=.returned (.agg #[J Y c,J Y s,J Y x,J Z g])∧Gr w w':=by
 obtain⟨b1,b2,b3,b4,b5,b6,b7,b8,b9,b10,b11,b12⟩:=h.bounds
 have HE:Hid _:=h
 have hm:W%one=W:=Int.emod_eq_of_lt om v1
 clear h
 go_enter func31,ntmps31
 go_wp2_with (first
   |(go_at_call 110;refine(dB HE.out _ om om _).mono ?_;rintro e w' ⟨rfl,hw⟩;subst hw)
   |(go_at_call 112;refine(dQ HE.out _).mono ?_;rintro e w' ⟨rfl,hw⟩;subst hw)
   |(go_at_call 115;refine(lD HE.out _).mono ?_;rintro e w' ⟨rfl,hw⟩;subst hw)
   |(go_at_call 116;refine(oI HE.out _).mono ?_;rintro e w' ⟨rfl,hw⟩;subst hw)
   |(go_at_call 114;refine(mQ HE.out _).mono ?_;rintro e w' ⟨rfl,hw⟩;subst hw)
   |(go_at_call 111;refine(dM HE.out _).mono ?_;rintro e w' ⟨rfl,hw⟩;subst hw))
 go_loopg [] (one.toNat) (fun k wr=>∃(j:Nat) (g:Int),Hid (g=W*2^j)∧0<g∧g<2*one∧j<g∧one≤k+g∧wr=((w.alloc (.cells #[J Y 0,J Y 0,J Y 0,J Z 0] 59)).alloc (.cells #[J Y 1,J Y 1,J Y (1-mx-p+1-j),J Z (g)] 59)))
 case atStart=>exact⟨0,W,by show _=_;omega,v0,om,om,om,by simp⟩
 case round=>
  obtain⟨j,g,HG,g0,g1,g2,g3,rfl⟩:=hrel
  by_cases hg:g<one
  ·exact Zk
  ·have HF:Hid (bY p mx one inf sg nan (W+sg) 1 1 (1-mx-p+1-j) g):=
    ⟨W,.inr ⟨rfl,om,om⟩,.inr (.inr (.inr (.inr ⟨om,om,rfl,j,W,_,.inl ⟨v1,rfl,rfl⟩,HG.out,om,om,g1⟩)))⟩
   go_wp2
   go_returns
   exact⟨1,1,_,_,HF.out,rfl,kr⟩
theorem NM{m one:Int}{a b:Nat}(h:a<b)(m0:0<m)(h1:one≤m*2^a)(h2:m*2^b<2*one):False:=by
 obtain⟨d,rfl⟩:∃d,b=a+1+d:=⟨b-(a+1),om⟩
 have e:m*(2:Int)^(a+1+d)=m*2^a*2*2^d:=by
  rw[Int.pow_add,Int.pow_succ];simp[Int.mul_assoc]
 rw[e]at h2
 have p1:(1:Int)≤2^d:=by
  have h0:(0:Int)<2^d:=Int.pow_pos de
  exact h0
 have p2:(0:Int)<2^a:=Int.pow_pos de
 have p3:0<m*2^a:=Int.mul_pos m0 p2
 have:=Int.mul_le_mul_of_nonneg_left p1 (show 0≤m*2^a*2 by omega)
 omega
theorem nM.one{p mx one v e g e' g':Int}(v0:0<v)(aE3:0<one)(h:nM p mx one v e g)(h':nM p mx one v e' g'):e=e'∧g=g':=by
 obtain⟨k,m,e0,hm,hg,he,h1,h2⟩:=h
 obtain⟨k',m',e0',hm',hg',he',h1',h2'⟩:=h'
 have hmm:m=m'∧e0=e0'∧0<m:=by
  have:=Int.emod_nonneg v (show one≠0 by omega)
  omega
 obtain⟨rfl,rfl,m0⟩:=hmm
 have hk:k=k':=by
  subst hg hg'
  rcases Nat.lt_trichotomy k k' with c|c|c
  ·exact(NM c m0 h1 h2').elim
  ·exact c
  ·exact(NM c m0 h1' h2).elim
 subst hk
 exact⟨om,by rw[hg,hg']⟩
theorem bY.one{f p mx one inf sg nan W c s e g c' s' e' g':Int}(hf:aI f p mx one inf sg nan)(h:bY p mx one inf sg nan W c s e g)(h':bY p mx one inf sg nan W c' s' e' g'):c=c'∧s=s'∧e=e'∧g=g':=by
 obtain⟨b1,b2,b3,b4,b5,b6,b7,b8,b9,b10,b11,b12⟩:=hf.bounds
 obtain⟨v,hv,hc⟩:=h
 obtain⟨v',hv',hc'⟩:=h'
 have hvv:v=v'∧s=s':=om
 obtain⟨rfl,rfl⟩:=hvv
 rcases hc with hc|hc|hc|hc|⟨a1,a2,rfl,a3⟩
 ·rcases hc' with h|h|h|h|h<;>omega
 ·rcases hc' with h|h|h|h|h<;>omega
 ·rcases hc' with h|h|h|h|h<;>omega
 ·rcases hc' with h|h|h|h|h<;>omega
 ·rcases hc' with h|h|h|h|⟨_,_,rfl,a3'⟩
  ·omega
  ·omega
  ·omega
  ·omega
  ·obtain⟨rfl,rfl⟩:=nM.one a1 om a3 a3'
   exact⟨rfl,rfl,rfl,rfl⟩
theorem yX{f p mx one inf sg nan:Int}(h:aI f p mx one inf sg nan)(W:Int)(v0:0≤W)(v1:W<2*sg)(w:World):
  CT 31 #[J Y f,J Z W] w fun e w'=>∃c s x g:Int,bY p mx one inf sg nan W c s x g∧e=.returned (.agg #[J Y c,J Y s,J Y x,J Z g])∧Gr w w':=by
 obtain⟨b1,b2,b3,b4,b5,b6,b7,b8,b9,b10,b11,b12⟩:=h.bounds
 by_cases hn:W=0∨W=sg∨(inf≤W∧W<sg)∨sg+inf≤W
 ·exact xO h W v0 v1 hn w
 ·by_cases hs:W<sg
  ·by_cases ho:one≤W
   ·exact xQ h W ho om w
   ·exact uH h W om om w
  ·obtain⟨v,rfl⟩:∃v,W=v+sg:=⟨W-sg,om⟩
   by_cases ho:one≤v
   ·exact xP h v ho om w
   ·exact uG h v om om w
theorem aBa(f v:Int)(v0:0≤v)(v1:v<18446744073709551616):(∃p mx one inf sg nan,aI f p mx one inf sg nan∧v<2*sg)∨(¬(f=0∨f=1)∨(f=0∧4294967296≤v)):=by
 by_cases h0:f=0
 ·by_cases hv:v<4294967296
  ·exact .inl ⟨_,_,_,_,_,_,.inl ⟨h0,rfl,rfl,rfl,rfl,rfl,rfl⟩,om⟩
  ·exact .inr (.inr ⟨h0,om⟩)
 ·by_cases h1:f=1
  ·exact .inl ⟨_,_,_,_,_,_,.inr ⟨h1,rfl,rfl,rfl,rfl,rfl,rfl⟩,om⟩
  ·exact .inr (.inl om)
set_option maxRecDepth 1000000
theorem u_{f p mx one inf sg nan:Int}(h:aI f p mx one inf sg nan)(v z:Int)(v0:0≤v)(v1:v<2*sg)(hz:v<sg∧z=v+sg∨sg≤v∧z=v-sg)(w:World):
  QW 170 #[J Y f,J Z v] w (J Z z):=by
 have hb:=h.bounds
 have HS:KW 111 #[J Y f] (J Z sg):=fun w=>dM h w
 have hc:(v<sg∧IntKind.u64.wrap (v+sg)=z)∨(sg≤v∧IntKind.u64.wrap (v-sg)=z):=by
  rcases hz with⟨a,rfl⟩|⟨a,rfl⟩
  ·exact .inl ⟨a,by rw[IntKind.wrap_u64];omega⟩
  ·exact .inr ⟨a,by rw[IntKind.wrap_u64];omega⟩
 clear h hz hb
 rcases hc with⟨c,u1⟩|⟨c,u1⟩
 all_goals
  go_enter func170,ntmps170
  go_wp2_with (go_at_call 111;refine kw (HS.out _) ?_)
  go_returns
  exact⟨aU (by first|rfl|(simp;omega)|(rw[u1])),rfl⟩
