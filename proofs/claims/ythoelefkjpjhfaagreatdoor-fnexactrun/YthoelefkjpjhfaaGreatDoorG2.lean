import Derived.Test.YthoelefkjpjhfaaGreatDoorPm
import Derived.Test.YthoelefkjpjhfaaGreatDoorRows
import Derived.WalkSpells
import Derived.Lib.Walk
import Derived.Lib.Small
import Derived.Lib.Strings
import Derived.Lib.Slices
import Derived.Laws.Externs
import Derived.Shelf.Spec.BitsCarry
import Derived.Deep.RegionHeld3
import Derived.RangeFuncNested
import Derived.RangeFuncBound
import Derived.RangeFuncCalls
import Derived.RangeFuncLeaves
import Derived.Shelf.Abstract
import Derived.Shelf.RegionOpen
import Derived.OwnWalkIn
import Derived.TacticsInMore
import Derived.LoopNIn
import Derived.LoopIn
set_option linter.all false
open Option renaming some → Z
open Go.Value renaming int → Y
open Go.Proofs.Tryz
namespace Go.Proofs.YthoelefkjpjhfaaGreatDoor
open Go.RowKit
variable{f p mx one aI sg nan:Int}{A Bv m i V c B j B' n gf n₀ N:Nat}{W w w0:World}{v:Value}{Q:Exit->Act->World->Prop}{a:Act}{lb:Array Value}
def aLA{P:Prop}(h:P:=by
 have:b=true:=by rw[hb];decide
 subst this;clear hb;go_enter func50,ntmps50;go_wp2;go_ret;exact⟨rfl,rfl⟩):P:=h
def bD(f p mx one aI sg nan:Int):Prop:=
 (f=0/\p=24/\mx=127/\one=8388608/\aI=2139095040/\sg=2147483648/\nan=2143289344)\/
 (f=1/\p=53/\mx=1023/\one=4503599627370496/\aI=9218868437227405312/\sg=9223372036854775808/\nan=9221120237041090560)
def jh(f:Int)(b:Bool)(hb:b=decide (f=0\/f=1))(w:World):
  QW 50 #[Y .i64 f] w (.bool b):=by
 rcases(show f=0\/f=1\/((f==0)=false/\(f==1)=false/\¬(f=0\/f=1)) by simp;omega)with rfl|rfl|⟨e0,e1,h⟩
 .exact aLA
 .exact aLA
 .have:b=false:=by rw[hb];simp;omega
  subst this;clear h hb;go_enter func50,ntmps50;go_wp2;go_ret;exact⟨rfl,rfl⟩
def qI(h:bD f p mx one aI sg nan)(w:World):
  QW 116 #[Y .i64 f] w (Y .i64 p):=by
 rcases h with⟨rfl,rfl,rfl,rfl,rfl,rfl,rfl⟩|⟨rfl,rfl,rfl,rfl,rfl,rfl,rfl⟩
 all_goals
  go_enter func116,ntmps116;go_wp2;go_ret;exact⟨rfl,rfl⟩
def FB(h:bD f p mx one aI sg nan)(w:World):
  QW 206 #[Y .i64 f] w (Y .i64 mx):=by
 rcases h with⟨rfl,rfl,rfl,rfl,rfl,rfl,rfl⟩|⟨rfl,rfl,rfl,rfl,rfl,rfl,rfl⟩
 all_goals
  go_enter func206,ntmps206;go_wp2;go_ret;exact⟨rfl,rfl⟩
def wz(h:bD f p mx one aI sg nan)(w:World):
  QW 215 #[Y .i64 f] w (Y .i64 (1-mx)):=by
 have hm:-2000<=mx/\mx<=2000:=by rcases h with h|h<;>omega
 go_enter func215,ntmps215;go_wp2_with (go_at_call 206;refine(FB h _).mono ?_;rintro e w' ⟨rfl,hw⟩;subst hw);go_ret;exact⟨rfl,rfl⟩
def aCT(k:Nat)(h:k<=62):(2:Int)^k<=4611686018427387904:=by
 have:=Nat.pow_le_pow_right (show 0<2 by decide) h;have c:(2:Int)^k=((2^k:Nat):Int):=by push_cast;rfl
 rw[c];omega
def kN(n:Nat)(z:Int)(hn:n<=63)(hz:z=2^n)(w:World):
  QW 117 #[Y .i64 n] w (Y .u64 z):=by
 have HZ:Hid _:=hz;clear hz;go_enter func117,ntmps117;go_wp2;go_loop [3,4] (λs i=>∃(k:Nat) (P:Int),k<=n/\s=Y .u64 P/\i=Y .i64 k/\Hid (P=2^k)/\1<=P) (λ_ i=>n-(intOf i).toNat)
 case atStart=>exact⟨0,1,om,rfl,rfl,rfl,om⟩
 case round=>
  obtain⟨k,P,hk,rfl,rfl,HP,p1⟩:=hrel;by_cases fF:(k:Int)<(n:Int)
  .have hp:=aCT k om;rw[<-HP.out]at hp;go_wp2;go_round
   case rel=>exact⟨k+1,P*2,om,rfl,by go_num,by show _=_;rw[Int.pow_succ,<-HP.out],om⟩
   case measure=>exact uz
  .have e:P=z:=by rw[HP.out,HZ.out,(om:k=n)]
   have E:Hid _:=e;clear e;go_wp2;go_ret;exact⟨bU (congrArg (Value.int IntKind.u64) E.out),rfl⟩
def bD.bounds(h:bD f p mx one aI sg nan):24<=p/\p<=53/\127<=mx/\mx<=1023/\8388608<=one/\one<=4503599627370496/\0<aI/\aI<sg/\aI<nan/\nan<sg/\sg<=9223372036854775808/\one<aI:=by
 rcases h with h|h<;>omega
def bD.pow(h:bD f p mx one aI sg nan):∃n:Nat,(n:Int)=p-1/\n<=63/\one=2^n:=by
 rcases h with h|h
 .exact⟨23,om,om,by rw[h.2.2.2.1];decide⟩
 .exact⟨52,om,om,by rw[h.2.2.2.1];decide⟩
def sF(h:bD f p mx one aI sg nan)(w:World):
  QW 117 #[Y .i64 (p-1)] w (Y .u64 one):=by
 obtain⟨n,hn,aSa,AQ⟩:=h.pow;rw[<-hn];exact kN n one aSa AQ w
def l9(h:bD f p mx one aI sg nan)(w:World):
  QW 148 #[Y .i64 f] w (Y .u64 aI):=by
 obtain⟨b1,b2,b3,b4,b5,b6,b7,b8,b9,b10,b11,b12⟩:=h.bounds;have he:IntKind.u64.wrap (one*(2*mx+1))=aI:=by
  rw[IntKind.wrap_u64];rcases h with⟨rfl,rfl,rfl,rfl,rfl,rfl,rfl⟩|⟨rfl,rfl,rfl,rfl,rfl,rfl,rfl⟩<;>decide
 have HE:Hid _:=h;clear h;go_enter func148,ntmps148;go_wp2_with (first|(go_at_call 116;refine(qI HE.out _).mono ?_;rintro e w' ⟨rfl,hw⟩;subst hw)|(go_at_call 117;refine(sF HE.out _).mono ?_;rintro e w' ⟨rfl,hw⟩;subst hw)|(go_at_call 206;refine(FB HE.out _).mono ?_;rintro e w' ⟨rfl,hw⟩;subst hw))
 go_ret;exact⟨rfl,rfl⟩
def jZ(h:bD f p mx one aI sg nan)(w:World):
  QW 207 #[Y .i64 f] w (Y .u64 sg):=by
 rcases h with⟨rfl,rfl,rfl,rfl,rfl,rfl,rfl⟩|⟨rfl,rfl,rfl,rfl,rfl,rfl,rfl⟩
 .go_enter func207,ntmps207;go_wp2_with (go_at_call 117;refine(kN 31 2147483648 om de _).mono ?_;rintro e w' ⟨rfl,hw⟩;subst hw);go_ret;exact⟨rfl,rfl⟩
 .go_enter func207,ntmps207;go_wp2_with (go_at_call 117;refine(kN 63 9223372036854775808 om de _).mono ?_;rintro e w' ⟨rfl,hw⟩;subst hw);go_ret;exact⟨rfl,rfl⟩
def zO(h:bD f p mx one aI sg nan)(w:World):
  QW 114 #[Y .i64 f] w (Y .u64 nan):=by
 have H0:∀w,QW 117 #[Y .i64 (p-2)] w (Y .u64 (nan-aI)):=by
  rcases h with⟨rfl,rfl,rfl,rfl,rfl,rfl,rfl⟩|⟨rfl,rfl,rfl,rfl,rfl,rfl,rfl⟩
  .exact λw=>kN 22 _ om de w
  .exact λw=>kN 51 _ om de w
 obtain⟨b1,b2,b3,b4,b5,b6,b7,b8,b9,b10,b11,b12⟩:=h.bounds;have HE:Hid _:=h;have H0h:Hid _:=H0;have he:aI+(nan-aI)=nan:=om;clear h H0;go_enter func114,ntmps114;go_wp2_with (first|(go_at_call 148;refine(l9 HE.out _).mono ?_;rintro e w' ⟨rfl,hw⟩;subst hw)|(go_at_call 116;refine(qI HE.out _).mono ?_;rintro e w' ⟨rfl,hw⟩;subst hw)|(go_at_call 117;refine(H0h _).mono ?_;rintro e w' ⟨rfl,hw⟩;subst hw))
 go_ret;exact⟨rfl,rfl⟩
def cO(h:bD f p mx one aI sg nan)(w:World):
  QR 136 #[Y .i64 f] w (aP nan 1):=by
 have hf:true=decide (f=0\/f=1):=by rcases h with h|h<;>simp[h.1]
 have HE:Hid _:=h;have HF:Hid _:=hf;clear h hf;go_enter func136,ntmps136;go_wp2_with (first|(go_at_call 50;refine(jh _ true HF.out _).mono ?_;rintro e w' ⟨rfl,hw⟩;subst hw)|(go_at_call 114;refine(zO HE.out _).mono ?_;rintro e w' ⟨rfl,hw⟩;subst hw))
 go_returns;exact⟨rfl,kr⟩
def aQc:bD 1 53 1023 4503599627370496 9218868437227405312 9223372036854775808 9221120237041090560:=.inr ⟨rfl,rfl,rfl,rfl,rfl,rfl,rfl⟩
def lN(f:Int)(h:¬(f=0\/f=1))(w:World):
  QR 136 #[Y .i64 f] w (aP 9221120237041090560 1):=by
 have HF:Hid (false=decide (f=0\/f=1)):=by show _=_;simp;omega
 clear h;go_enter func136,ntmps136;go_wp2_with (first|(go_at_call 50;refine(jh _ false HF.out _).mono ?_;rintro e w' ⟨rfl,hw⟩;subst hw)|(go_at_call 114;refine(zO aQc _).mono ?_;rintro e w' ⟨rfl,hw⟩;subst hw))
 go_returns;exact⟨rfl,kr⟩
def ZF(f v:Int)(w:World):
  QW 118 #[Y .i64 f,Y .i64 0,Y .u64 v] w (Y .u64 v):=by
 go_enter func118,ntmps118;go_wp2;go_ret;exact⟨rfl,rfl⟩
def aDm(h:bD f p mx one aI sg nan)(v:Int)(v0:0<=v)(v1:v<sg)(w:World):
  QW 118 #[Y .i64 f,Y .i64 1,Y .u64 v] w (Y .u64 (v+sg)):=by
 obtain⟨b1,b2,b3,b4,b5,b6,b7,b8,b9,b10,b11,b12⟩:=h.bounds;have HE:Hid _:=h;clear h;go_enter func118,ntmps118;go_wp2_with (go_at_call 207;refine(jZ HE.out _).mono ?_;rintro e w' ⟨rfl,hw⟩;subst hw);go_ret;exact⟨rfl,rfl⟩
def bD.yes(h:bD f p mx one aI sg nan):true=decide (f=0\/f=1):=by
 rcases h with h|h<;>simp[h.1]
def fO(h:bD f p mx one aI sg nan)(v:Int)(v0:0<=v)(v1:v<2*sg)(w:World):
  nP f v w true:=by
 rcases h with⟨rfl,rfl,rfl,rfl,rfl,rfl,rfl⟩|⟨rfl,rfl,rfl,rfl,rfl,rfl,rfl⟩
 all_goals
  go_enter func61,ntmps61;go_wp2_with (go_at_call 50;refine(jh _ true de _).mono ?_;rintro e w' ⟨rfl,hw⟩;subst hw);go_ret;first|exact⟨rfl,rfl⟩|exact⟨congrArg (λb=>Exit.returned (Value.bool b)) (decide_eq_true om),rfl⟩|(refine⟨?_,rfl⟩;simp;omega)
def iV(f v:Int)(v0:0<=v)(h:¬(f=0\/f=1)\/(f=0/\4294967296<=v))(w:World):
  nP f v w false:=by
 rcases h with h|⟨rfl,hv⟩
 .have hf:false=decide (f=0\/f=1):=jl;have HF:Hid _:=hf;clear hf h;go_enter func61,ntmps61;go_wp2_with (go_at_call 50;refine(jh _ false HF.out _).mono ?_;rintro e w' ⟨rfl,hw⟩;subst hw);go_ret;exact⟨rfl,rfl⟩
 .go_enter func61,ntmps61;go_wp2_with (go_at_call 50;refine(jh _ true de _).mono ?_;rintro e w' ⟨rfl,hw⟩;subst hw);go_ret;first|exact⟨rfl,rfl⟩|(refine⟨?_,rfl⟩;simp;omega)
set_option maxRecDepth 1000000
set_option maxHeartbeats 40000000
def yO:Go.Lib.len8tab.size=256:=by decide+kernel
def aIb:∀j:Fin 256,(Go.Lib.len8tab[j.val]'(by rw[yO];exact j.isLt)).toNat =Go.Lib.bitLen j.val:=by decide+kernel
def aIa(i:Nat)(h:i<Go.Lib.len8tab.size):(Go.Lib.len8tab[i]'h).toNat =Go.Lib.bitLen i:=aIb ⟨i,by rw[<-yO];exact h⟩
def aMi(i:Nat)(h:i<256):Go.Lib.bitLen i<=8:=Go.Lib.bitLen_le i 8 om om
def uD(x:Int)(s i:Nat)(c:Int)(h0:0<=x)(h1:aG x)(hc:c=(s:Int))(hs:s<=56)(hi:i=x.toNat/2^s)(h:i<Go.Lib.len8tab.size)(hx:s=0\/2^s<=x.toNat):
  wrap64 (c+wrap64 (((Go.Lib.len8tab[i]'h).toNat :Nat):Int))=(Go.Lib.bitLen x.toNat:Int):=by
 rw[aIa];have hl:=aMi i (by rw[<-yO];exact h);have e:Go.Lib.bitLen x.toNat=s+Go.Lib.bitLen i:=by
  rcases hx with rfl|hx
  .rw[hi];simp
  .rw[hi];exact Go.Lib.bitLen_shift s x.toNat hx om
 rw[e];unfold wrap64;omega
def zN(x:Int)(h0:0<=x)(h1:aG x)(w:World):
  CT 321 #[Y .u64 x] w λe w'=>e=.returned (Y .i64 (Go.Lib.bitLen x.toNat))/\w'=w:=by
 have uF:=yO;go_enter func321,ntmps321;go_wp2;all_goals (go_ret;refine⟨bU (congrArg (Value.int IntKind.i64) ?_),rfl⟩)<;>first|exact uD x 56 _ 56 h0 h1 rfl om (by simp only[Nat.reducePow];omega) _ (.inr (by simp only[Nat.reducePow];omega))|exact uD x 48 _ 48 h0 h1 rfl om (by simp only[Nat.reducePow];omega) _ (.inr (by simp only[Nat.reducePow];omega))|exact uD x 40 _ 40 h0 h1 rfl om (by simp only[Nat.reducePow];omega) _ (.inr (by simp only[Nat.reducePow];omega))|exact uD x 32 _ 32 h0 h1 rfl om (by simp only[Nat.reducePow];omega) _ (.inr (by simp only[Nat.reducePow];omega))|exact uD x 24 _ 24 h0 h1 rfl om (by simp only[Nat.reducePow];omega) _ (.inr (by simp only[Nat.reducePow];omega))|exact uD x 16 _ 16 h0 h1 rfl om (by simp only[Nat.reducePow];omega) _ (.inr (by simp only[Nat.reducePow];omega))|exact uD x 8 _ 8 h0 h1 rfl om (by simp only[Nat.reducePow];omega) _ (.inr (by simp only[Nat.reducePow];omega))|(have e:=uD x 0 x.toNat 0 h0 h1 rfl om (by simp) (by rw[yO];omega) (.inl rfl);rw[Int.zero_add]at e;exact e)
def Wp(x:Int)(h0:0<=x)(h1:aG x)(w:World):
  CT 329 #[Y .u64 x] w λe w'=>e=.returned (Y .i64 (64-(Go.Lib.bitLen x.toNat:Int)))/\w'=w:=by
 have hl:=Go.Lib.bitLen_le x.toNat 64 om om;go_enter func329,ntmps329;go_wp2_with (go_at_call 321;refine(zN x h0 h1 _).mono ?_;rintro e w' ⟨rfl,rfl⟩);go_ret;exact⟨rfl,rfl⟩
def Ui(x y:Int):Int:=if x<y then 1 else 0
def aNS(x y:Int):Ui x y<=1:=by unfold Ui;split<;>omega
def aNT(x y:Int):0<=Ui x y:=by unfold Ui;split<;>omega
def aLL(x y b:Int)(hx:0<=x)(hy:0<=y)(hy':aG y)(qV:0<=b)(hb:b<=1)(w:World):(callFunc 328 #[Y .u64 x,Y .u64 y,Y .u64 b]).run Tryz.prog w=
  .ok (.value (.tuple #[Y .u64 ((x-y-b)%18446744073709551616),Y .u64 (Ui x (y+b))])) w:=by
 obtain⟨x,rfl⟩:=Int.eq_ofNat_of_zero_le hx;obtain⟨y,rfl⟩:=Int.eq_ofNat_of_zero_le hy;obtain⟨b,rfl⟩:=Int.eq_ofNat_of_zero_le qV;rw[run_callFunc_extern func328 (by kernel_rfl) (by kernel_rfl) (by kernel_rfl) (e:=sub64Entry) (by kernel_rfl),run_sub64 x y b (by omega)];have e1:(((x+18446744073709551616-y-b)%18446744073709551616:Nat):Int)=((x:Int)-y-b)%18446744073709551616:=om;have e2:((if x<y+b then 1 else 0:Nat):Int)=Ui x (y+b):=by unfold Ui;split<;>split<;>omega
 rw[<-e1,<-e2];rfl
def aIg(x y:Int)(hx:0<=x)(hy:0<=y)(hy':aG y)(w:World):(callFunc 328 #[Y .u64 x,Y .u64 y,Y .u64 0]).run Tryz.prog w=
  .ok (.value (.tuple #[Y .u64 ((x-y)%18446744073709551616),Y .u64 (Ui x y)])) w:=by
 simpa using aLL x y 0 hx hy hy' (Int.le_refl 0) de w
def aC1(a0 a1 b0 b1:Int)(xk:0<=a0)(jo:0<=a1)(qV:0<=b0)(gU:0<=b1)(gb0:aG b0)(gb1:aG b1)(w:World):
  CT 304 #[aN a0 a1,aN b0 b1] w λe w'=>
   e=.returned (.tuple #[aN ((a0-b0)%18446744073709551616) ((a1-b1-Ui a0 b0)%18446744073709551616),
    .bool (Ui a1 (b1+Ui a0 b0) != 0)])/\∃c1 c2 c3 c4:Array Value,w'=((((w.alloc (.cells c1 257)).alloc (.cells c2 257)).alloc (.cells c3 257)).alloc (.cells c4 257)).drew.drew :=by
 have k0:=aNT a0 b0;have k1:=aNS a0 b0;go_enter func304,ntmps304;go_wp2;refine wp_loop_rounds 3 ?_;rw[rounds_succ];go_wp2;go_region_with (simp only[aIg a0 b0 xk qV gb0]);all_goals (go_wp2;rw[rounds_succ];go_wp2;go_region_with (simp only[aLL a1 b1 _ jo gU gb1 k0 k1]))
 all_goals (go_wp2;rw[rounds_succ];go_wp2;go_returns;exact⟨rfl,_,_,_,_,rfl⟩)
def lt2(a1 a0 b1 b0:Int):Bool:=Ui a1 (b1+Ui a0 b0) != 0
def aI9(a1 a0 b1 b0:Int)(xk:0<=a0)(qV:0<=b0)(JL:aG a0)(gb0:aG b0):lt2 a1 a0 b1 b0=decide (a1*18446744073709551616+a0<b1*18446744073709551616+b0):=by
 unfold lt2 Ui;rw[Bool.eq_iff_iff];simp only[bne_iff_ne,ne_eq,decide_eq_true_eq];split<;>split<;>omega
def aHg(N j k:Nat)(h:j<k):dg (N%4294967296^k) j=dg N j:=by
 obtain⟨i,rfl⟩:∃i,k=j+(i+1):=⟨k-j-1,om⟩;unfold dg;rw[Nat.pow_add,Nat.mod_mul_right_div_self,Nat.pow_succ];exact Nat.mod_mod_of_dvd _ (Nat.dvd_mul_left _ _)
def aHh(N j k:Nat):dg (N/4294967296^k) j=dg N (k+j):=by
 unfold dg;rw[Nat.div_div_eq_div_mul,<-Nat.pow_add]
def put(V k d:Nat):Nat:=V/4294967296^(k+1)*4294967296^(k+1)+d*4294967296^k+V%4294967296^k
def parts(V k:Nat):V=V/4294967296^(k+1)*4294967296^(k+1)+dg V k*4294967296^k+V%4294967296^k:=by
 have h1:=Nat.div_add_mod V (4294967296^(k+1));have h2:V%4294967296^(k+1)=V%4294967296^k+4294967296^k*dg V k:=by rw[Nat.pow_succ,Nat.mod_mul];rfl
 rw[Nat.mul_comm (4294967296^k)]at h2;rw[Nat.mul_comm]at h1;omega
def L_(V k d:Nat):put V k d+dg V k*4294967296^k=V+d*4294967296^k:=by
 have:=parts V k;unfold put;omega
def aFL(V k d:Nat)(hd:d<4294967296):put V k d/4294967296^(k+1)=V/4294967296^(k+1)/\put V k d%4294967296^k=V%4294967296^k/\put V k d/4294967296^k%4294967296=d:=by
 have hp:=iZ k;have hp1:=iZ (k+1);have Uf:=Nat.mod_lt V hp;have fF:d*4294967296^k+V%4294967296^k<4294967296^(k+1):=by
  have:=Nat.mul_le_mul_right (4294967296^k) (om:d+1<=4294967296);rw[Nat.add_mul]at this;rw[Nat.pow_succ,Nat.mul_comm (4294967296^k)];omega
 have e1:put V k d=(d*4294967296^k+V%4294967296^k)+4294967296^(k+1)*(V/4294967296^(k+1)):=by unfold put;rw[Nat.mul_comm (4294967296^(k+1))];omega
 have e2:put V k d=V%4294967296^k+4294967296^k*(V/4294967296^(k+1)*4294967296+d):=by
  unfold put;rw[Nat.mul_add,Nat.pow_succ];have:V/(4294967296^k*4294967296)*(4294967296^k*4294967296)=4294967296^k*(V/(4294967296^k*4294967296)*4294967296):=by
   simp only[Nat.mul_assoc,Nat.mul_left_comm,Nat.mul_comm]
  rw[this,Nat.mul_comm d];omega
 refine⟨?_,?_,?_⟩
 .rw[e1,Nat.add_mul_div_left _ _ hp1,Nat.div_eq_of_lt fF,Nat.zero_add]
 .rw[e2,Nat.add_mul_mod_self_left,Nat.mod_mod]
 .rw[e2,Nat.add_mul_div_left _ _ hp,Nat.div_eq_of_lt Uf,Nat.zero_add];omega
def aNH(V k d j:Nat)(hd:d<4294967296):dg (put V k d) j=if j=k then d else dg V j:=by
 obtain⟨a1,a2,a3⟩:=aFL V k d hd;split
 .rename_i e;subst e;exact a3
 .rename_i e
  rcases Nat.lt_or_ge j k with c|c
  .rw[<-aHg (put V k d) j k c,a2,aHg V j k c]
  .obtain⟨i,rfl⟩:∃i,j=k+1+i:=⟨j-(k+1),om⟩;rw[<-aHh (put V k d) i (k+1),a1,aHh]
def aH3(n V k d:Nat)(hk:k<n)(hd:d<4294967296):(Yg n V).set k (Value.int .u32 (d:Int))=Yg n (put V k d):=by
 apply List.ext_getElem?;intro j;by_cases hj:j<n
 .rw[Dl n (put V k d) j hj,aNH V k d j hd];by_cases e:j=k
  .subst e;rw[List.getElem?_set_self (by rw[xA];exact hj),if_pos rfl]
  .rw[List.getElem?_set_ne om,Dl n V j hj,if_neg e]
 .have h1:(Yg n (put V k d))[j]?=none:=by rw[List.getElem?_eq_none_iff,xA];omega
  have h2:((Yg n V).set k (Value.int .u32 (d:Int)))[j]?=none:=by rw[List.getElem?_eq_none_iff,List.length_set,xA];omega
  rw[h1,h2]
def aMG(V k d n:Nat)(hk:k<n)(hV:V<4294967296^n)(hd:d<4294967296):put V k d<4294967296^n:=by
 obtain⟨i,rfl⟩:∃i,n=k+1+i:=⟨n-(k+1),om⟩;obtain⟨a1,_,_⟩:=aFL V k d hd;have h1:V/4294967296^(k+1)<4294967296^i:=by
  rw[Nat.div_lt_iff_lt_mul (iZ _),Nat.mul_comm,<-Nat.pow_add];exact hV
 rw[<-a1,Nat.div_lt_iff_lt_mul (iZ _),Nat.mul_comm,<-Nat.pow_add]at h1;exact h1
def QL(A Bv m i j V c:Nat):Prop:=
 V+c*4294967296^(i+j)=A%4294967296^i*Bv+dg A i*(Bv%4294967296^j)*4294967296^i/\V<4294967296^(i+m)/\c<4294967296
def Zq(A Bv m i:Nat)(hB:Bv<4294967296^m):QL A Bv m i 0 (A%4294967296^i*Bv) 0:=by
 refine⟨by simp[Nat.mod_one],?_,de⟩;rw[Nat.pow_add];rcases Nat.eq_zero_or_pos Bv with rfl|hp
 .rw[Nat.mul_zero];exact Nat.mul_pos (iZ _) (iZ _)
 .exact Nat.mul_lt_mul_of_lt_of_le (Nat.mod_lt _ (iZ _)) (Nat.le_of_lt hB) (iZ _)
def Qc(a b v c:Nat)(ha:a<4294967296)(hb:b<4294967296)(hv:v<4294967296)(hc:c<4294967296):a*b+v+c<18446744073709551616:=by
 have:=Nat.mul_le_mul (om:a<=4294967295) (om:b<=4294967295);omega
def Zr(h:QL A Bv m i j V c)(hj:j<m):
  QL A Bv m i (j+1) (put V (i+j) ((dg A i*dg Bv j+dg V (i+j)+c)%4294967296)) ((dg A i*dg Bv j+dg V (i+j)+c)/4294967296):=by
 obtain⟨h1,h2,h3⟩:=h;have hs:=Qc _ _ _ _ (kK A i) (kK Bv j) (kK V (i+j)) h3;refine⟨?_,aMG V (i+j) _ (i+m) om h2 (Nat.mod_lt _ de),om⟩;have hp:=L_ V (i+j) ((dg A i*dg Bv j+dg V (i+j)+c)%4294967296);have hx:=Nat.div_add_mod (dg A i*dg Bv j+dg V (i+j)+c) 4294967296;have hb:Bv%4294967296^(j+1)=Bv%4294967296^j+4294967296^j*dg Bv j:=by rw[Nat.pow_succ,Nat.mod_mul];rfl
 rw[hb];generalize(dg A i*dg Bv j+dg V (i+j)+c)%4294967296=r at*
 generalize(dg A i*dg Bv j+dg V (i+j)+c)/4294967296=q at*
 generalize put V (i+j) r=V' at*
 have e1:q*4294967296^(i+(j+1))=4294967296*q*4294967296^(i+j):=by
  rw[<-Nat.add_assoc,Nat.pow_succ];simp only[Nat.mul_assoc,Nat.mul_left_comm,Nat.mul_comm]
 have e2:dg A i*(Bv%4294967296^j+4294967296^j*dg Bv j)*4294967296^i=dg A i*(Bv%4294967296^j)*4294967296^i+dg A i*dg Bv j*4294967296^(i+j):=by
  rw[Nat.mul_add,Nat.add_mul,Nat.pow_add]
  congr 1
  simp only[Nat.mul_assoc,Nat.mul_left_comm,Nat.mul_comm]
 have e3:(4294967296*q+r)*4294967296^(i+j)=(dg A i*dg Bv j+dg V (i+j)+c)*4294967296^(i+j):=by rw[hx]
 rw[e1,e2];simp only[Nat.add_mul]at e3;omega
def aCZ(h:QL A Bv m i m V c)(hB:Bv<4294967296^m):put V (i+m) c=A%4294967296^(i+1)*Bv:=by
 obtain⟨h1,h2,h3⟩:=h;have hp:=L_ V (i+m) c;have hz:dg V (i+m)=0:=qK h2 (Nat.le_refl _);have hb:A%4294967296^(i+1)=A%4294967296^i+4294967296^i*dg A i:=by rw[Nat.pow_succ,Nat.mod_mul];rfl
 rw[hz,Nat.zero_mul,Nat.add_zero]at hp;rw[Nat.mod_eq_of_lt hB]at h1;rw[hp,h1,hb,Nat.add_mul]
 congr 1
 simp only[Nat.mul_assoc,Nat.mul_left_comm,Nat.mul_comm]
structure Calm (B:Nat) (I:World->Prop):Prop where
 put:∀W l o o',I W->B<=l->W.heap[l]?=Z o->o.isCells=false->o'.isCells=false->I (W.putObj l o')
 new:∀W o,I W->o.isCells=false->I (W.alloc o)
 cells:∀W c t,I W->I (W.alloc (.cells c t))
 drew:∀W,I W->I W.drew
def Calm.mono{I:World->Prop}(h:Calm B I)(hb:B<=B'):Calm B' I:=⟨λW l o o' a b=>h.put W l o o' a (Nat.le_trans hb b),h.new,h.cells,h.drew⟩
def Calm.and{I J:World->Prop}(h:Calm B I)(k:Calm B J):Calm B (λW=>I W/\J W):=
 ⟨λW l o o' a b c d e=>⟨h.put W l o o' a.1 b c d e,k.put W l o o' a.2 b c d e⟩,λW o a b=>⟨h.new W o a.1 b,k.new W o a.2 b⟩,λW c t a=>⟨h.cells W c t a.1,k.cells W c t a.2⟩,λW a=>⟨h.drew W a.1,k.drew W a.2⟩⟩
def Gr.aN6(h:Gr W w)(o:Obj)(ho:o.isCells=false):Gr W (w.alloc o):=by
 refine⟨⟨World.keptBut_trans h.grown.1 (World.keptBut_alloc _ _ _),λa=>?_,Nat.le_trans h.grown.2.2 (by simp)⟩,h.below.alloc h.below.size o⟩;rw[<-h.grown.2.1 a];by_cases e:a.block=w.heap.size
 .have e1:(w.alloc o).heap[a.block]?=Z o:=by rw[e];exact(MapKept.heap_alloc w _).1
  have e2:w.heap[a.block]?=none:=by rw[e];simp
  unfold World.frozen?;rw[e1,e2];cases o<;>first|rfl|(simp[Obj.isCells]at ho)
 .exact World.frozen?_alloc_old _ _ _ e
def N_(B l:Nat)(o:Obj)(hl:l<B):Calm B (λW=>W.heap[l]?=Z o):=
  ⟨λW k o1 o2 h hk hb _ _=>(World.putObj_heap_other om).trans h,
   λW o1 h _=>(Below.heap_alloc W o1 l (Array.getElem?_eq_some_iff.1 h).1).trans h,
   λW c t h=>(Below.heap_alloc W _ l (Array.getElem?_eq_some_iff.1 h).1).trans h,
   λW h=>h⟩
def zF{p:Addr}(o:Obj)(h:W.cell? p=Z v):(W.alloc o).cell? p=Z v:=by
 obtain⟨q,hq,hc⟩:=cells_of_cell h;unfold World.cell? at h⊢
 rw[Below.heap_alloc W o _ (Array.getElem?_eq_some_iff.1 hq).1];exact h
def wK(B:Nat)(p:Addr)(v:Value):Calm B (λW=>W.cell? p=Z v):=
  ⟨λW l o o' h _ hl ho _=>by
      have:=cells_of_cell h;obtain⟨q,hq,hc⟩:=this;have jV:p.block≠l:=by intro e;rw[e,hl]at hq;cases hq;rw[ho]at hc;cases hc
      unfold World.cell? at h⊢
      rw[World.putObj_heap_other (by omega)];exact h,
   λW o h _=>zF o h,λW c t h=>zF _ h,λW h=>h⟩
def Hands(F:Fence)(n:Nat)(P:Program)(g:Nat)(lb:Array Value)(n₀ N:Nat)(encs:Nat->Array Value)(w:World):Prop:=
 ∀(l:Nat) (J:Nat->World->Prop) (Jx:World->Prop) (W:World),Below n₀ w W->(∀i,Calm W.heap.size (J i))->
  (∀i W1,i<N->J i W1->YieldAt F (n-1) P l (encs i) W1 λe W'=>(i+1<N/\e=.returned (.bool true)/\J (i+1) W'/\Below n₀ W1 W')\/(i+1=N/\e=.returned (.bool false)/\Jx W'))->
  J 0 W->CallsIn F n P g (#[.func (.yield l) #[] #[]]++lb) W λe W'=>(∃v,e=.returned v)/\Jx W'
def aMe(n₀ N id:Nat)(I:Nat->World->Prop)(Ix:World->Prop)(i:Nat)(W:World):Exit->Act->World->Prop
 | .normal,_,W'=>i+1<N/\KeepsOthers W W'/\Below n₀ W W'/\I (i+1) W'
 | .exit d,_,W'=>i+1=N/\d=id/\KeepsOthers W W'/\Ix W'
 | .ret,_,_=>False
 | .goto _,_,_=>False
 | .panic _,_,_=>False
 | .outgrown,_,_=>False
def Jm{F:Fence}{P:Program}{g:Operand}{ps:Array Tmp}{assign body:Code}
  (hro:F.round=none) (h1:1<=n)   (hg:a.eval g=.func (.func gf) #[] lb) (hFg:F.fn gf) (eg:∀args w,(callFunc gf args).run P w=.ok (.enter gf args) w)
   {encs:Nat->Array Value}  (aRS:Hands F (n-1) P gf lb n₀ N encs w0) (hn₀:n₀<=w.heap.size) (qV:Below n₀ w0 w) (hps:∀i,(encs i).size =ps.size)
  (id:Nat) (I:Nat->World->Prop) (Ix:World->Prop) (hI:∀i,Calm w.heap.size (I i)) (hIx:Calm w.heap.size Ix) (h0:I 0 w) (a₁:Nat->Act)
  (aJs:∀(l i:Nat) (W:World) (K:Act->World->Prop),K (a₁ i) W->
   assign.wpIn (F.inRound l) (n-1-1) P (Exit.then K (λ_ _ _=>False)) {tmps:=(ps.zip (encs i)).foldl (λt (p,v)=>t.setIfInBounds p v) a.tmps,defers:=[]} W)
  (aP3:∀(l i:Nat) (W:World),i<N->I i W->body.wpIn (F.inRound l) (n-1-1) P (aMe n₀ N id I Ix i W) (a₁ i) W)
  (aPv:∀(D:Nat) (W:World),w.heap.size<=D->Ix W->W.heap[D]?=Z (.deferred (Z []))->(Code.exit id).wpIn F n P Q {a with defers:={target:=.collected D,args:=#[]}::a.defers} W):
  (Code.rangeFunc g ps assign body).wpIn F n P Q a w:=by
 refine wpIn_rangeFunc (λfn hfn=>?_);rw[hro];obtain⟨rc,hrc⟩:∃rc:LoopState->Option Code->Loop,rc=λst pe=>{state:=st,pending:=pe,fn,tmps:=a.tmps,params:=ps,assign,body,defers:=w.heap.size}:=⟨_,rfl⟩;obtain⟨w1,Pv⟩:=x_n ((w.alloc (.deferred (Z []))).alloc (.loop (rc .ready none)));have EN:w1.heap.size=w.heap.size+1+1:=by rw[Pv];simp
 have hL:w1.heap[w.heap.size+1]?=Z (.loop (rc .ready none)):=by
  rw[Pv];have:=World.alloc_heap_new (w.alloc (.deferred (Z []))) (.loop (rc .ready none));rwa [World.size_alloc]at this
 have hD:w1.heap[w.heap.size]?=Z (.deferred (Z [])):=by rw[Pv];exact(Below.heap_alloc _ _ _ (by simp)).trans (World.alloc_heap_new w _)
 have hI1:I 0 w1:=by rw[Pv];exact(hI 0).new _ _ ((hI 0).new _ _ h0 rfl) rfl
 have hB1:Below n₀ w0 w1:=by
  rw[Pv];exact qV.trans (((Below.refl n₀ w).alloc hn₀ _).alloc jl _)
 refine⟨w.heap.size+1,[{target:=.collected w.heap.size,args:=#[]}],w1,{target:=.fn (.func gf) lb,args:=#[.func (.yield (w.heap.size+1)) #[] #[]]},w1,gf,
  #[.func (.yield (w.heap.size+1)) #[] #[]]++lb,w1,?_,?_,?_,?_,λ_=>h1,?_⟩
 .rw[Pv,hrc];exact run_enterLoop_outer _ _ _ _ _
 .simp only[resolve,hg];simp[go_sem]
 .intro f' hf';simp[Target.leads]at hf';subst hf';exact hFg
 .simp[invoke,go_sem,eg]
 refine(aRS (w.heap.size+1) (λi W=>I i W/\W.heap[w.heap.size+1]?=Z (.loop (rc .ready none))/\W.heap[w.heap.size]?=Z (.deferred (Z [])))
  (λW=>Ix W/\W.heap[w.heap.size+1]?=Z (.loop (rc .done (Z (.exit id))))/\W.heap[w.heap.size]?=Z (.deferred (Z []))) w1 hB1
  (λi=>((hI i).mono om).and ((N_ _ _ _ om).and (N_ _ _ _ om))) ?_ ⟨hI1,hL,hD⟩).mono ?_
 .rintro i W hi ⟨hIi,hl,hd⟩;have hy:=run_yield (P:=P) (args:=encs i) hl (by rw[hrc];exact hps i);rw[hrc]at hy;refine⟨fn,_,assign,body,hy,roundIn_of_wpIn hfn (aJs _ i W _ ⟨_,run_beginRound hl (by rw[hrc]),?_⟩)⟩;obtain⟨V,hV⟩:∃V,V=W.putObj (w.heap.size+1) (.loop {rc .ready none with state:=.busy}):=⟨_,rfl⟩;have fF:=(Array.getElem?_eq_some_iff.1 hl).1;have yH:V.heap[w.heap.size+1]?=Z (.loop {rc .ready none with state:=.busy}):=by rw[hV];exact World.putObj_heap_same fF
  have Bj:V.heap[w.heap.size]?=Z (.deferred (Z [])):=by rw[hV];exact(World.putObj_heap_other om).trans hd
  have hBV:Below n₀ W V:=by rw[hV];exact belowK_b hn₀ _ _ _ _ om hl rfl rfl
  have hIV:I i V:=by rw[hV];exact(hI i).put _ _ _ _ hIi om hl rfl rfl
  rw[<-hV];refine wpIn_mono (aP3 _ i V hi hIV) ?_;have fin:∀(j:Option Code) (X:World),KeepsOthers V X->X.heap[w.heap.size+1]?=Z (.loop {rc .ready none with state:=.busy})/\
    (Instr.endRound (w.heap.size+1) j).run P X=.ok (.bool j.isNone) (X.putObj (w.heap.size+1) (.loop (rc (if j.isNone then .ready else .done) j)))/\
    (X.putObj (w.heap.size+1) (.loop (rc (if j.isNone then .ready else .done) j))).heap[w.heap.size+1]?=Z (.loop (rc (if j.isNone then .ready else .done) j))/\
    (X.putObj (w.heap.size+1) (.loop (rc (if j.isNone then .ready else .done) j))).heap[w.heap.size]?=Z (.deferred (Z [])):=λj X hk=>by
   have sG:=hk.same _ _ yH rfl;have he:=run_endRound (P:=P) j sG;have hd3:=hk.same _ _ Bj rfl;refine⟨sG,?_,World.putObj_heap_same (Array.getElem?_eq_some_iff.1 sG).1,(World.putObj_heap_other om).trans hd3⟩;rw[hrc]at he⊢
   exact he
  intro e a3 X hp;cases e with
  |normal=>
   obtain⟨aDA,hk,hb,hi2⟩:=hp;obtain⟨sG,hr,ER,hd4⟩:=fin none X hk;exact⟨_,_,hr,.inl ⟨aDA,rfl,⟨(hI _).put _ _ _ _ hi2 om sG rfl rfl,ER,hd4⟩,(hBV.trans hb).trans (belowK_b hn₀ _ _ _ _ om sG rfl rfl)⟩⟩
  |exit d=>
   obtain⟨he,rfl,hk,hx⟩:=hp;obtain⟨sG,hr,ER,hd4⟩:=fin (Z (.exit d)) X hk;exact⟨_,_,hr,.inr ⟨he,rfl,hIx.put _ _ _ _ hx om sG rfl rfl,ER,hd4⟩⟩
  |ret=>exact hp.elim
  |goto t=>exact hp.elim
  |panic ch=>exact hp.elim
  |outgrown=>exact hp.elim
 .rintro e X ⟨⟨v,rfl⟩,hx,hl,hd⟩;have he:=run_endLoop (P:=P) hl (by rw[hrc];simp);rw[show(rc LoopState.done (Z (Code.exit id))).pending =Z (Code.exit id) by rw[hrc]]at he;exact⟨Z (.exit id),_,he,aPv _ _ (Nat.le_refl _) (hIx.put _ _ _ _ hx om hl rfl rfl) ((World.putObj_heap_other om).trans hd)⟩
