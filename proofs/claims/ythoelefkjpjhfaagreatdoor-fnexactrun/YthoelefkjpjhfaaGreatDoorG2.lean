import Derived.Test.YthoelefkjpjhfaaGreatDoorPm
import Derived.Test.YthoelefkjpjhfaaGreatDoorRows
import Derived.WalkSpells
import Derived.Lib.Walk
import Derived.Lib.Small
import Derived.Lib.Strings
import Derived.Lib.Slices
import Derived.Laws.Externs
import Derived.Shelf.Spec.BitsCarry
import Derived.Deep.RegionHeld3
import Derived.RangeFuncNested
import Derived.RangeFuncBound
import Derived.RangeFuncCalls
import Derived.RangeFuncLeaves
import Derived.Shelf.Abstract
import Derived.Shelf.RegionOpen
import Derived.OwnWalkIn
import Derived.TacticsInMore
import Derived.LoopNIn
import Derived.LoopIn
set_option linter.all false
open Option renaming some → Z
open Go.Value renaming int → Y
open Go.Proofs.Tryz
namespace Go.Proofs.YthoelefkjpjhfaaGreatDoor
open Go.RowKit
variable {f p mx one aN sg nan:Int}{A Bv m i V c B j B' n gf n₀ N:Nat}{W w w0:ak}{v:Value}{Q:Exit->Act->ak->Prop}{a:Act}{lb:Array Value}
def aM6{P:Prop}(h:P:=by
 have:b=true:=by rw[hb];decide
 subst this;clear hb;go_enter func50,ntmps50;go_wp2;go_ret;exact⟨rfl,rfl⟩):P:=h
def bI(f p mx one aN sg nan:Int):Prop:=
 (f=0/\p=24/\mx=127/\one=8388608/\aN=2139095040/\sg=2147483648/\nan=2143289344)\/
 (f=1/\p=53/\mx=1023/\one=4503599627370496/\aN=9218868437227405312/\sg=9223372036854775808/\nan=9221120237041090560)
def jo(f:Int)(b:Bool)(hb:b=decide (f=0\/f=1))(w:ak):
  QW 50 #[Y .i64 f] w (.bool b):=by
 rcases(show f=0\/f=1\/((f==0)=false/\(f==1)=false/\¬(f=0\/f=1)) by simp;omega)with rfl|rfl|⟨e0,e1,h⟩
 .exact aM6
 .exact aM6
 .have:b=false:=by rw[hb];simp;omega
  subst this;clear h hb;go_enter func50,ntmps50;go_wp2;go_ret;exact⟨rfl,rfl⟩
def qG(h:bI f p mx one aN sg nan)(w:ak):
  QW 116 #[Y .i64 f] w (Y .i64 p):=by
 rcases h with⟨rfl,rfl,rfl,rfl,rfl,rfl,rfl⟩|⟨rfl,rfl,rfl,rfl,rfl,rfl,rfl⟩
 all_goals
  go_enter func116,ntmps116;go_wp2;go_ret;exact⟨rfl,rfl⟩
def BZ(h:bI f p mx one aN sg nan)(w:ak):
  QW 206 #[Y .i64 f] w (Y .i64 mx):=by
 rcases h with⟨rfl,rfl,rfl,rfl,rfl,rfl,rfl⟩|⟨rfl,rfl,rfl,rfl,rfl,rfl,rfl⟩
 all_goals
  go_enter func206,ntmps206;go_wp2;go_ret;exact⟨rfl,rfl⟩
def yR(h:bI f p mx one aN sg nan)(w:ak):
  QW 215 #[Y .i64 f] w (Y .i64 (1-mx)):=by
 have hm:-2000<=mx/\mx<=2000:=by rcases h with h|h<;>omega
 go_enter func215,ntmps215;go_wp2_with (go_at_call 206;refine(BZ h _).mono ?_;rintro e w' ⟨rfl,hw⟩;subst hw);go_ret;exact⟨rfl,rfl⟩
def aEi(k:Nat)(h:k<=62):(2:Int)^k<=4611686018427387904:=by
 have:=pU (show 0<2 by decide) h;have c:(2:Int)^k=((2^k:Nat):Int):=by push_cast;rfl
 rw[c];omega
def lH(n:Nat)(z:Int)(hn:n<=63)(hz:z=2^n)(w:ak):
  QW 117 #[Y .i64 n] w (Y .u64 z):=by
 have HZ:Hid _:=hz;clear hz;go_enter func117,ntmps117;go_wp2;go_loop [3,4] (λs i=>∃(k:Nat) (P:Int),k<=n/\s=Y .u64 P/\i=Y .i64 k/\Hid (P=2^k)/\1<=P) (λ_ i=>n-(intOf i).toNat)
 case atStart=>exact⟨0,1,om,rfl,rfl,rfl,om⟩
 case round=>
  obtain⟨k,P,hk,rfl,rfl,HP,p1⟩:=hrel;by_cases fJ:(k:Int)<(n:Int)
  .have hp:=aEi k om;rw[<-HP.out]at hp;go_wp2;go_round
   case rel=>exact⟨k+1,P*2,om,rfl,jS,by show _=_;rw[Int.pow_succ,<-HP.out],om⟩
   case measure=>exact qL
  .have e:P=z:=by rw[HP.out,HZ.out,(om:k=n)]
   have E:Hid _:=e;clear e;go_wp2;go_ret;exact⟨b_ (lu (Value.int IntKind.u64) E.out),rfl⟩
def bI.bounds(h:bI f p mx one aN sg nan):24<=p/\p<=53/\127<=mx/\mx<=1023/\8388608<=one/\one<=4503599627370496/\0<aN/\aN<sg/\aN<nan/\nan<sg/\sg<=9223372036854775808/\one<aN:=by
 rcases h with h|h<;>omega
def bI.pow(h:bI f p mx one aN sg nan):∃n:Nat,(n:Int)=p-1/\n<=63/\one=2^n:=by
 rcases h with h|h
 .exact⟨23,om,om,by rw[h.2.2.2.1];decide⟩
 .exact⟨52,om,om,by rw[h.2.2.2.1];decide⟩
def u_(h:bI f p mx one aN sg nan)(w:ak):
  QW 117 #[Y .i64 (p-1)] w (Y .u64 one):=by
 obtain⟨n,hn,aTO,Dn⟩:=h.pow;rw[<-hn];exact lH n one aTO Dn w
def og(h:bI f p mx one aN sg nan)(w:ak):
  QW 148 #[Y .i64 f] w (Y .u64 aN):=by
 obtain⟨b1,b2,b3,b4,b5,b6,b7,b8,b9,b10,b11,b12⟩:=h.bounds;have he:IntKind.u64.wrap (one*(2*mx+1))=aN:=by
  rw[iT];rcases h with⟨rfl,rfl,rfl,rfl,rfl,rfl,rfl⟩|⟨rfl,rfl,rfl,rfl,rfl,rfl,rfl⟩<;>decide
 have HE:Hid _:=h;clear h;go_enter func148,ntmps148;go_wp2_with (first|(go_at_call 116;refine(qG HE.out _).mono ?_;rintro e w' ⟨rfl,hw⟩;subst hw)|(go_at_call 117;refine(u_ HE.out _).mono ?_;rintro e w' ⟨rfl,hw⟩;subst hw)|(go_at_call 206;refine(BZ HE.out _).mono ?_;rintro e w' ⟨rfl,hw⟩;subst hw))
 go_ret;exact⟨rfl,rfl⟩
def lg(h:bI f p mx one aN sg nan)(w:ak):
  QW 207 #[Y .i64 f] w (Y .u64 sg):=by
 rcases h with⟨rfl,rfl,rfl,rfl,rfl,rfl,rfl⟩|⟨rfl,rfl,rfl,rfl,rfl,rfl,rfl⟩
 .go_enter func207,ntmps207;go_wp2_with (go_at_call 117;refine(lH 31 2147483648 om de _).mono ?_;rintro e w' ⟨rfl,hw⟩;subst hw);go_ret;exact⟨rfl,rfl⟩
 .go_enter func207,ntmps207;go_wp2_with (go_at_call 117;refine(lH 63 9223372036854775808 om de _).mono ?_;rintro e w' ⟨rfl,hw⟩;subst hw);go_ret;exact⟨rfl,rfl⟩
def yQ(h:bI f p mx one aN sg nan)(w:ak):
  QW 114 #[Y .i64 f] w (Y .u64 nan):=by
 have H0:∀w,QW 117 #[Y .i64 (p-2)] w (Y .u64 (nan-aN)):=by
  rcases h with⟨rfl,rfl,rfl,rfl,rfl,rfl,rfl⟩|⟨rfl,rfl,rfl,rfl,rfl,rfl,rfl⟩
  .exact λw=>lH 22 _ om de w
  .exact λw=>lH 51 _ om de w
 obtain⟨b1,b2,b3,b4,b5,b6,b7,b8,b9,b10,b11,b12⟩:=h.bounds;have HE:Hid _:=h;have H0h:Hid _:=H0;have he:aN+(nan-aN)=nan:=om;clear h H0;go_enter func114,ntmps114;go_wp2_with (first|(go_at_call 148;refine(og HE.out _).mono ?_;rintro e w' ⟨rfl,hw⟩;subst hw)|(go_at_call 116;refine(qG HE.out _).mono ?_;rintro e w' ⟨rfl,hw⟩;subst hw)|(go_at_call 117;refine(H0h _).mono ?_;rintro e w' ⟨rfl,hw⟩;subst hw))
 go_ret;exact⟨rfl,rfl⟩
def dA(h:bI f p mx one aN sg nan)(w:ak):
  QR 136 #[Y .i64 f] w (aU nan 1):=by
 have hf:true=decide (f=0\/f=1):=by rcases h with h|h<;>simp[h.1]
 have HE:Hid _:=h;have HF:Hid _:=hf;clear h hf;go_enter func136,ntmps136;go_wp2_with (first|(go_at_call 50;refine(jo _ true HF.out _).mono ?_;rintro e w' ⟨rfl,hw⟩;subst hw)|(go_at_call 114;refine(yQ HE.out _).mono ?_;rintro e w' ⟨rfl,hw⟩;subst hw))
 go_returns;exact⟨rfl,kr⟩
def aCP:bI 1 53 1023 4503599627370496 9218868437227405312 9223372036854775808 9221120237041090560:=.inr ⟨rfl,rfl,rfl,rfl,rfl,rfl,rfl⟩
def nK(f:Int)(h:¬(f=0\/f=1))(w:ak):
  QR 136 #[Y .i64 f] w (aU 9221120237041090560 1):=by
 have HF:Hid (false=decide (f=0\/f=1)):=by show _=_;simp;omega
 clear h;go_enter func136,ntmps136;go_wp2_with (first|(go_at_call 50;refine(jo _ false HF.out _).mono ?_;rintro e w' ⟨rfl,hw⟩;subst hw)|(go_at_call 114;refine(yQ aCP _).mono ?_;rintro e w' ⟨rfl,hw⟩;subst hw))
 go_returns;exact⟨rfl,kr⟩
def aBj(f v:Int)(w:ak):
  QW 118 #[Y .i64 f,Y .i64 0,Y .u64 v] w (Y .u64 v):=by
 go_enter func118,ntmps118;go_wp2;go_ret;exact⟨rfl,rfl⟩
def aEM(h:bI f p mx one aN sg nan)(v:Int)(v0:0<=v)(v1:v<sg)(w:ak):
  QW 118 #[Y .i64 f,Y .i64 1,Y .u64 v] w (Y .u64 (v+sg)):=by
 obtain⟨b1,b2,b3,b4,b5,b6,b7,b8,b9,b10,b11,b12⟩:=h.bounds;have HE:Hid _:=h;clear h;go_enter func118,ntmps118;go_wp2_with (go_at_call 207;refine(lg HE.out _).mono ?_;rintro e w' ⟨rfl,hw⟩;subst hw);go_ret;exact⟨rfl,rfl⟩
def bI.yes(h:bI f p mx one aN sg nan):true=decide (f=0\/f=1):=by
 rcases h with h|h<;>simp[h.1]
def gJ(h:bI f p mx one aN sg nan)(v:Int)(v0:0<=v)(v1:v<2*sg)(w:ak):
  pO f v w true:=by
 rcases h with⟨rfl,rfl,rfl,rfl,rfl,rfl,rfl⟩|⟨rfl,rfl,rfl,rfl,rfl,rfl,rfl⟩
 all_goals
  go_enter func61,ntmps61;go_wp2_with (go_at_call 50;refine(jo _ true de _).mono ?_;rintro e w' ⟨rfl,hw⟩;subst hw);go_ret;first|exact⟨rfl,rfl⟩|exact⟨lu (λb=>Exit.returned (Value.bool b)) (h_ om),rfl⟩|(refine⟨?_,rfl⟩;simp;omega)
def jH(f v:Int)(v0:0<=v)(h:¬(f=0\/f=1)\/(f=0/\4294967296<=v))(w:ak):
  pO f v w false:=by
 rcases h with h|⟨rfl,hv⟩
 .have hf:false=decide (f=0\/f=1):=jA;have HF:Hid _:=hf;clear hf h;go_enter func61,ntmps61;go_wp2_with (go_at_call 50;refine(jo _ false HF.out _).mono ?_;rintro e w' ⟨rfl,hw⟩;subst hw);go_ret;exact⟨rfl,rfl⟩
 .go_enter func61,ntmps61;go_wp2_with (go_at_call 50;refine(jo _ true de _).mono ?_;rintro e w' ⟨rfl,hw⟩;subst hw);go_ret;first|exact⟨rfl,rfl⟩|(refine⟨?_,rfl⟩;simp;omega)
set_option maxRecDepth 1000000
set_option maxHeartbeats 40000000
def AU:Go.Lib.len8tab.size=256:=by decide+kernel
def aJB:∀j:Fin 256,(Go.Lib.len8tab[j.val]'(by rw[AU];exact j.isLt)).toNat =Go.Lib.bitLen j.val:=by decide+kernel
def aJA(i:Nat)(h:i<Go.Lib.len8tab.size):(Go.Lib.len8tab[i]'h).toNat =Go.Lib.bitLen i:=aJB ⟨i,by rw[<-AU];exact h⟩
def aNS(i:Nat)(h:i<256):Go.Lib.bitLen i<=8:=Go.Lib.bitLen_le i 8 om om
def xg(x:Int)(s i:Nat)(c:Int)(h0:0<=x)(h1:aI x)(hc:c=(s:Int))(hs:s<=56)(hi:i=x.toNat/2^s)(h:i<Go.Lib.len8tab.size)(hx:s=0\/2^s<=x.toNat):
  wrap64 (c+wrap64 (((Go.Lib.len8tab[i]'h).toNat :Nat):Int))=(Go.Lib.bitLen x.toNat:Int):=by
 rw[aJA];have hl:=aNS i (by rw[<-AU];exact h);have e:Go.Lib.bitLen x.toNat=s+Go.Lib.bitLen i:=by
  rcases hx with rfl|hx
  .rw[hi];simp
  .rw[hi];exact Go.Lib.bitLen_shift s x.toNat hx om
 rw[e];unfold wrap64;omega
def BU(x:Int)(h0:0<=x)(h1:aI x)(w:ak):
  CT 321 #[Y .u64 x] w λe w'=>e=.returned (Y .i64 (Go.Lib.bitLen x.toNat))/\w'=w:=by
 have qY:=AU;go_enter func321,ntmps321;go_wp2;all_goals (go_ret;refine⟨b_ (lu (Value.int IntKind.i64) ?_),rfl⟩)<;>first|exact xg x 56 _ 56 h0 h1 rfl om (by simp only[Nat.reducePow];omega) _ (.inr (by simp only[Nat.reducePow];omega))|exact xg x 48 _ 48 h0 h1 rfl om (by simp only[Nat.reducePow];omega) _ (.inr (by simp only[Nat.reducePow];omega))|exact xg x 40 _ 40 h0 h1 rfl om (by simp only[Nat.reducePow];omega) _ (.inr (by simp only[Nat.reducePow];omega))|exact xg x 32 _ 32 h0 h1 rfl om (by simp only[Nat.reducePow];omega) _ (.inr (by simp only[Nat.reducePow];omega))|exact xg x 24 _ 24 h0 h1 rfl om (by simp only[Nat.reducePow];omega) _ (.inr (by simp only[Nat.reducePow];omega))|exact xg x 16 _ 16 h0 h1 rfl om (by simp only[Nat.reducePow];omega) _ (.inr (by simp only[Nat.reducePow];omega))|exact xg x 8 _ 8 h0 h1 rfl om (by simp only[Nat.reducePow];omega) _ (.inr (by simp only[Nat.reducePow];omega))|(have e:=xg x 0 x.toNat 0 h0 h1 rfl om (by simp) (by rw[AU];omega) (.inl rfl);rw[Int.zero_add]at e;exact e)
def Yd(x:Int)(h0:0<=x)(h1:aI x)(w:ak):
  CT 329 #[Y .u64 x] w λe w'=>e=.returned (Y .i64 (64-(Go.Lib.bitLen x.toNat:Int)))/\w'=w:=by
 have hl:=Go.Lib.bitLen_le x.toNat 64 om om;go_enter func329,ntmps329;go_wp2_with (go_at_call 321;refine(BU x h0 h1 _).mono ?_;rintro e w' ⟨rfl,rfl⟩);go_ret;exact⟨rfl,rfl⟩
def V8(x y:Int):Int:=if x<y then 1 else 0
def aPz(x y:Int):V8 x y<=1:=by unfold V8;split<;>omega
def aPA(x y:Int):0<=V8 x y:=by unfold V8;split<;>omega
def aNh(x y b:Int)(hx:0<=x)(hy:0<=y)(ZI:aI y)(t_:0<=b)(hb:b<=1)(w:ak):(callFunc 328 #[Y .u64 x,Y .u64 y,Y .u64 b]).run prog w=
  .ok (.value (.tuple #[Y .u64 ((x-y-b)%18446744073709551616),Y .u64 (V8 x (y+b))])) w:=by
 obtain⟨x,rfl⟩:=lq hx;obtain⟨y,rfl⟩:=lq hy;obtain⟨b,rfl⟩:=lq t_;rw[run_callFunc_extern func328 (by kernel_rfl) (by kernel_rfl) (by kernel_rfl) (e:=sub64Entry) (by kernel_rfl),run_sub64 x y b (by omega)];have e1:(((x+18446744073709551616-y-b)%18446744073709551616:Nat):Int)=((x:Int)-y-b)%18446744073709551616:=om;have e2:((if x<y+b then 1 else 0:Nat):Int)=V8 x (y+b):=by unfold V8;split<;>split<;>omega
 rw[<-e1,<-e2];rfl
def aJG(x y:Int)(hx:0<=x)(hy:0<=y)(ZI:aI y)(w:ak):(callFunc 328 #[Y .u64 x,Y .u64 y,Y .u64 0]).run prog w=
  .ok (.value (.tuple #[Y .u64 ((x-y)%18446744073709551616),Y .u64 (V8 x y)])) w:=by
 simpa using aNh x y 0 hx hy ZI (Int.le_refl 0) de w
def aEr(a0 a1 b0 b1:Int)(zC:0<=a0)(kG:0<=a1)(t_:0<=b0)(iF:0<=b1)(gb0:aI b0)(gb1:aI b1)(w:ak):
  CT 304 #[aS a0 a1,aS b0 b1] w λe w'=>
   e=.returned (.tuple #[aS ((a0-b0)%18446744073709551616) ((a1-b1-V8 a0 b0)%18446744073709551616),
    .bool (V8 a1 (b1+V8 a0 b0) != 0)])/\∃c1 c2 c3 c4:Array Value,w'=((((w.alloc (.cells c1 257)).alloc (.cells c2 257)).alloc (.cells c3 257)).alloc (.cells c4 257)).drew.drew :=by
 have k0:=aPA a0 b0;have k1:=aPz a0 b0;go_enter func304,ntmps304;go_wp2;refine wp_loop_rounds 3 ?_;rw[uP];go_wp2;go_region_with (simp only[aJG a0 b0 zC t_ gb0]);all_goals (go_wp2;rw[uP];go_wp2;go_region_with (simp only[aNh a1 b1 _ kG iF gb1 k0 k1]))
 all_goals (go_wp2;rw[uP];go_wp2;go_returns;exact⟨rfl,_,_,_,_,rfl⟩)
def lt2(a1 a0 b1 b0:Int):Bool:=V8 a1 (b1+V8 a0 b0) != 0
def aKy(a1 a0 b1 b0:Int)(zC:0<=a0)(t_:0<=b0)(L8:aI a0)(gb0:aI b0):lt2 a1 a0 b1 b0=decide (a1*18446744073709551616+a0<b1*18446744073709551616+b0):=by
 unfold lt2 V8;rw[Bool.eq_iff_iff];simp only[bne_iff_ne,ne_eq,decide_eq_true_eq];split<;>split<;>omega
def aIF(N j k:Nat)(h:j<k):dg (N%4294967296^k) j=dg N j:=by
 obtain⟨i,rfl⟩:∃i,k=j+(i+1):=⟨k-j-1,om⟩;unfold dg;rw[jY,Nat.mod_mul_right_div_self,jE];exact Nat.mod_mod_of_dvd _ (Nat.dvd_mul_left _ _)
def aIG(N j k:Nat):dg (N/4294967296^k) j=dg N (k+j):=by
 unfold dg;rw[LK,<-jY]
def put(V k d:Nat):Nat:=V/4294967296^(k+1)*4294967296^(k+1)+d*4294967296^k+V%4294967296^k
def parts(V k:Nat):V=V/4294967296^(k+1)*4294967296^(k+1)+dg V k*4294967296^k+V%4294967296^k:=by
 have h1:=Aj V (4294967296^(k+1));have h2:V%4294967296^(k+1)=V%4294967296^k+4294967296^k*dg V k:=by rw[jE,Nat.mod_mul];rfl
 rw[dM (4294967296^k)]at h2;rw[dM]at h1;omega
def Oq(V k d:Nat):put V k d+dg V k*4294967296^k=V+d*4294967296^k:=by
 have:=parts V k;unfold put;omega
def aG9(V k d:Nat)(hd:d<4294967296):put V k d/4294967296^(k+1)=V/4294967296^(k+1)/\put V k d%4294967296^k=V%4294967296^k/\put V k d/4294967296^k%4294967296=d:=by
 have hp:=jK k;have hp1:=jK (k+1);have V5:=oN V hp;have fJ:d*4294967296^k+V%4294967296^k<4294967296^(k+1):=by
  have:=Nat.mul_le_mul_right (4294967296^k) (om:d+1<=4294967296);rw[Ak]at this;rw[jE,dM (4294967296^k)];omega
 have e1:put V k d=(d*4294967296^k+V%4294967296^k)+4294967296^(k+1)*(V/4294967296^(k+1)):=by unfold put;rw[dM (4294967296^(k+1))];omega
 have e2:put V k d=V%4294967296^k+4294967296^k*(V/4294967296^(k+1)*4294967296+d):=by
  unfold put;rw[Fj,jE];have:V/(4294967296^k*4294967296)*(4294967296^k*4294967296)=4294967296^k*(V/(4294967296^k*4294967296)*4294967296):=by
   simp only[kX,Oy,dM]
  rw[this,dM d];omega
 refine⟨?_,?_,?_⟩
 .rw[e1,Nat.add_mul_div_left _ _ hp1,xU fJ,Nat.zero_add]
 .rw[e2,Nat.add_mul_mod_self_left,Nat.mod_mod]
 .rw[e2,Nat.add_mul_div_left _ _ hp,xU V5,Nat.zero_add];omega
def aPo(V k d j:Nat)(hd:d<4294967296):dg (put V k d) j=if j=k then d else dg V j:=by
 obtain⟨a1,a2,a3⟩:=aG9 V k d hd;split
 .rename_i e;subst e;exact a3
 .rename_i e
  rcases uq j k with c|c
  .rw[<-aIF (put V k d) j k c,a2,aIF V j k c]
  .obtain⟨i,rfl⟩:∃i,j=k+1+i:=⟨j-(k+1),om⟩;rw[<-aIG (put V k d) i (k+1),a1,aIG]
def aJt(n V k d:Nat)(hk:k<n)(hd:d<4294967296):(ZU n V).set k (Value.int .u32 (d:Int))=ZU n (put V k d):=by
 apply List.ext_getElem?;intro j;by_cases hj:j<n
 .rw[EP n (put V k d) j hj,aPo V k d j hd];by_cases e:j=k
  .subst e;rw[List.getElem?_set_self (by rw[zF];exact hj),aQ rfl]
  .rw[List.getElem?_set_ne om,EP n V j hj,aH e]
 .have h1:(ZU n (put V k d))[j]?=none:=by rw[List.getElem?_eq_none_iff,zF];omega
  have h2:((ZU n V).set k (Value.int .u32 (d:Int)))[j]?=none:=by rw[List.getElem?_eq_none_iff,List.length_set,zF];omega
  rw[h1,h2]
def aOh(V k d n:Nat)(hk:k<n)(hV:V<4294967296^n)(hd:d<4294967296):put V k d<4294967296^n:=by
 obtain⟨i,rfl⟩:∃i,n=k+1+i:=⟨n-(k+1),om⟩;obtain⟨a1,_,_⟩:=aG9 V k d hd;have h1:V/4294967296^(k+1)<4294967296^i:=by
  rw[aEo (jK _),dM,<-jY];exact hV
 rw[<-a1,aEo (jK _),dM,<-jY]at h1;exact h1
def TL(A Bv m i j V c:Nat):Prop:=
 V+c*4294967296^(i+j)=A%4294967296^i*Bv+dg A i*(Bv%4294967296^j)*4294967296^i/\V<4294967296^(i+m)/\c<4294967296
def aA5(A Bv m i:Nat)(hB:Bv<4294967296^m):TL A Bv m i 0 (A%4294967296^i*Bv) 0:=by
 refine⟨by simp[Nat.mod_one],?_,de⟩;rw[jY];rcases jL Bv with rfl|hp
 .rw[Nat.mul_zero];exact Nat.mul_pos (jK _) (jK _)
 .exact Nat.mul_lt_mul_of_lt_of_le (oN _ (jK _)) (Nat.le_of_lt hB) (jK _)
def SC(a b v c:Nat)(ha:a<4294967296)(hb:b<4294967296)(hv:v<4294967296)(hc:c<4294967296):a*b+v+c<18446744073709551616:=by
 have:=Nat.mul_le_mul (om:a<=4294967295) (om:b<=4294967295);omega
def aA6(h:TL A Bv m i j V c)(hj:j<m):
  TL A Bv m i (j+1) (put V (i+j) ((dg A i*dg Bv j+dg V (i+j)+c)%4294967296)) ((dg A i*dg Bv j+dg V (i+j)+c)/4294967296):=by
 obtain⟨h1,h2,h3⟩:=h;have hs:=SC _ _ _ _ (l9 A i) (l9 Bv j) (l9 V (i+j)) h3;refine⟨?_,aOh V (i+j) _ (i+m) om h2 (oN _ de),om⟩;have hp:=Oq V (i+j) ((dg A i*dg Bv j+dg V (i+j)+c)%4294967296);have hx:=Aj (dg A i*dg Bv j+dg V (i+j)+c) 4294967296;have hb:Bv%4294967296^(j+1)=Bv%4294967296^j+4294967296^j*dg Bv j:=by rw[jE,Nat.mod_mul];rfl
 rw[hb];generalize(dg A i*dg Bv j+dg V (i+j)+c)%4294967296=r at*
 generalize(dg A i*dg Bv j+dg V (i+j)+c)/4294967296=q at*
 generalize put V (i+j) r=V' at*
 have e1:q*4294967296^(i+(j+1))=4294967296*q*4294967296^(i+j):=by
  rw[<-Nat.add_assoc,jE];simp only[kX,Oy,dM]
 have e2:dg A i*(Bv%4294967296^j+4294967296^j*dg Bv j)*4294967296^i=dg A i*(Bv%4294967296^j)*4294967296^i+dg A i*dg Bv j*4294967296^(i+j):=by
  rw[Fj,Ak,jY]
  congr 1
  simp only[kX,Oy,dM]
 have e3:(4294967296*q+r)*4294967296^(i+j)=(dg A i*dg Bv j+dg V (i+j)+c)*4294967296^(i+j):=by rw[hx]
 rw[e1,e2];simp only[Ak]at e3;omega
def aEp(h:TL A Bv m i m V c)(hB:Bv<4294967296^m):put V (i+m) c=A%4294967296^(i+1)*Bv:=by
 obtain⟨h1,h2,h3⟩:=h;have hp:=Oq V (i+m) c;have hz:dg V (i+m)=0:=sV h2 (dJ _);have hb:A%4294967296^(i+1)=A%4294967296^i+4294967296^i*dg A i:=by rw[jE,Nat.mod_mul];rfl
 rw[hz,Nat.zero_mul,Nat.add_zero]at hp;rw[lQ hB]at h1;rw[hp,h1,hb,Ak]
 congr 1
 simp only[kX,Oy,dM]
structure Calm (B:Nat) (I:ak->Prop):Prop where
 put:∀W l o o',I W->B<=l->W.heap[l]?=Z o->o.isCells=false->o'.isCells=false->I (W.putObj l o')
 new:∀W o,I W->o.isCells=false->I (W.alloc o)
 cells:∀W c t,I W->I (W.alloc (.cells c t))
 drew:∀W,I W->I W.drew
def Calm.mono{I:ak->Prop}(h:Calm B I)(hb:B<=B'):Calm B' I:=⟨λW l o o' a b=>h.put W l o o' a (yI hb b),h.new,h.cells,h.drew⟩
def Calm.and{I J:ak->Prop}(h:Calm B I)(k:Calm B J):Calm B (λW=>I W/\J W):=
 ⟨λW l o o' a b c d e=>⟨h.put W l o o' a.1 b c d e,k.put W l o o' a.2 b c d e⟩,λW o a b=>⟨h.new W o a.1 b,k.new W o a.2 b⟩,λW c t a=>⟨h.cells W c t a.1,k.cells W c t a.2⟩,λW a=>⟨h.drew W a.1,k.drew W a.2⟩⟩
def Gr.aPN(h:Gr W w)(o:Obj)(ho:o.isCells=false):Gr W (w.alloc o):=by
 refine⟨⟨World.keptBut_trans h.grown.1 (World.keptBut_alloc _ _ _),λa=>?_,yI h.grown.2.2 (by simp)⟩,h.below.alloc h.below.size o⟩;rw[<-h.grown.2.1 a];by_cases e:a.block=w.heap.size
 .have e1:(w.alloc o).heap[a.block]?=Z o:=by rw[e];exact(MapKept.heap_alloc w _).1
  have e2:w.heap[a.block]?=none:=by rw[e];simp
  unfold World.frozen?;rw[e1,e2];cases o<;>first|rfl|(simp[Obj.isCells]at ho)
 .exact World.frozen?_alloc_old _ _ _ e
def P7(B l:Nat)(o:Obj)(hl:l<B):Calm B (λW=>W.heap[l]?=Z o):=
  ⟨λW k o1 o2 h hk hb _ _=>(World.putObj_heap_other om).trans h,
   λW o1 h _=>(Below.heap_alloc W o1 l (Ap.1 h).1).trans h,
   λW c t h=>(Below.heap_alloc W _ l (Ap.1 h).1).trans h,
   λW h=>h⟩
def BK{p:Addr}(o:Obj)(h:W.cell? p=Z v):(W.alloc o).cell? p=Z v:=by
 obtain⟨q,hq,hc⟩:=cells_of_cell h;unfold World.cell? at h⊢
 rw[Below.heap_alloc W o _ (Ap.1 hq).1];exact h
def y9(B:Nat)(p:Addr)(v:Value):Calm B (λW=>W.cell? p=Z v):=
  ⟨λW l o o' h _ hl ho _=>by
      have:=cells_of_cell h;obtain⟨q,hq,hc⟩:=this;have lM:p.block≠l:=by intro e;rw[e,hl]at hq;cases hq;rw[ho]at hc;cases hc
      unfold World.cell? at h⊢
      rw[World.putObj_heap_other (by omega)];exact h,
   λW o h _=>BK o h,λW c t h=>BK _ h,λW h=>h⟩
def Hands(F:Fence)(n:Nat)(P:Program)(g:Nat)(lb:Array Value)(n₀ N:Nat)(encs:Nat->Array Value)(w:ak):Prop:=
 ∀(l:Nat) (J:Nat->ak->Prop) (Jx:ak->Prop) (W:ak),Below n₀ w W->(∀i,Calm W.heap.size (J i))->
  (∀i W1,i<N->J i W1->YieldAt F (n-1) P l (encs i) W1 λe W'=>(i+1<N/\e=.returned (.bool true)/\J (i+1) W'/\Below n₀ W1 W')\/(i+1=N/\e=.returned (.bool false)/\Jx W'))->
  J 0 W->CallsIn F n P g (#[.func (.yield l) #[] #[]]++lb) W λe W'=>(∃v,e=.returned v)/\Jx W'
def aNO(n₀ N id:Nat)(I:Nat->ak->Prop)(Ix:ak->Prop)(i:Nat)(W:ak):Exit->Act->ak->Prop
 | .normal,_,W'=>i+1<N/\KeepsOthers W W'/\Below n₀ W W'/\I (i+1) W'
 | .exit d,_,W'=>i+1=N/\d=id/\KeepsOthers W W'/\Ix W'
 | .ret,_,_=>False
 | .goto _,_,_=>False
 | .panic _,_,_=>False
 | .outgrown,_,_=>False
def KX{F:Fence}{P:Program}{g:Operand}{ps:Array Tmp}{assign body:Code}
  (hro:F.round=none) (h1:1<=n)   (hg:a.eval g=.func (.func gf) #[] lb) (hFg:F.fn gf) (eg:∀args w,(callFunc gf args).run P w=.ok (.enter gf args) w)
   {encs:Nat->Array Value}  (aTw:Hands F (n-1) P gf lb n₀ N encs w0) (hn₀:n₀<=w.heap.size) (t_:Below n₀ w0 w) (hps:∀i,(encs i).size =ps.size)
  (id:Nat) (I:Nat->ak->Prop) (Ix:ak->Prop) (hI:∀i,Calm w.heap.size (I i)) (hIx:Calm w.heap.size Ix) (h0:I 0 w) (a₁:Nat->Act)
  (aKV:∀(l i:Nat) (W:ak) (K:Act->ak->Prop),K (a₁ i) W->
   assign.wpIn (F.inRound l) (n-1-1) P (Exit.then K (λ_ _ _=>False)) {tmps:=(ps.zip (encs i)).foldl (λt (p,v)=>t.setIfInBounds p v) a.tmps,defers:=[]} W)
  (aRL:∀(l i:Nat) (W:ak),i<N->I i W->body.wpIn (F.inRound l) (n-1-1) P (aNO n₀ N id I Ix i W) (a₁ i) W)
  (aRe:∀(D:Nat) (W:ak),w.heap.size<=D->Ix W->W.heap[D]?=Z (.deferred (Z []))->(Code.exit id).wpIn F n P Q {a with defers:={target:=.collected D,args:=#[]}::a.defers} W):
  (Code.rangeFunc g ps assign body).wpIn F n P Q a w:=by
 refine wpIn_rangeFunc (λfn hfn=>?_);rw[hro];obtain⟨rc,hrc⟩:∃rc:LoopState->Option Code->Loop,rc=λst pe=>{state:=st,pending:=pe,fn,tmps:=a.tmps,params:=ps,assign,body,defers:=w.heap.size}:=⟨_,rfl⟩;obtain⟨w1,Qu⟩:=x_n ((w.alloc (.deferred (Z []))).alloc (.loop (rc .ready none)));have GL:w1.heap.size=w.heap.size+1+1:=by rw[Qu];simp
 have hL:w1.heap[w.heap.size+1]?=Z (.loop (rc .ready none)):=by
  rw[Qu];have:=World.alloc_heap_new (w.alloc (.deferred (Z []))) (.loop (rc .ready none));rwa [dV]at this
 have hD:w1.heap[w.heap.size]?=Z (.deferred (Z [])):=by rw[Qu];exact(Below.heap_alloc _ _ _ (by simp)).trans (World.alloc_heap_new w _)
 have hI1:I 0 w1:=by rw[Qu];exact(hI 0).new _ _ ((hI 0).new _ _ h0 rfl) rfl
 have hB1:Below n₀ w0 w1:=by
  rw[Qu];exact t_.trans (((Below.refl n₀ w).alloc hn₀ _).alloc jA _)
 refine⟨w.heap.size+1,[{target:=.collected w.heap.size,args:=#[]}],w1,{target:=.fn (.func gf) lb,args:=#[.func (.yield (w.heap.size+1)) #[] #[]]},w1,gf,
  #[.func (.yield (w.heap.size+1)) #[] #[]]++lb,w1,?_,?_,?_,?_,λ_=>h1,?_⟩
 .rw[Qu,hrc];exact run_enterLoop_outer _ _ _ _ _
 .simp only[resolve,hg];simp[go_sem]
 .intro f' hf';simp[Target.leads]at hf';subst hf';exact hFg
 .simp[invoke,go_sem,eg]
 refine(aTw (w.heap.size+1) (λi W=>I i W/\W.heap[w.heap.size+1]?=Z (.loop (rc .ready none))/\W.heap[w.heap.size]?=Z (.deferred (Z [])))
  (λW=>Ix W/\W.heap[w.heap.size+1]?=Z (.loop (rc .done (Z (.exit id))))/\W.heap[w.heap.size]?=Z (.deferred (Z []))) w1 hB1
  (λi=>((hI i).mono om).and ((P7 _ _ _ om).and (P7 _ _ _ om))) ?_ ⟨hI1,hL,hD⟩).mono ?_
 .rintro i W hi ⟨hIi,hl,hd⟩;have hy:=run_yield (P:=P) (args:=encs i) hl (by rw[hrc];exact hps i);rw[hrc]at hy;refine⟨fn,_,assign,body,hy,roundIn_of_wpIn hfn (aKV _ i W _ ⟨_,run_beginRound hl (by rw[hrc]),?_⟩)⟩;obtain⟨V,hV⟩:∃V,V=W.putObj (w.heap.size+1) (.loop {rc .ready none with state:=.busy}):=⟨_,rfl⟩;have fJ:=(Ap.1 hl).1;have Az:V.heap[w.heap.size+1]?=Z (.loop {rc .ready none with state:=.busy}):=by rw[hV];exact World.putObj_heap_same fJ
  have DI:V.heap[w.heap.size]?=Z (.deferred (Z [])):=by rw[hV];exact(World.putObj_heap_other om).trans hd
  have hBV:Below n₀ W V:=by rw[hV];exact belowK_b hn₀ _ _ _ _ om hl rfl rfl
  have hIV:I i V:=by rw[hV];exact(hI i).put _ _ _ _ hIi om hl rfl rfl
  rw[<-hV];refine wpIn_mono (aRL _ i V hi hIV) ?_;have fin:∀(j:Option Code) (X:ak),KeepsOthers V X->X.heap[w.heap.size+1]?=Z (.loop {rc .ready none with state:=.busy})/\
    (Instr.endRound (w.heap.size+1) j).run P X=.ok (.bool j.isNone) (X.putObj (w.heap.size+1) (.loop (rc (if j.isNone then .ready else .done) j)))/\
    (X.putObj (w.heap.size+1) (.loop (rc (if j.isNone then .ready else .done) j))).heap[w.heap.size+1]?=Z (.loop (rc (if j.isNone then .ready else .done) j))/\
    (X.putObj (w.heap.size+1) (.loop (rc (if j.isNone then .ready else .done) j))).heap[w.heap.size]?=Z (.deferred (Z [])):=λj X hk=>by
   have vk:=hk.same _ _ Az rfl;have he:=run_endRound (P:=P) j vk;have hd3:=hk.same _ _ DI rfl;refine⟨vk,?_,World.putObj_heap_same (Ap.1 vk).1,(World.putObj_heap_other om).trans hd3⟩;rw[hrc]at he⊢
   exact he
  intro e a3 X hp;cases e with
  |normal=>
   obtain⟨aE0,hk,hb,hi2⟩:=hp;obtain⟨vk,hr,GU,hd4⟩:=fin none X hk;exact⟨_,_,hr,.inl ⟨aE0,rfl,⟨(hI _).put _ _ _ _ hi2 om vk rfl rfl,GU,hd4⟩,(hBV.trans hb).trans (belowK_b hn₀ _ _ _ _ om vk rfl rfl)⟩⟩
  |exit d=>
   obtain⟨he,rfl,hk,hx⟩:=hp;obtain⟨vk,hr,GU,hd4⟩:=fin (Z (.exit d)) X hk;exact⟨_,_,hr,.inr ⟨he,rfl,hIx.put _ _ _ _ hx om vk rfl rfl,GU,hd4⟩⟩
  |ret=>exact hp.elim
  |goto t=>exact hp.elim
  |panic ch=>exact hp.elim
  |outgrown=>exact hp.elim
 .rintro e X ⟨⟨v,rfl⟩,hx,hl,hd⟩;have he:=run_endLoop (P:=P) hl (by rw[hrc];simp);rw[show(rc LoopState.done (Z (Code.exit id))).pending =Z (Code.exit id) by rw[hrc]]at he;exact⟨Z (.exit id),_,he,aRe _ _ (dJ _) (hIx.put _ _ _ _ hx om hl rfl rfl) ((World.putObj_heap_other om).trans hd)⟩
