import Derived.Test.YtmiekgjgpmfekaaGreatDoorA1
import Derived.Test.YtmiekgjgpmfekaaGreatDoorRows
import Derived.WalkSpells
import Derived.WalkLawsBesides
import Derived.Lib.Walk
import Derived.Lib.Small
import Derived.Lib.Strings
import Derived.Lib.Slices
import Derived.Laws.Externs
import Derived.Shelf.Spec.BitsCarry
import Derived.Deep.RegionHeld3
import Derived.RangeFuncNested
import Derived.RangeFuncBound
import Derived.RangeFuncCalls
import Derived.RangeFuncLeaves
import Derived.Shelf.Abstract
import Derived.Shelf.RegionOpen
import Derived.OwnWalkIn
import Derived.TacticsInMore
import Derived.LoopNIn
import Derived.LoopIn
set_option linter.all false
open Option renaming some → U
open Go.Value renaming int → Y
open Go.IntKind renaming i64 → Z, u64 → O
open Go.Proofs.Tryz
namespace Go.Proofs.YtmiekgjgpmfekaaGreatDoor
open Go.RowKit
variable{f p mx one inf sg nan:Int}{A Bv m i V c B j B' n gf n₀ N:Nat}{W w w0:World}{v:Value}{Q:Exit->Act->World->Prop}{a:Act}{lb:Array Value}
theorem aDF{P:Prop}(h:P:=by
 have:b=true:=by rw[hb];decide
 subst this;clear hb;go_enter func81,ntmps81;go_wp2;go_ret;exact⟨rfl,rfl⟩):P:=h
def aP(f p mx one inf sg nan:Int):Prop:=
 (f=0/\p=24/\mx=127/\one=8388608/\inf=2139095040/\sg=2147483648/\nan=2143289344)\/
 (f=1/\p=53/\mx=1023/\one=4503599627370496/\inf=9218868437227405312/\sg=9223372036854775808/\nan=9221120237041090560)
theorem iq(f:Int)(b:Bool)(hb:b=decide (f=0\/f=1))(w:World):
  QW 81 #[Y Z f] w (.bool b):=by
 rcases(show f=0\/f=1\/((f==0)=false/\(f==1)=false/\¬(f=0\/f=1)) by simp;omega)with rfl|rfl|⟨e0,e1,h⟩
 ·exact aDF
 ·exact aDF
 ·have:b=false:=by rw[hb];simp;omega
  subst this;clear h hb;go_enter func81,ntmps81;go_wp2;go_ret;exact⟨rfl,rfl⟩
theorem jL(h:aP f p mx one inf sg nan)(w:World):
  QW 98 #[Y Z f] w (Y Z p):=by
 rcases h with⟨rfl,rfl,rfl,rfl,rfl,rfl,rfl⟩|⟨rfl,rfl,rfl,rfl,rfl,rfl,rfl⟩
 all_goals
  go_enter func98,ntmps98;go_wp2;go_ret;exact⟨rfl,rfl⟩
theorem rC(h:aP f p mx one inf sg nan)(w:World):
  QW 148 #[Y Z f] w (Y Z mx):=by
 rcases h with⟨rfl,rfl,rfl,rfl,rfl,rfl,rfl⟩|⟨rfl,rfl,rfl,rfl,rfl,rfl,rfl⟩
 all_goals
  go_enter func148,ntmps148;go_wp2;go_ret;exact⟨rfl,rfl⟩
theorem qZ(h:aP f p mx one inf sg nan)(w:World):
  QW 121 #[Y Z f] w (Y Z (1-mx)):=by
 have hm:-2000<=mx/\mx<=2000:=by rcases h with h|h<;>omega
 go_enter func121,ntmps121;go_wp2_with (go_at_call 148;refine(rC h _).mono ?_;rintro e w' ⟨rfl,hw⟩;subst hw);go_ret;exact⟨rfl,rfl⟩
theorem Vp(k:Nat)(h:k<=62):(2:Int)^k<=4611686018427387904:=by
 have:=Nat.pow_le_pow_right (show 0<2 by decide) h;have c:(2:Int)^k=((2^k:Nat):Int):=by push_cast;rfl
 rw[c];omega
theorem gU(n:Nat)(z:Int)(hn:n<=63)(hz:z=2^n)(w:World):
  QW 120 #[Y Z n] w (Y O z):=by
 have HZ:Hid _:=hz;clear hz;go_enter func120,ntmps120;go_wp2;go_loop [3,4] (fun s i=>∃(k:Nat) (P:Int),k<=n/\s=Y O P/\i=Y Z k/\Hid (P=2^k)/\1<=P) (fun _ i=>n-(intOf i).toNat)
 case atStart=>exact⟨0,1,om,rfl,rfl,rfl,om⟩
 case round=>
  obtain⟨k,P,hk,rfl,rfl,HP,p1⟩:=hrel;by_cases hlt:(k:Int)<(n:Int)
  ·have hp:=Vp k om;rw[<-HP.out]at hp;go_wp2;go_round
   case rel=>exact⟨k+1,P*2,om,rfl,by go_num,by show _=_;rw[Int.pow_succ,<-HP.out],om⟩
   case measure=>simp[intOf];omega
  ·have e:P=z:=by rw[HP.out,HZ.out,show k=n by omega]
   have E:Hid _:=e;clear e;go_wp2;go_ret;exact⟨bJ (congrArg (Value.int IntKind.u64) E.out),rfl⟩
theorem aP.bounds(h:aP f p mx one inf sg nan):24<=p/\p<=53/\127<=mx/\mx<=1023/\8388608<=one/\one<=4503599627370496/\0<inf/\inf<sg/\inf<nan/\nan<sg/\sg<=9223372036854775808/\one<inf:=by
 rcases h with h|h<;>omega
theorem aP.pow(h:aP f p mx one inf sg nan):∃n:Nat,(n:Int)=p-1/\n<=63/\one=2^n:=by
 rcases h with h|h
 ·exact⟨23,om,om,by rw[h.2.2.2.1];decide⟩
 ·exact⟨52,om,om,by rw[h.2.2.2.1];decide⟩
theorem lM(h:aP f p mx one inf sg nan)(w:World):
  QW 120 #[Y Z (p-1)] w (Y O one):=by
 obtain⟨n,hn,hn63,hone⟩:=h.pow;rw[<-hn];exact gU n one hn63 hone w
theorem jh(h:aP f p mx one inf sg nan)(w:World):
  QW 107 #[Y Z f] w (Y O inf):=by
 obtain⟨b1,b2,b3,b4,b5,b6,b7,b8,b9,b10,b11,b12⟩:=h.bounds;have he:IntKind.u64.wrap (one*(2*mx+1))=inf:=by
  rw[IntKind.wrap_u64];rcases h with⟨rfl,rfl,rfl,rfl,rfl,rfl,rfl⟩|⟨rfl,rfl,rfl,rfl,rfl,rfl,rfl⟩<;>decide
 have HE:Hid _:=h;clear h;go_enter func107,ntmps107;go_wp2_with (first
  |(go_at_call 98;refine(jL HE.out _).mono ?_;rintro e w' ⟨rfl,hw⟩;subst hw)
  |(go_at_call 120;refine(lM HE.out _).mono ?_;rintro e w' ⟨rfl,hw⟩;subst hw)
  |(go_at_call 148;refine(rC HE.out _).mono ?_;rintro e w' ⟨rfl,hw⟩;subst hw))
 go_ret;exact⟨rfl,rfl⟩
theorem iV(h:aP f p mx one inf sg nan)(w:World):
  QW 118 #[Y Z f] w (Y O sg):=by
 rcases h with⟨rfl,rfl,rfl,rfl,rfl,rfl,rfl⟩|⟨rfl,rfl,rfl,rfl,rfl,rfl,rfl⟩
 ·go_enter func118,ntmps118;go_wp2_with (go_at_call 120;refine(gU 31 2147483648 om de _).mono ?_;rintro e w' ⟨rfl,hw⟩;subst hw);go_ret;exact⟨rfl,rfl⟩
 ·go_enter func118,ntmps118;go_wp2_with (go_at_call 120;refine(gU 63 9223372036854775808 om de _).mono ?_;rintro e w' ⟨rfl,hw⟩;subst hw);go_ret;exact⟨rfl,rfl⟩
theorem qY(h:aP f p mx one inf sg nan)(w:World):
  QW 119 #[Y Z f] w (Y O nan):=by
 have H0:∀w,QW 120 #[Y Z (p-2)] w (Y O (nan-inf)):=by
  rcases h with⟨rfl,rfl,rfl,rfl,rfl,rfl,rfl⟩|⟨rfl,rfl,rfl,rfl,rfl,rfl,rfl⟩
  ·exact fun w=>gU 22 _ om de w
  ·exact fun w=>gU 51 _ om de w
 obtain⟨b1,b2,b3,b4,b5,b6,b7,b8,b9,b10,b11,b12⟩:=h.bounds;have HE:Hid _:=h;have H0h:Hid _:=H0;have he:inf+(nan-inf)=nan:=om;clear h H0;go_enter func119,ntmps119;go_wp2_with (first
  |(go_at_call 107;refine(jh HE.out _).mono ?_;rintro e w' ⟨rfl,hw⟩;subst hw)
  |(go_at_call 98;refine(jL HE.out _).mono ?_;rintro e w' ⟨rfl,hw⟩;subst hw)
  |(go_at_call 120;refine(H0h _).mono ?_;rintro e w' ⟨rfl,hw⟩;subst hw))
 go_ret;exact⟨rfl,rfl⟩
theorem dI(h:aP f p mx one inf sg nan)(w:World):
  QR 83 #[Y Z f] w (aK nan 1):=by
 have hf:true=decide (f=0\/f=1):=by rcases h with h|h<;>simp[h.1]
 have HE:Hid _:=h;have HF:Hid _:=hf;clear h hf;go_enter func83,ntmps83;go_wp2_with (first
  |(go_at_call 81;refine(iq _ true HF.out _).mono ?_;rintro e w' ⟨rfl,hw⟩;subst hw)
  |(go_at_call 119;refine(qY HE.out _).mono ?_;rintro e w' ⟨rfl,hw⟩;subst hw))
 go_returns;exact⟨rfl,kr⟩
theorem ZQ:aP 1 53 1023 4503599627370496 9218868437227405312 9223372036854775808 9221120237041090560:=.inr ⟨rfl,rfl,rfl,rfl,rfl,rfl,rfl⟩
theorem oC(f:Int)(h:¬(f=0\/f=1))(w:World):
  QR 83 #[Y Z f] w (aK 9221120237041090560 1):=by
 have HF:Hid (false=decide (f=0\/f=1)):=by show _=_;simp;omega
 clear h;go_enter func83,ntmps83;go_wp2_with (first
  |(go_at_call 81;refine(iq _ false HF.out _).mono ?_;rintro e w' ⟨rfl,hw⟩;subst hw)
  |(go_at_call 119;refine(qY ZQ _).mono ?_;rintro e w' ⟨rfl,hw⟩;subst hw))
 go_returns;exact⟨rfl,kr⟩
theorem QM(f v:Int)(w:World):
  QW 106 #[Y Z f,Y Z 0,Y O v] w (Y O v):=by
 go_enter func106,ntmps106;go_wp2;go_ret;exact⟨rfl,rfl⟩
theorem VW(h:aP f p mx one inf sg nan)(v:Int)(v0:0<=v)(v1:v<sg)(w:World):
  QW 106 #[Y Z f,Y Z 1,Y O v] w (Y O (v+sg)):=by
 obtain⟨b1,b2,b3,b4,b5,b6,b7,b8,b9,b10,b11,b12⟩:=h.bounds;have HE:Hid _:=h;clear h;go_enter func106,ntmps106;go_wp2_with (go_at_call 118;refine(iV HE.out _).mono ?_;rintro e w' ⟨rfl,hw⟩;subst hw);go_ret;exact⟨rfl,rfl⟩
theorem aP.yes(h:aP f p mx one inf sg nan):true=decide (f=0\/f=1):=by
 rcases h with h|h<;>simp[h.1]
theorem iW(h:aP f p mx one inf sg nan)(v:Int)(v0:0<=v)(v1:v<2*sg)(w:World):
  QW 117 #[Y Z f,Y O v] w (.bool true):=by
 rcases h with⟨rfl,rfl,rfl,rfl,rfl,rfl,rfl⟩|⟨rfl,rfl,rfl,rfl,rfl,rfl,rfl⟩
 all_goals
  go_enter func117,ntmps117;go_wp2_with (go_at_call 81;refine(iq _ true de _).mono ?_;rintro e w' ⟨rfl,hw⟩;subst hw);go_ret;first
   |exact⟨rfl,rfl⟩
   |exact⟨congrArg (fun b=>Exit.returned (Value.bool b)) (decide_eq_true om),rfl⟩
   |(refine⟨?_,rfl⟩;simp;omega)
theorem rD(f v:Int)(v0:0<=v)(h:¬(f=0\/f=1)\/(f=0/\4294967296<=v))(w:World):
  QW 117 #[Y Z f,Y O v] w (.bool false):=by
 rcases h with h|⟨rfl,hv⟩
 ·have hf:false=decide (f=0\/f=1):=by simp;omega
  have HF:Hid _:=hf;clear hf h;go_enter func117,ntmps117;go_wp2_with (go_at_call 81;refine(iq _ false HF.out _).mono ?_;rintro e w' ⟨rfl,hw⟩;subst hw);go_ret;exact⟨rfl,rfl⟩
 ·go_enter func117,ntmps117;go_wp2_with (go_at_call 81;refine(iq _ true de _).mono ?_;rintro e w' ⟨rfl,hw⟩;subst hw);go_ret;first
   |exact⟨rfl,rfl⟩
   |(refine⟨?_,rfl⟩;simp;omega)
set_option maxRecDepth 1000000
set_option maxHeartbeats 40000000
theorem uD:Go.Lib.len8tab.size=256:=by decide+kernel
theorem aAY:∀j:Fin 256,(Go.Lib.len8tab[j.val]'(by rw[uD];exact j.isLt)).toNat =Go.Lib.bitLen j.val:=by decide+kernel
theorem aAX(i:Nat)(h:i<Go.Lib.len8tab.size):(Go.Lib.len8tab[i]'h).toNat =Go.Lib.bitLen i:=aAY ⟨i,by rw[<-uD];exact h⟩
theorem aEp(i:Nat)(h:i<256):Go.Lib.bitLen i<=8:=Go.Lib.bitLen_le i 8 om om
theorem pz(x:Int)(s i:Nat)(c:Int)(h0:0<=x)(h1:x<18446744073709551616)(hc:c=(s:Int))(hs:s<=56)(hi:i=x.toNat/2^s)(h:i<Go.Lib.len8tab.size)(hx:s=0\/2^s<=x.toNat):
  wrap64 (c+wrap64 (((Go.Lib.len8tab[i]'h).toNat :Nat):Int))=(Go.Lib.bitLen x.toNat:Int):=by
 rw[aAX];have hl:=aEp i (by rw[<-uD];exact h);have e:Go.Lib.bitLen x.toNat=s+Go.Lib.bitLen i:=by
  rcases hx with rfl|hx
  ·rw[hi];simp
  ·rw[hi];exact Go.Lib.bitLen_shift s x.toNat hx om
 rw[e];unfold wrap64;omega
theorem vZ(x:Int)(h0:0<=x)(h1:x<18446744073709551616)(w:World):
  CT 219 #[Y O x] w fun e w'=>e=.returned (Y Z (Go.Lib.bitLen x.toNat))/\w'=w:=by
 have hsz:=uD;go_enter func219,ntmps219;go_wp2;all_goals (go_ret;refine⟨bJ (congrArg (Value.int IntKind.i64) ?_),rfl⟩)
 all_goals first
  |exact pz x 56 _ 56 h0 h1 rfl om (by simp only[Nat.reducePow];omega) _ (.inr (by simp only[Nat.reducePow];omega))
  |exact pz x 48 _ 48 h0 h1 rfl om (by simp only[Nat.reducePow];omega) _ (.inr (by simp only[Nat.reducePow];omega))
  |exact pz x 40 _ 40 h0 h1 rfl om (by simp only[Nat.reducePow];omega) _ (.inr (by simp only[Nat.reducePow];omega))
  |exact pz x 32 _ 32 h0 h1 rfl om (by simp only[Nat.reducePow];omega) _ (.inr (by simp only[Nat.reducePow];omega))
  |exact pz x 24 _ 24 h0 h1 rfl om (by simp only[Nat.reducePow];omega) _ (.inr (by simp only[Nat.reducePow];omega))
  |exact pz x 16 _ 16 h0 h1 rfl om (by simp only[Nat.reducePow];omega) _ (.inr (by simp only[Nat.reducePow];omega))
  |exact pz x 8 _ 8 h0 h1 rfl om (by simp only[Nat.reducePow];omega) _ (.inr (by simp only[Nat.reducePow];omega))
  |(have e:=pz x 0 x.toNat 0 h0 h1 rfl om (by simp) (by rw[uD];omega) (.inl rfl);rw[Int.zero_add]at e;exact e)
theorem MR(x:Int)(h0:0<=x)(h1:x<18446744073709551616)(w:World):
  CT 237 #[Y O x] w fun e w'=>e=.returned (Y Z (64-(Go.Lib.bitLen x.toNat:Int)))/\w'=w:=by
 have hl:=Go.Lib.bitLen_le x.toNat 64 om om;go_enter func237,ntmps237;go_wp2_with (go_at_call 219;refine(vZ x h0 h1 _).mono ?_;rintro e w' ⟨rfl,rfl⟩);go_ret;exact⟨rfl,rfl⟩
def Kr(x y:Int):Int:=if x<y then 1 else 0
theorem aFx(x y:Int):Kr x y<=1:=by unfold Kr;split<;>omega
theorem aFy(x y:Int):0<=Kr x y:=by unfold Kr;split<;>omega
theorem aDV(x y b:Int)(hx:0<=x)(hy:0<=y)(hy':y<18446744073709551616)(hb0:0<=b)(hb:b<=1)(w:World):(callFunc 244 #[Y O x,Y O y,Y O b]).run Tryz.prog w=
  .ok (.value (.tuple #[Y O ((x-y-b)%18446744073709551616),Y O (Kr x (y+b))])) w:=by
 obtain⟨x,rfl⟩:=Int.eq_ofNat_of_zero_le hx;obtain⟨y,rfl⟩:=Int.eq_ofNat_of_zero_le hy;obtain⟨b,rfl⟩:=Int.eq_ofNat_of_zero_le hb0;rw[run_callFunc_extern func244 (by kernel_rfl) (by kernel_rfl) (by kernel_rfl) (e:=sub64Entry) (by kernel_rfl),run_sub64 x y b (by omega)];have e1:(((x+18446744073709551616-y-b)%18446744073709551616:Nat):Int)=((x:Int)-y-b)%18446744073709551616:=om;have e2:((if x<y+b then 1 else 0:Nat):Int)=Kr x (y+b):=by unfold Kr;split<;>split<;>omega
 rw[<-e1,<-e2];rfl
theorem aA3(x y:Int)(hx:0<=x)(hy:0<=y)(hy':y<18446744073709551616)(w:World):(callFunc 244 #[Y O x,Y O y,Y O 0]).run Tryz.prog w=
  .ok (.value (.tuple #[Y O ((x-y)%18446744073709551616),Y O (Kr x y)])) w:=by
 simpa using aDV x y 0 hx hy hy' (Int.le_refl 0) de w
theorem Vt(a0 a1 b0 b1:Int)(ha0:0<=a0)(ha1:0<=a1)(hb0:0<=b0)(hb1:0<=b1)(gb0:b0<18446744073709551616)(gb1:b1<18446744073709551616)(w:World):
  CT 242 #[aG a0 a1,aG b0 b1] w fun e w'=>
   e=.returned (.tuple #[aG ((a0-b0)%18446744073709551616) ((a1-b1-Kr a0 b0)%18446744073709551616),
    .bool (Kr a1 (b1+Kr a0 b0) != 0)])/\∃c1 c2 c3 c4:Array Value,w'=((((w.alloc (.cells c1 226)).alloc (.cells c2 226)).alloc (.cells c3 226)).alloc (.cells c4 226)).drew.drew :=by
 have k0:=aFy a0 b0;have k1:=aFx a0 b0;go_enter func242,ntmps242;go_wp2;refine wp_loop_rounds 3 ?_;rw[rounds_succ];go_wp2;go_region_with (simp only[aA3 a0 b0 ha0 hb0 gb0]);all_goals (go_wp2;rw[rounds_succ];go_wp2;go_region_with (simp only[aDV a1 b1 _ ha1 hb1 gb1 k0 k1]))
 all_goals (go_wp2;rw[rounds_succ];go_wp2;go_returns;exact⟨rfl,_,_,_,_,rfl⟩)
def lt2(a1 a0 b1 b0:Int):Bool:=Kr a1 (b1+Kr a0 b0) != 0
theorem aBG(a1 a0 b1 b0:Int)(ha0:0<=a0)(hb0:0<=b0)(CW:a0<18446744073709551616)(gb0:b0<18446744073709551616):lt2 a1 a0 b1 b0=decide (a1*18446744073709551616+a0<b1*18446744073709551616+b0):=by
 unfold lt2 Kr;rw[Bool.eq_iff_iff];simp only[bne_iff_ne,ne_eq,decide_eq_true_eq];split<;>split<;>omega
theorem ZY(N j k:Nat)(h:j<k):dg (N%4294967296^k) j=dg N j:=by
 obtain⟨i,rfl⟩:∃i,k=j+(i+1):=⟨k-j-1,om⟩;unfold dg;rw[Nat.pow_add,Nat.mod_mul_right_div_self,Nat.pow_succ];exact Nat.mod_mod_of_dvd _ (Nat.dvd_mul_left _ _)
theorem Z4(N j k:Nat):dg (N/4294967296^k) j=dg N (k+j):=by
 unfold dg;rw[Nat.div_div_eq_div_mul,<-Nat.pow_add]
def put(V k d:Nat):Nat:=V/4294967296^(k+1)*4294967296^(k+1)+d*4294967296^k+V%4294967296^k
theorem parts(V k:Nat):V=V/4294967296^(k+1)*4294967296^(k+1)+dg V k*4294967296^k+V%4294967296^k:=by
 have h1:=Nat.div_add_mod V (4294967296^(k+1));have h2:V%4294967296^(k+1)=V%4294967296^k+4294967296^k*dg V k:=by rw[Nat.pow_succ,Nat.mod_mul];rfl
 rw[Nat.mul_comm (4294967296^k)]at h2;rw[Nat.mul_comm]at h1;omega
theorem EC(V k d:Nat):put V k d+dg V k*4294967296^k=V+d*4294967296^k:=by
 have:=parts V k;unfold put;omega
theorem YF(V k d:Nat)(hd:d<4294967296):put V k d/4294967296^(k+1)=V/4294967296^(k+1)/\put V k d%4294967296^k=V%4294967296^k/\put V k d/4294967296^k%4294967296=d:=by
 have hp:=f_ k;have hp1:=f_ (k+1);have hlo:=Nat.mod_lt V hp;have hlt:d*4294967296^k+V%4294967296^k<4294967296^(k+1):=by
  have:=Nat.mul_le_mul_right (4294967296^k) (show d+1<=4294967296 by omega);rw[Nat.add_mul]at this;rw[Nat.pow_succ,Nat.mul_comm (4294967296^k)];omega
 have e1:put V k d=(d*4294967296^k+V%4294967296^k)+4294967296^(k+1)*(V/4294967296^(k+1)):=by unfold put;rw[Nat.mul_comm (4294967296^(k+1))];omega
 have e2:put V k d=V%4294967296^k+4294967296^k*(V/4294967296^(k+1)*4294967296+d):=by
  unfold put;rw[Nat.mul_add,Nat.pow_succ];have:V/(4294967296^k*4294967296)*(4294967296^k*4294967296)=4294967296^k*(V/(4294967296^k*4294967296)*4294967296):=by
   simp only[Nat.mul_assoc,Nat.mul_left_comm,Nat.mul_comm]
  rw[this,Nat.mul_comm d];omega
 refine⟨?_,?_,?_⟩
 ·rw[e1,Nat.add_mul_div_left _ _ hp1,Nat.div_eq_of_lt hlt,Nat.zero_add]
 ·rw[e2,Nat.add_mul_mod_self_left,Nat.mod_mod]
 ·rw[e2,Nat.add_mul_div_left _ _ hp,Nat.div_eq_of_lt hlo,Nat.zero_add];omega
theorem aFs(V k d j:Nat)(hd:d<4294967296):dg (put V k d) j=if j=k then d else dg V j:=by
 obtain⟨a1,a2,a3⟩:=YF V k d hd;split
 ·rename_i e;subst e;exact a3
 ·rename_i e
  rcases Nat.lt_or_ge j k with c|c
  ·rw[<-ZY (put V k d) j k c,a2,ZY V j k c]
  ·obtain⟨i,rfl⟩:∃i,j=k+1+i:=⟨j-(k+1),om⟩;rw[<-Z4 (put V k d) i (k+1),a1,Z4]
theorem aAK(n V k d:Nat)(hk:k<n)(hd:d<4294967296):(KE n V).set k (Value.int .u32 (d:Int))=KE n (put V k d):=by
 apply List.ext_getElem?;intro j;by_cases hj:j<n
 ·rw[yI n (put V k d) j hj,aFs V k d j hd];by_cases e:j=k
  ·subst e;rw[List.getElem?_set_self (by rw[sD];exact hj),if_pos rfl]
  ·rw[List.getElem?_set_ne om,yI n V j hj,if_neg e]
 ·have h1:(KE n (put V k d))[j]?=none:=by rw[List.getElem?_eq_none_iff,sD];omega
  have h2:((KE n V).set k (Value.int .u32 (d:Int)))[j]?=none:=by rw[List.getElem?_eq_none_iff,List.length_set,sD];omega
  rw[h1,h2]
theorem aEX(V k d n:Nat)(hk:k<n)(hV:V<4294967296^n)(hd:d<4294967296):put V k d<4294967296^n:=by
 obtain⟨i,rfl⟩:∃i,n=k+1+i:=⟨n-(k+1),om⟩;obtain⟨a1,_,_⟩:=YF V k d hd;have h1:V/4294967296^(k+1)<4294967296^i:=by
  rw[Nat.div_lt_iff_lt_mul (f_ _),Nat.mul_comm,<-Nat.pow_add];exact hV
 rw[<-a1,Nat.div_lt_iff_lt_mul (f_ _),Nat.mul_comm,<-Nat.pow_add]at h1;exact h1
def Iq(A Bv m i j V c:Nat):Prop:=
 V+c*4294967296^(i+j)=A%4294967296^i*Bv+dg A i*(Bv%4294967296^j)*4294967296^i/\V<4294967296^(i+m)/\c<4294967296
theorem Qv(A Bv m i:Nat)(hB:Bv<4294967296^m):Iq A Bv m i 0 (A%4294967296^i*Bv) 0:=by
 refine⟨by simp[Nat.mod_one],?_,de⟩;rw[Nat.pow_add];rcases Nat.eq_zero_or_pos Bv with rfl|hp
 ·rw[Nat.mul_zero];exact Nat.mul_pos (f_ _) (f_ _)
 ·exact Nat.mul_lt_mul_of_lt_of_le (Nat.mod_lt _ (f_ _)) (Nat.le_of_lt hB) (f_ _)
theorem G_(a b v c:Nat)(ha:a<4294967296)(hb:b<4294967296)(hv:v<4294967296)(hc:c<4294967296):a*b+v+c<18446744073709551616:=by
 have:=Nat.mul_le_mul (show a<=4294967295 by omega) (show b<=4294967295 by omega);omega
theorem Qw(h:Iq A Bv m i j V c)(hj:j<m):
  Iq A Bv m i (j+1) (put V (i+j) ((dg A i*dg Bv j+dg V (i+j)+c)%4294967296)) ((dg A i*dg Bv j+dg V (i+j)+c)/4294967296):=by
 obtain⟨h1,h2,h3⟩:=h;have hs:=G_ _ _ _ _ (jf A i) (jf Bv j) (jf V (i+j)) h3;refine⟨?_,aEX V (i+j) _ (i+m) om h2 (Nat.mod_lt _ de),om⟩;have hp:=EC V (i+j) ((dg A i*dg Bv j+dg V (i+j)+c)%4294967296);have hx:=Nat.div_add_mod (dg A i*dg Bv j+dg V (i+j)+c) 4294967296;have hb:Bv%4294967296^(j+1)=Bv%4294967296^j+4294967296^j*dg Bv j:=by rw[Nat.pow_succ,Nat.mod_mul];rfl
 rw[hb];generalize(dg A i*dg Bv j+dg V (i+j)+c)%4294967296=r at*
 generalize(dg A i*dg Bv j+dg V (i+j)+c)/4294967296=q at*
 generalize put V (i+j) r=V' at*
 have e1:q*4294967296^(i+(j+1))=4294967296*q*4294967296^(i+j):=by
  rw[<-Nat.add_assoc,Nat.pow_succ];simp only[Nat.mul_assoc,Nat.mul_left_comm,Nat.mul_comm]
 have e2:dg A i*(Bv%4294967296^j+4294967296^j*dg Bv j)*4294967296^i=dg A i*(Bv%4294967296^j)*4294967296^i+dg A i*dg Bv j*4294967296^(i+j):=by
  rw[Nat.mul_add,Nat.add_mul,Nat.pow_add]
  congr 1
  simp only[Nat.mul_assoc,Nat.mul_left_comm,Nat.mul_comm]
 have e3:(4294967296*q+r)*4294967296^(i+j)=(dg A i*dg Bv j+dg V (i+j)+c)*4294967296^(i+j):=by rw[hx]
 rw[e1,e2];simp only[Nat.add_mul]at e3;omega
theorem Vr(h:Iq A Bv m i m V c)(hB:Bv<4294967296^m):put V (i+m) c=A%4294967296^(i+1)*Bv:=by
 obtain⟨h1,h2,h3⟩:=h;have hp:=EC V (i+m) c;have hz:dg V (i+m)=0:=l7 h2 (Nat.le_refl _);have hb:A%4294967296^(i+1)=A%4294967296^i+4294967296^i*dg A i:=by rw[Nat.pow_succ,Nat.mod_mul];rfl
 rw[hz,Nat.zero_mul,Nat.add_zero]at hp;rw[Nat.mod_eq_of_lt hB]at h1;rw[hp,h1,hb,Nat.add_mul]
 congr 1
 simp only[Nat.mul_assoc,Nat.mul_left_comm,Nat.mul_comm]
structure Calm (B:Nat) (I:World->Prop):Prop where
 put:∀W l o o',I W->B<=l->W.heap[l]?=U o->o.isCells=false->o'.isCells=false->I (W.putObj l o')
 new:∀W o,I W->o.isCells=false->I (W.alloc o)
 cells:∀W c t,I W->I (W.alloc (.cells c t))
 drew:∀W,I W->I W.drew
theorem Calm.mono{I:World->Prop}(h:Calm B I)(hb:B<=B'):Calm B' I:=⟨fun W l o o' a b=>h.put W l o o' a (Nat.le_trans hb b),h.new,h.cells,h.drew⟩
theorem Calm.and{I J:World->Prop}(h:Calm B I)(k:Calm B J):Calm B (fun W=>I W/\J W):=
 ⟨fun W l o o' a b c d e=>⟨h.put W l o o' a.1 b c d e,k.put W l o o' a.2 b c d e⟩,fun W o a b=>⟨h.new W o a.1 b,k.new W o a.2 b⟩,fun W c t a=>⟨h.cells W c t a.1,k.cells W c t a.2⟩,fun W a=>⟨h.drew W a.1,k.drew W a.2⟩⟩
theorem Gr.aFI(h:Gr W w)(o:Obj)(ho:o.isCells=false):Gr W (w.alloc o):=by
 refine⟨⟨World.keptBut_trans h.grown.1 (World.keptBut_alloc _ _ _),fun a=>?_,Nat.le_trans h.grown.2.2 (by simp)⟩,h.below.alloc h.below.size o⟩;rw[<-h.grown.2.1 a];by_cases e:a.block=w.heap.size
 ·have e1:(w.alloc o).heap[a.block]?=U o:=by rw[e];exact(MapKept.heap_alloc w _).1
  have e2:w.heap[a.block]?=none:=by rw[e];simp
  unfold World.frozen?;rw[e1,e2];cases o<;>first|rfl|(simp[Obj.isCells]at ho)
 ·exact World.frozen?_alloc_old _ _ _ e
theorem FD(B l:Nat)(o:Obj)(hl:l<B):Calm B (fun W=>W.heap[l]?=U o):=
  ⟨fun W k o1 o2 h hk hb _ _=>(World.putObj_heap_other om).trans h,
   fun W o1 h _=>(Below.heap_alloc W o1 l (Array.getElem?_eq_some_iff.1 h).1).trans h,
   fun W c t h=>(Below.heap_alloc W _ l (Array.getElem?_eq_some_iff.1 h).1).trans h,
   fun W h=>h⟩
theorem vG{p:Addr}(o:Obj)(h:W.cell? p=U v):(W.alloc o).cell? p=U v:=by
 obtain⟨q,hq,hc⟩:=cells_of_cell h;unfold World.cell? at h⊢
 rw[Below.heap_alloc W o _ (Array.getElem?_eq_some_iff.1 hq).1];exact h
theorem rU(B:Nat)(p:Addr)(v:Value):Calm B (fun W=>W.cell? p=U v):=
  ⟨fun W l o o' h _ hl ho _=>by
      have:=cells_of_cell h;obtain⟨q,hq,hc⟩:=this;have hne:p.block≠l:=by intro e;rw[e,hl]at hq;cases hq;rw[ho]at hc;cases hc
      unfold World.cell? at h⊢
      rw[World.putObj_heap_other (by omega)];exact h,
   fun W o h _=>vG o h,fun W c t h=>vG _ h,fun W h=>h⟩
def Hands(F:Fence)(n:Nat)(P:Program)(g:Nat)(lb:Array Value)(n₀ N:Nat)(encs:Nat->Array Value)(w:World):Prop:=
 ∀(l:Nat) (J:Nat->World->Prop) (Jx:World->Prop) (W:World),Below n₀ w W->(∀i,Calm W.heap.size (J i))->
  (∀i W1,i<N->J i W1->YieldAt F (n-1) P l (encs i) W1 fun e W'=>(i+1<N/\e=.returned (.bool true)/\J (i+1) W'/\Below n₀ W1 W')\/(i+1=N/\e=.returned (.bool false)/\Jx W'))->
  J 0 W->CallsIn F n P g (#[.func (.yield l) #[] #[]]++lb) W fun e W'=>(∃v,e=.returned v)/\Jx W'
def aEk(n₀ N id:Nat)(I:Nat->World->Prop)(Ix:World->Prop)(i:Nat)(W:World):Exit->Act->World->Prop
 | .normal,_,W'=>i+1<N/\KeepsOthers W W'/\Below n₀ W W'/\I (i+1) W'
 | .exit d,_,W'=>i+1=N/\d=id/\KeepsOthers W W'/\Ix W'
 | .ret,_,_=>False
 | .goto _,_,_=>False
 | .panic _,_,_=>False
 | .outgrown,_,_=>False
theorem Cj{F:Fence}{P:Program}{g:Operand}{ps:Array Tmp}{assign body:Code}
  (hro:F.round=none) (h1:1<=n)   (hg:a.eval g=.func (.func gf) #[] lb) (hFg:F.fn gf) (eg:∀args w,(callFunc gf args).run P w=.ok (.enter gf args) w)
   {encs:Nat->Array Value}  (hseq:Hands F (n-1) P gf lb n₀ N encs w0) (hn₀:n₀<=w.heap.size) (hb0:Below n₀ w0 w) (hps:∀i,(encs i).size =ps.size)
  (id:Nat) (I:Nat->World->Prop) (Ix:World->Prop) (hI:∀i,Calm w.heap.size (I i)) (hIx:Calm w.heap.size Ix) (h0:I 0 w) (a₁:Nat->Act)
  (hassign:∀(l i:Nat) (W:World) (K:Act->World->Prop),K (a₁ i) W->
   assign.wpIn (F.inRound l) (n-1-1) P (Exit.then K (fun _ _ _=>False)) {tmps:=(ps.zip (encs i)).foldl (fun t (p,v)=>t.setIfInBounds p v) a.tmps,defers:=[]} W)
  (hbody:∀(l i:Nat) (W:World),i<N->I i W->body.wpIn (F.inRound l) (n-1-1) P (aEk n₀ N id I Ix i W) (a₁ i) W)
  (hstop:∀(D:Nat) (W:World),w.heap.size<=D->Ix W->W.heap[D]?=U (.deferred (U []))->(Code.exit id).wpIn F n P Q {a with defers:={target:=.collected D,args:=#[]}::a.defers} W):
  (Code.rangeFunc g ps assign body).wpIn F n P Q a w:=by
 refine wpIn_rangeFunc (fun fn hfn=>?_);rw[hro];obtain⟨rc,hrc⟩:∃rc:LoopState->Option Code->Loop,rc=fun st pe=>{state:=st,pending:=pe,fn,tmps:=a.tmps,params:=ps,assign,body,defers:=w.heap.size}:=⟨_,rfl⟩;obtain⟨w1,hw1⟩:∃w1,w1=(w.alloc (.deferred (U []))).alloc (.loop (rc .ready none)):=⟨_,rfl⟩;have hs1:w1.heap.size=w.heap.size+1+1:=by rw[hw1];simp
 have hL:w1.heap[w.heap.size+1]?=U (.loop (rc .ready none)):=by
  rw[hw1];have:=World.alloc_heap_new (w.alloc (.deferred (U []))) (.loop (rc .ready none));rwa [World.size_alloc]at this
 have hD:w1.heap[w.heap.size]?=U (.deferred (U [])):=by rw[hw1];exact(Below.heap_alloc _ _ _ (by simp)).trans (World.alloc_heap_new w _)
 have hI1:I 0 w1:=by rw[hw1];exact(hI 0).new _ _ ((hI 0).new _ _ h0 rfl) rfl
 have hB1:Below n₀ w0 w1:=by
  rw[hw1];exact hb0.trans (((Below.refl n₀ w).alloc hn₀ _).alloc (by simp;omega) _)
 refine⟨w.heap.size+1,[{target:=.collected w.heap.size,args:=#[]}],w1,{target:=.fn (.func gf) lb,args:=#[.func (.yield (w.heap.size+1)) #[] #[]]},w1,gf,
  #[.func (.yield (w.heap.size+1)) #[] #[]]++lb,w1,?_,?_,?_,?_,fun _=>h1,?_⟩
 ·rw[hw1,hrc];exact run_enterLoop_outer _ _ _ _ _
 ·simp only[resolve,hg];simp[go_sem]
 ·intro f' hf';simp[Target.leads]at hf';subst hf';exact hFg
 ·simp[invoke,go_sem,eg]
 refine(hseq (w.heap.size+1) (fun i W=>I i W/\W.heap[w.heap.size+1]?=U (.loop (rc .ready none))/\W.heap[w.heap.size]?=U (.deferred (U [])))
  (fun W=>Ix W/\W.heap[w.heap.size+1]?=U (.loop (rc .done (U (.exit id))))/\W.heap[w.heap.size]?=U (.deferred (U []))) w1 hB1
  (fun i=>((hI i).mono om).and ((FD _ _ _ om).and (FD _ _ _ om))) ?_ ⟨hI1,hL,hD⟩).mono ?_
 ·rintro i W hi ⟨hIi,hl,hd⟩;have hy:=run_yield (P:=P) (args:=encs i) hl (by rw[hrc];exact hps i);rw[hrc]at hy;refine⟨fn,_,assign,body,hy,roundIn_of_wpIn hfn (hassign _ i W _ ⟨_,run_beginRound hl (by rw[hrc]),?_⟩)⟩;obtain⟨V,hV⟩:∃V,V=W.putObj (w.heap.size+1) (.loop {rc .ready none with state:=.busy}):=⟨_,rfl⟩;have hlt:=(Array.getElem?_eq_some_iff.1 hl).1;have hl2:V.heap[w.heap.size+1]?=U (.loop {rc .ready none with state:=.busy}):=by rw[hV];exact World.putObj_heap_same hlt
  have hd2:V.heap[w.heap.size]?=U (.deferred (U [])):=by rw[hV];exact(World.putObj_heap_other om).trans hd
  have hBV:Below n₀ W V:=by rw[hV];exact belowK_b hn₀ _ _ _ _ om hl rfl rfl
  have hIV:I i V:=by rw[hV];exact(hI i).put _ _ _ _ hIi om hl rfl rfl
  rw[<-hV];refine wpIn_mono (hbody _ i V hi hIV) ?_;have fin:∀(j:Option Code) (X:World),KeepsOthers V X->X.heap[w.heap.size+1]?=U (.loop {rc .ready none with state:=.busy})/\
    (Instr.endRound (w.heap.size+1) j).run P X=.ok (.bool j.isNone) (X.putObj (w.heap.size+1) (.loop (rc (if j.isNone then .ready else .done) j)))/\
    (X.putObj (w.heap.size+1) (.loop (rc (if j.isNone then .ready else .done) j))).heap[w.heap.size+1]?=U (.loop (rc (if j.isNone then .ready else .done) j))/\
    (X.putObj (w.heap.size+1) (.loop (rc (if j.isNone then .ready else .done) j))).heap[w.heap.size]?=U (.deferred (U [])):=fun j X hk=>by
   have hl3:=hk.same _ _ hl2 rfl;have he:=run_endRound (P:=P) j hl3;have hd3:=hk.same _ _ hd2 rfl;refine⟨hl3,?_,World.putObj_heap_same (Array.getElem?_eq_some_iff.1 hl3).1,(World.putObj_heap_other om).trans hd3⟩;rw[hrc]at he⊢
   exact he
  intro e a3 X hp;cases e with
  |normal=>
   obtain⟨hlt2,hk,hb,hi2⟩:=hp;obtain⟨hl3,hr,hl4,hd4⟩:=fin none X hk;exact⟨_,_,hr,.inl ⟨hlt2,rfl,⟨(hI _).put _ _ _ _ hi2 om hl3 rfl rfl,hl4,hd4⟩,(hBV.trans hb).trans (belowK_b hn₀ _ _ _ _ om hl3 rfl rfl)⟩⟩
  |exit d=>
   obtain⟨he,rfl,hk,hx⟩:=hp;obtain⟨hl3,hr,hl4,hd4⟩:=fin (U (.exit d)) X hk;exact⟨_,_,hr,.inr ⟨he,rfl,hIx.put _ _ _ _ hx om hl3 rfl rfl,hl4,hd4⟩⟩
  |ret=>exact hp.elim
  |goto t=>exact hp.elim
  |panic ch=>exact hp.elim
  |outgrown=>exact hp.elim
 ·rintro e X ⟨⟨v,rfl⟩,hx,hl,hd⟩;have he:=run_endLoop (P:=P) hl (by rw[hrc];simp);rw[show(rc LoopState.done (U (Code.exit id))).pending =U (Code.exit id) by rw[hrc]]at he;exact⟨U (.exit id),_,he,hstop _ _ (Nat.le_refl _) (hIx.put _ _ _ _ hx om hl rfl rfl) ((World.putObj_heap_other om).trans hd)⟩
