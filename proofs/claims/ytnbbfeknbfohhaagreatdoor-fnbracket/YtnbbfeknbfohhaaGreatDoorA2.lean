import Derived.Test.YtnbbfeknbfohhaaGreatDoorA1
import Derived.Test.YtnbbfeknbfohhaaGreatDoorRows
import Derived.WalkSpells
import Derived.WalkKit
import Derived.Laws.StructEq
import Derived.Lib.BitFns
import Derived.Lib.Walk
import Derived.Lib.Small
import Derived.Lib.Strings
import Derived.Lib.Slices
import Derived.Laws.Bits64b
import Derived.Laws.BitsAllLaws
import Derived.WalkLawsBesides
import Derived.Deep.DeepCutAuto
import Derived.Deep.RegionHeld3
set_option linter.unusedVariables false
set_option linter.unusedSimpArgs false
open Go.Value renaming int → J, agg → Z
open Go.IntKind renaming u64 → Y
open Go.Proofs.Tryz
namespace Go.Proofs.YtnbbfeknbfohhaaGreatDoor
open Go.RowKit
theorem uo(a0 a1:Int)(w:World):
  CT 213 #[Z #[J Y a0,J Y a1]] w fun e w'=>e=.returned (Z #[J Y a1,J Y a0])∧∃c1 c2:Array Value,w'=(w.alloc (.cells c1 228)).alloc (.cells c2 120):=by
 go_enter func213,ntmps213
 go_wp2
 go_returns
 exact⟨rfl,_,_,rfl⟩
theorem lK(a0 a1:Int)(w:World):
  CT 211 #[Z #[J Y a1,J Y a0]] w fun e w'=>e=.returned (Z #[J Y a0,J Y a1])∧∃c1 c2:Array Value,w'=(w.alloc (.cells c1 120)).alloc (.cells c2 228):=by
 go_enter func211,ntmps211
 go_wp2
 go_returns
 exact⟨rfl,_,_,rfl⟩
theorem MS(a0 a1:Int)(w:World):
  QR 213 #[Z #[J Y a0,J Y a1]] w (Z #[J Y a1,J Y a0]):=by
 refine(uo a0 a1 w).mono ?_
 rintro e w' ⟨rfl,c1,c2,rfl⟩
 exact⟨rfl,kr⟩
theorem Yp(a b c d:Int)(w:World):(Op.equalIn 10000 228 (Z #[J Y a,J Y b]) (Z #[J Y c,J Y d])).run Tryz.prog w=.ok (a==c&&b==d) w:=by
 have u3:=Tryz.underlying22
 have a3:=Tryz.isAgg22
 have z3:=Tryz.sizeOf22
 rw[show(10000:Nat)=9999+1 from rfl,Op.equalIn]
 simp only[Sem.run_bind,run_underlying Tryz.underlying228,Result.andThen_ok]
 simp only[Std.Legacy.Range.forIn_eq_forIn_range',Std.Legacy.Range.size,Nat.sub_zero,Nat.add_sub_cancel,Nat.div_one,List.range'_succ,List.range'_zero,List.forIn_cons,List.forIn_nil]
 go_simp
 by_cases h1:a=c<;>by_cases h2:b=d<;>simp[h1,h2]
theorem jP(a b c d:Int)(w:World):(Op.equalIn 10000 120 (Z #[J Y a,J Y b]) (Z #[J Y c,J Y d])).run Tryz.prog w=.ok (a==c&&b==d) w:=by
 have u3:=Tryz.underlying22
 have a3:=Tryz.isAgg22
 have z3:=Tryz.sizeOf22
 have hS:Tryz.prog.underlying 120=some (.struct (Tryz.prog.fieldsOf 120)):=by kernel_rfl
 rw[show(10000:Nat)=9999+1 from rfl,run_equalIn_agg w 9999 120 _ _ hS (by kernel_rfl)]
 simp only[Program.fieldsOf,Tryz.underlying120]
 go_simp
 by_cases h1:a=c<;>by_cases h2:b=d<;>simp[h1,h2]
def bnd(n:Int):Int:=if n<0 then 0 else if 128<n then 128 else n
open Go.RowKit
set_option maxRecDepth 1000000
set_option maxHeartbeats 40000000
theorem qF:Go.Lib.len8tab.size=256:=by decide+kernel
theorem W9:∀j:Fin 256,(Go.Lib.len8tab[j.val]'(by rw[qF];exact j.isLt)).toNat =Go.Lib.bitLen j.val:=by decide+kernel
theorem WZ(i:Nat)(h:i<Go.Lib.len8tab.size):(Go.Lib.len8tab[i]'h).toNat =Go.Lib.bitLen i:=W9 ⟨i,by rw[←qF];exact h⟩
theorem aAj(i:Nat)(h:i<256):Go.Lib.bitLen i≤8:=Go.Lib.bitLen_le i 8 om om
theorem nU(x:Int)(s i:Nat)(c:Int)(h0:0≤x)(h1:x<18446744073709551616)(hc:c=(s:Int))(hs:s≤56)(hi:i=x.toNat/2^s)(h:i<Go.Lib.len8tab.size)(hx:s=0∨2^s≤x.toNat):
  wrap64 (c+wrap64 (((Go.Lib.len8tab[i]'h).toNat :Nat):Int))=(Go.Lib.bitLen x.toNat:Int):=by
 rw[WZ]
 have hl:=aAj i (by rw[←qF];exact h)
 have e:Go.Lib.bitLen x.toNat=s+Go.Lib.bitLen i:=by
  rcases hx with rfl|hx
  ·rw[hi];simp
  ·rw[hi];exact Go.Lib.bitLen_shift s x.toNat hx om
 rw[e]
 unfold wrap64
 omega
theorem rM(x:Int)(h0:0≤x)(h1:x<18446744073709551616)(w:World):
  CT 234 #[J Y x] w fun e w'=>e=.returned (J .i64 (Go.Lib.bitLen x.toNat))∧w'=w:=by
 have hsz:=qF
 go_enter func234,ntmps234
 go_wp2
 all_goals (go_ret;refine⟨aU (congrArg (Value.int IntKind.i64) ?_),rfl⟩)
 all_goals first
  |exact nU x 56 _ 56 h0 h1 rfl om (by simp only[Nat.reducePow];omega) _ (.inr (by simp only[Nat.reducePow];omega))
  |exact nU x 48 _ 48 h0 h1 rfl om (by simp only[Nat.reducePow];omega) _ (.inr (by simp only[Nat.reducePow];omega))
  |exact nU x 40 _ 40 h0 h1 rfl om (by simp only[Nat.reducePow];omega) _ (.inr (by simp only[Nat.reducePow];omega))
  |exact nU x 32 _ 32 h0 h1 rfl om (by simp only[Nat.reducePow];omega) _ (.inr (by simp only[Nat.reducePow];omega))
  |exact nU x 24 _ 24 h0 h1 rfl om (by simp only[Nat.reducePow];omega) _ (.inr (by simp only[Nat.reducePow];omega))
  |exact nU x 16 _ 16 h0 h1 rfl om (by simp only[Nat.reducePow];omega) _ (.inr (by simp only[Nat.reducePow];omega))
  |exact nU x 8 _ 8 h0 h1 rfl om (by simp only[Nat.reducePow];omega) _ (.inr (by simp only[Nat.reducePow];omega))
  |(have e:=nU x 0 x.toNat 0 h0 h1 rfl om (by simp) (by rw[qF];omega) (.inl rfl);rw[Int.zero_add]at e;exact e)
theorem F8(x:Int)(h0:0≤x)(h1:x<18446744073709551616)(w:World):
  CT 249 #[J Y x] w fun e w'=>e=.returned (J .i64 (64-(Go.Lib.bitLen x.toNat:Int)))∧w'=w:=by
 have hl:=Go.Lib.bitLen_le x.toNat 64 om om
 go_enter func249,ntmps249
 go_wp2_with (go_at_call 234;refine(rM x h0 h1 _).mono ?_;rintro e w' ⟨rfl,rfl⟩)
 go_ret
 exact⟨rfl,rfl⟩
def zer(h l:Int):Int:=if h=0 then 128-(Go.Lib.bitLen l.toNat:Int)else 64-(Go.Lib.bitLen h.toNat:Int)
theorem Oq(a0 a1:Int)(ha0:0≤a0)(ha1:0≤a1)(xZ:a0<18446744073709551616)(Ac:a1<18446744073709551616)(w:World):
  QR 244 #[Z #[J Y a0,J Y a1]] w (J .i64 (zer a1 a0)):=by
 have hl0:=Go.Lib.bitLen_le a0.toNat 64 om om
 have hl1:=Go.Lib.bitLen_le a1.toNat 64 om om
 by_cases z1:a1=0
 ·subst z1
  by_cases z0:a0=0
  ·subst z0
   go_enter func244,ntmps244
   go_wp2
   refine wp_loop_rounds 3 ?_
   rw[rounds_succ];go_wp2
   rw[rounds_succ];go_wp2
   rw[rounds_succ];go_wp2
   go_returns
   exact⟨aU (congrArg (Value.int IntKind.i64) (by decide+kernel)),⟨by go_grown,by go_grown⟩⟩
  ·have e0:(a0==0)=false:=by simp[z0]
   clear z0
   go_enter func244,ntmps244
   go_wp2
   refine wp_loop_rounds 3 ?_
   rw[rounds_succ];go_wp2
   rw[rounds_succ]
   go_wp2_with (go_at_call 249;refine(F8 _ ha0 xZ _).mono ?_;rintro e w' ⟨rfl,rfl⟩)
   go_returns
   exact⟨aU (congrArg (Value.int IntKind.i64) (by unfold zer;rw[if_pos rfl];omega)),⟨by go_grown,by go_grown⟩⟩
 ·have e1:(a1==0)=false:=by simp[z1]
  have Z1:Hid _:=z1
  clear z1
  go_enter func244,ntmps244
  go_wp2
  refine wp_loop_rounds 3 ?_
  rw[rounds_succ]
  go_wp2_with (go_at_call 249;refine(F8 _ ha1 Ac _).mono ?_;rintro e w' ⟨rfl,rfl⟩)
  go_returns
  exact⟨aU (congrArg (Value.int IntKind.i64) (by unfold zer;rw[if_neg Z1.out];try omega)),⟨by go_grown,by go_grown⟩⟩
def bl(X:Int):Int:=if X/18446744073709551616=0 then(Go.Lib.bitLen (X%18446744073709551616).toNat :Int)else 64+(Go.Lib.bitLen (X/18446744073709551616).toNat :Int)
theorem aBs(h l:Int)(h0:0≤h)(l0:0≤l)(h1:h<18446744073709551616)(l1:l<18446744073709551616):zer h l=128-bl (h*18446744073709551616+l):=by
 have e1:(h*18446744073709551616+l)/18446744073709551616=h:=om
 have e2:(h*18446744073709551616+l)%18446744073709551616=l:=om
 unfold zer bl
 rw[e1,e2]
 split<;>omega
theorem BH(h l:Int)(h0:0≤h)(l0:0≤l)(h1:h<18446744073709551616)(l1:l<18446744073709551616)(w:World):
  QR 224 #[Z #[J Y h,J Y l]] w (J .i64 (zer h l)):=by
 go_enter func224,ntmps224
 go_wp2_with (first
  |(go_at_call 211;refine(lK _ _ _).mono ?_;rintro e w1 ⟨rfl,c1,c2,rfl⟩)
  |(go_at_call 244;refine(Oq l h l0 h0 l1 h1 _).mono ?_;rintro e w2 ⟨rfl,ak⟩))
 go_returns
 exact⟨rfl,kr⟩
def kN(h l:Int)(k:Nat):Int:=(h*18446744073709551616+l)*2^k%340282366920938463463374607431768211456/18446744073709551616
def kM(h l:Int)(k:Nat):Int:=(h*18446744073709551616+l)*2^k%340282366920938463463374607431768211456%18446744073709551616
def jd(h l:Int)(k:Nat):Int:=(h*18446744073709551616+l)/2^k/18446744073709551616
def jc(h l:Int)(k:Nat):Int:=(h*18446744073709551616+l)/2^k%18446744073709551616
def uM(h l:Int)(k:Nat):Bool:=decide (¬(h*18446744073709551616+l)%2^k=0)
namespace Sh
theorem split(k:Nat)(h:k≤64):2^k*2^(64-k)=18446744073709551616:=by
 rw[←Nat.pow_add,show k+(64-k)=64 by omega]
theorem pos(k:Nat):0<2^k:=Nat.pow_pos de
theorem Uu(A0 A1 P Q:Nat)(hPQ:P*Q=18446744073709551616)(hP:0<P)(h0:A0<18446744073709551616):
  A1*P%18446744073709551616=P*(A1%Q)∧A0/Q<P∧A1*P%18446744073709551616+A0/Q<18446744073709551616∧
  (A1*18446744073709551616+A0)*P%340282366920938463463374607431768211456/18446744073709551616=A1*P%18446744073709551616+A0/Q∧
  (A1*18446744073709551616+A0)*P%340282366920938463463374607431768211456%18446744073709551616=A0*P%18446744073709551616:=by
 have hQ:0<Q:=by
  rcases Nat.eq_zero_or_pos Q with h|h
  ·rw[h]at hPQ;omega
  ·exact h
 have e1:A1*P%18446744073709551616=P*(A1%Q):=by
  have:=Nat.mul_mod_mul_left P A1 Q
  rw[hPQ]at this
  rw[Nat.mul_comm A1 P,this]
 have e2:A0*P/18446744073709551616=A0/Q:=by
  have:=Nat.mul_div_mul_left A0 Q hP
  rw[hPQ]at this
  rw[Nat.mul_comm A0 P,this]
 have e3:A0/Q<P:=by
  apply Nat.div_lt_of_lt_mul
  rw[Nat.mul_comm];omega
 have e4:P*(A1%Q)+P≤18446744073709551616:=by
  have:A1%Q+1≤Q:=Nat.mod_lt _ hQ
  have:=Nat.mul_le_mul_left P this
  rw[hPQ,Nat.mul_add,Nat.mul_one]at this
  exact this
 have e5:(A1*18446744073709551616+A0)*P=A1*P*18446744073709551616+A0*P:=by
  rw[Nat.add_mul,Nat.mul_right_comm]
 rw[e5]
 refine⟨e1,e3,om,?_,?_⟩
 ·generalize A1*P=U at*
  generalize A0*P=T at*
  generalize A0/Q=D at*
  generalize P*(A1%Q)=C at*
  omega
 ·generalize A1*P=U at*
  generalize A0*P=T at*
  omega
theorem lw(A0 A1 P K:Nat):(A1*K+A0)*(K*P)=A1*P*(K*K)+A0*P*K:=by
 rw[Nat.add_mul];simp only[Nat.mul_comm,Nat.mul_left_comm]
theorem Qk(A0 A1 P:Nat):
  (A1*18446744073709551616+A0)*(18446744073709551616*P)%340282366920938463463374607431768211456/18446744073709551616=A0*P%18446744073709551616∧
  (A1*18446744073709551616+A0)*(18446744073709551616*P)%340282366920938463463374607431768211456%18446744073709551616=0:=by
 have e5:=lw A0 A1 P 18446744073709551616
 rw[e5]
 generalize A1*P=U at*
 generalize A0*P=T at*
 omega
theorem Pv(A0 A1 P Q:Nat)(hPQ:P*Q=18446744073709551616)(hP:0<P)(h0:A0<18446744073709551616):
  A1*Q%18446744073709551616=Q*(A1%P)∧A0/P<Q∧A1*Q%18446744073709551616+A0/P<18446744073709551616∧
  (A1*18446744073709551616+A0)/P/18446744073709551616=A1/P∧
  (A1*18446744073709551616+A0)/P%18446744073709551616=A1*Q%18446744073709551616+A0/P:=by
 have hQ:0<Q:=by
  rcases Nat.eq_zero_or_pos Q with h|h
  ·rw[h]at hPQ;omega
  ·exact h
 have hQP:Q*P=18446744073709551616:=by rw[Nat.mul_comm];exact hPQ
 have e1:A1*Q%18446744073709551616=Q*(A1%P):=by
  have:=Nat.mul_mod_mul_left Q A1 P
  rw[hQP]at this
  rw[Nat.mul_comm A1 Q,this]
 have e2:A1*Q/18446744073709551616=A1/P:=by
  have:=Nat.mul_div_mul_left A1 P hQ
  rw[hQP]at this
  rw[Nat.mul_comm A1 Q,this]
 have e3:A0/P<Q:=by
  apply Nat.div_lt_of_lt_mul
  omega
 have e4:Q*(A1%P)+Q≤18446744073709551616:=by
  have:A1%P+1≤P:=Nat.mod_lt _ hP
  have:=Nat.mul_le_mul_left Q this
  rw[hQP,Nat.mul_add,Nat.mul_one]at this
  exact this
 have e5:(A1*18446744073709551616+A0)/P=A1*Q+A0/P:=by
  have:A1*18446744073709551616=P*(A1*Q):=by rw[←hPQ,Nat.mul_left_comm]
  rw[this,Nat.mul_add_div hP]
 rw[e5]
 refine⟨e1,e3,om,?_,?_⟩
 ·generalize A1*Q=U at*
  generalize A0/P=D at*
  generalize A1/P=E at*
  generalize Q*(A1%P)=C at*
  omega
 ·generalize A1*Q=U at*
  generalize A0/P=D at*
  generalize Q*(A1%P)=C at*
  omega
theorem wz(k:Nat)(c d:Nat)(h:d<2^k):(2^k*c)|||d=2^k*c+d:=(Nat.two_pow_add_eq_or_of_lt h c).symm
end Sh
theorem OL(a0 a1:Int)(k:Nat)(h1:k<64)(ha0:0≤a0)(ha1:0≤a1)(xZ:a0<18446744073709551616)(Ac:a1<18446744073709551616):
  IntKind.u64.wrap (a0*2^k)=kM a1 a0 k∧bits .or Y (IntKind.u64.wrap (a1*2^k)) (a0/2^(64-k))=kN a1 a0 k:=by
 obtain⟨A0,rfl⟩:=Int.eq_ofNat_of_zero_le ha0
 obtain⟨A1,rfl⟩:=Int.eq_ofNat_of_zero_le ha1
 have hPQ:=Sh.split k om
 obtain⟨f1,f2,f3,f4,f5⟩:=Sh.Uu A0 A1 (2^k) (2^(64-k)) hPQ (Sh.pos k) om
 have c0:(A0:Int)*2^k=((A0*2^k:Nat):Int):=by push_cast;rfl
 have c1:(A1:Int)*2^k=((A1*2^k:Nat):Int):=by push_cast;rfl
 have c2:(A0:Int)/2^(64-k)=((A0/2^(64-k):Nat):Int):=by push_cast;rfl
 have c3:((A1:Int)*18446744073709551616+A0)*2^k=(((A1*18446744073709551616+A0)*2^k:Nat):Int):=by rw[show(A1:Int)*18446744073709551616+A0=((A1*18446744073709551616+A0:Nat):Int) by omega];generalize A1*18446744073709551616+A0=V;push_cast;rfl
 unfold kM kN
 rw[c0,c1,c2,c3,IntKind.wrap_u64,IntKind.wrap_u64]
 constructor
 ·have:((A0*2^k:Nat):Int)%18446744073709551616=((A0*2^k%18446744073709551616:Nat):Int):=om
  rw[this,←f5];omega
 ·have:((A1*2^k:Nat):Int)%18446744073709551616=((A1*2^k%18446744073709551616:Nat):Int):=om
  rw[this,bits_or_u64_nat _ _ om om,f1,Sh.wz k _ _ f2,←f1,←f4];omega
theorem OM(a0 a1:Int)(j k:Nat)(hk:k=64+j)(ha0:0≤a0)(ha1:0≤a1):
  IntKind.u64.wrap (a0*2^j)=kN a1 a0 k∧0=kM a1 a0 k:=by
 obtain⟨A0,rfl⟩:=Int.eq_ofNat_of_zero_le ha0
 obtain⟨A1,rfl⟩:=Int.eq_ofNat_of_zero_le ha1
 have e:2^k=18446744073709551616*2^j:=by rw[hk,Nat.pow_add]
 obtain⟨f1,f2⟩:=Sh.Qk A0 A1 (2^j)
 have c0:(A0:Int)*2^j=((A0*2^j:Nat):Int):=by push_cast;rfl
 have c3:((A1:Int)*18446744073709551616+A0)*2^k=(((A1*18446744073709551616+A0)*2^k:Nat):Int):=by rw[show(A1:Int)*18446744073709551616+A0=((A1*18446744073709551616+A0:Nat):Int) by omega];generalize A1*18446744073709551616+A0=V;push_cast;rfl
 unfold kM kN
 rw[c0,c3,IntKind.wrap_u64,e]
 omega
theorem OH(a0 a1:Int)(k:Nat)(h1:k<64)(ha0:0≤a0)(ha1:0≤a1)(xZ:a0<18446744073709551616)(Ac:a1<18446744073709551616):
  bits .or Y (a0/2^k) (IntKind.u64.wrap (a1*2^(64-k)))=jc a1 a0 k∧a1/2^k=jd a1 a0 k:=by
 obtain⟨A0,rfl⟩:=Int.eq_ofNat_of_zero_le ha0
 obtain⟨A1,rfl⟩:=Int.eq_ofNat_of_zero_le ha1
 have hPQ:=Sh.split k om
 obtain⟨f1,f2,f3,f4,f5⟩:=Sh.Pv A0 A1 (2^k) (2^(64-k)) hPQ (Sh.pos k) om
 have c0:(A0:Int)/2^k=((A0/2^k:Nat):Int):=by push_cast;rfl
 have c1:(A1:Int)*2^(64-k)=((A1*2^(64-k):Nat):Int):=by push_cast;rfl
 have c2:(A1:Int)/2^k=((A1/2^k:Nat):Int):=by push_cast;rfl
 have c3:((A1:Int)*18446744073709551616+A0)/2^k=(((A1*18446744073709551616+A0)/2^k:Nat):Int):=by rw[show(A1:Int)*18446744073709551616+A0=((A1*18446744073709551616+A0:Nat):Int) by omega];generalize A1*18446744073709551616+A0=V;push_cast;rfl
 unfold jc jd
 rw[c0,c1,c2,c3,IntKind.wrap_u64]
 constructor
 ·have:((A1*2^(64-k):Nat):Int)%18446744073709551616=((A1*2^(64-k)%18446744073709551616:Nat):Int):=om
  rw[this,bits_or_u64_nat _ _ om om,Nat.or_comm,f1,Sh.wz _ _ _ f2,←f1,←f5];omega
 ·rw[←f4];omega
theorem OI(a0 a1:Int)(j k:Nat)(hk:k=64+j)(ha0:0≤a0)(ha1:0≤a1)(xZ:a0<18446744073709551616)(Ac:a1<18446744073709551616):
  a1/2^j=jc a1 a0 k∧0=jd a1 a0 k:=by
 obtain⟨A0,rfl⟩:=Int.eq_ofNat_of_zero_le ha0
 obtain⟨A1,rfl⟩:=Int.eq_ofNat_of_zero_le ha1
 have e:2^k=18446744073709551616*2^j:=by rw[hk,Nat.pow_add]
 have c2:(A1:Int)/2^j=((A1/2^j:Nat):Int):=by push_cast;rfl
 have c3:((A1:Int)*18446744073709551616+A0)/2^k=(((A1*18446744073709551616+A0)/2^k:Nat):Int):=by rw[show(A1:Int)*18446744073709551616+A0=((A1*18446744073709551616+A0:Nat):Int) by omega];generalize A1*18446744073709551616+A0=V;push_cast;rfl
 unfold jc jd
 rw[c2,c3,e,←Nat.div_div_eq_div_mul]
 have e1:(A1*18446744073709551616+A0)/18446744073709551616=A1:=om
 rw[e1]
 have:=Nat.div_le_self A1 (2^j)
 generalize A1/2^j=D at*
 omega
theorem Zu{P:Prop}(h:P:=by
 go_wp2_with (go_at_call 235;refine(H _).mono ?_;rintro e w' ⟨rfl,rfl⟩)
 clear H
 refine wp_loop_rounds 3 ?_
 rw[rounds_succ]
 go_wp2
 go_returns
 exact⟨uP (HM.out.1) (HM.out.2),⟨by go_grown,by go_grown⟩⟩):P:=h
theorem mV(n:Int)(w:World):
  CT 235 #[J .i64 n] w fun e w'=>e=.returned (J .i64 (bnd n))∧w'=w:=by
 go_enter func235,ntmps235
 go_wp2
 all_goals go_returns
 all_goals (refine⟨?_,rfl⟩;refine aU ?_;refine congrArg (Value.int IntKind.i64) ?_;unfold bnd;(repeat' split)<;>omega)
theorem XT(a0 a1 n:Int)(k:Nat)(hn:bnd n=(k:Int))(h1:k<64)(ha0:0≤a0)(ha1:0≤a1)(xZ:a0<18446744073709551616)(Ac:a1<18446744073709551616)(w:World):
  QR 212 #[Z #[J Y a0,J Y a1],J .i64 n] w (Z #[J Y (kM a1 a0 k),J Y (kN a1 a0 k)]):=by
 have HM:Hid (_∧_):=OL a0 a1 k h1 ha0 ha1 xZ Ac
 have H:=mV n
 rw[hn]at H
 have hs:(k:Int)/64=0:=om
 have hs':(k:Int)%64=k:=om
 clear hn
 go_enter func212,ntmps212
 go_wp2_with (go_at_call 235;refine(H _).mono ?_;rintro e w' ⟨rfl,rfl⟩)
 clear H
 refine wp_loop_rounds 3 ?_
 rw[rounds_succ]
 go_wp2
 rw[rounds_succ]
 go_wp2
 go_region
 go_wp2
 rw[rounds_succ]
 go_wp2
 go_returns
 exact⟨uP (HM.out.1) (HM.out.2),⟨by go_grown,by go_grown⟩⟩
theorem Uw(a0 a1 n:Int)(k:Nat)(j:Nat)(hn:bnd n=(k:Int))(hk:k=64+j)(hj:j<64)(ha0:0≤a0)(ha1:0≤a1)(xZ:a0<18446744073709551616)(Ac:a1<18446744073709551616)(w:World):
  QR 212 #[Z #[J Y a0,J Y a1],J .i64 n] w (Z #[J Y (kM a1 a0 k),J Y (kN a1 a0 k)]):=by
 have HM:Hid (_∧_):=OM a0 a1 j k hk ha0 ha1
 have H:=mV n
 rw[hn]at H
 have hs:(k:Int)/64=1:=om
 have hs':(k:Int)%64=j:=om
 clear hk
 clear hn
 go_enter func212,ntmps212
 go_wp2_with (go_at_call 235;refine(H _).mono ?_;rintro e w' ⟨rfl,rfl⟩)
 clear H
 refine wp_loop_rounds 3 ?_
 rw[rounds_succ]
 go_wp2
 rw[rounds_succ]
 go_wp2
 go_returns
 exact⟨uP (HM.out.2) (HM.out.1),⟨by go_grown,by go_grown⟩⟩
theorem TT(a0 a1 n:Int)(k:Nat)(hn:bnd n=(k:Int))(h1:k<64)(ha0:0≤a0)(ha1:0≤a1)(xZ:a0<18446744073709551616)(Ac:a1<18446744073709551616)(w:World):
  QR 227 #[Z #[J Y a0,J Y a1],J .i64 n] w (Z #[J Y (jc a1 a0 k),J Y (jd a1 a0 k)]):=by
 have HM:Hid (_∧_):=OH a0 a1 k h1 ha0 ha1 xZ Ac
 have H:=mV n
 rw[hn]at H
 have hs:(k:Int)/64=0:=om
 have hs':(k:Int)%64=k:=om
 clear hn
 go_enter func227,ntmps227
 go_wp2_with (go_at_call 235;refine(H _).mono ?_;rintro e w' ⟨rfl,rfl⟩)
 clear H
 refine wp_loop_rounds 3 ?_
 rw[rounds_succ]
 go_wp2
 go_region
 go_wp2
 rw[rounds_succ]
 go_wp2
 rw[rounds_succ]
 go_wp2
 go_returns
 exact⟨uP (HM.out.1) (HM.out.2),⟨by go_grown,by go_grown⟩⟩
theorem Px(a0 a1 n:Int)(k:Nat)(j:Nat)(hn:bnd n=(k:Int))(hk:k=64+j)(hj:j<64)(ha0:0≤a0)(ha1:0≤a1)(xZ:a0<18446744073709551616)(Ac:a1<18446744073709551616)(w:World):
  QR 227 #[Z #[J Y a0,J Y a1],J .i64 n] w (Z #[J Y (jc a1 a0 k),J Y (jd a1 a0 k)]):=by
 have HM:Hid (_∧_):=OI a0 a1 j k hk ha0 ha1 xZ Ac
 have H:=mV n
 rw[hn]at H
 have hs:(k:Int)/64=1:=om
 have hs':(k:Int)%64=j:=om
 clear hk
 clear hn
 go_enter func227,ntmps227
 go_wp2_with (go_at_call 235;refine(H _).mono ?_;rintro e w' ⟨rfl,rfl⟩)
 clear H
 refine wp_loop_rounds 3 ?_
 rw[rounds_succ]
 go_wp2
 rw[rounds_succ]
 go_wp2
 go_returns
 exact⟨uP (HM.out.1) (HM.out.2),⟨by go_grown,by go_grown⟩⟩
theorem Xm(a0 a1:Int)(ha0:0≤a0)(ha1:0≤a1):0=kM a1 a0 128∧0=kN a1 a0 128:=by
 have e:(2:Int)^128=340282366920938463463374607431768211456:=de
 unfold kM kN;rw[e];omega
theorem Xj(a0 a1:Int)(ha0:0≤a0)(ha1:0≤a1)(xZ:a0<18446744073709551616)(Ac:a1<18446744073709551616):0=jc a1 a0 128∧0=jd a1 a0 128:=by
 have e:(2:Int)^128=340282366920938463463374607431768211456:=de
 unfold jc jd;rw[e];omega
theorem Ux(a0 a1 n:Int)(k:Nat)(hn:bnd n=(k:Int))(hk:k=128)(ha0:0≤a0)(ha1:0≤a1)(xZ:a0<18446744073709551616)(Ac:a1<18446744073709551616)(w:World):
  QR 212 #[Z #[J Y a0,J Y a1],J .i64 n] w (Z #[J Y (kM a1 a0 k),J Y (kN a1 a0 k)]):=by
 have HM:Hid (_∧_):=Xm a0 a1 ha0 ha1
 have H:=mV n
 rw[hn]at H
 subst hk
 clear hn
 go_enter func212,ntmps212
 exact Zu
theorem Py(a0 a1 n:Int)(k:Nat)(hn:bnd n=(k:Int))(hk:k=128)(ha0:0≤a0)(ha1:0≤a1)(xZ:a0<18446744073709551616)(Ac:a1<18446744073709551616)(w:World):
  QR 227 #[Z #[J Y a0,J Y a1],J .i64 n] w (Z #[J Y (jc a1 a0 k),J Y (jd a1 a0 k)]):=by
 have HM:Hid (_∧_):=Xj a0 a1 ha0 ha1 xZ Ac
 have H:=mV n
 rw[hn]at H
 subst hk
 clear hn
 go_enter func227,ntmps227
 exact Zu
theorem F9(a0 a1 n:Int)(ha0:0≤a0)(ha1:0≤a1)(xZ:a0<18446744073709551616)(Ac:a1<18446744073709551616)(w:World):
  QR 212 #[Z #[J Y a0,J Y a1],J .i64 n] w (Z #[J Y (kM a1 a0 (bnd n).toNat),J Y (kN a1 a0 (bnd n).toNat)]):=by
 have hb:0≤bnd n∧bnd n≤128:=by unfold bnd;(repeat' split)<;>omega
 obtain⟨k,hk⟩:=Int.eq_ofNat_of_zero_le hb.1
 have ek:(bnd n).toNat =k:=om
 rw[ek]
 rcases Nat.lt_or_ge k 64 with h|h
 ·exact XT a0 a1 n k hk h ha0 ha1 xZ Ac w
 ·rcases Nat.lt_or_ge k 128 with h'|h'
  ·exact Uw a0 a1 n k (k-64) hk om om ha0 ha1 xZ Ac w
  ·exact Ux a0 a1 n k hk om ha0 ha1 xZ Ac w
theorem Pz(a0 a1 n:Int)(ha0:0≤a0)(ha1:0≤a1)(xZ:a0<18446744073709551616)(Ac:a1<18446744073709551616)(w:World):
  QR 227 #[Z #[J Y a0,J Y a1],J .i64 n] w (Z #[J Y (jc a1 a0 (bnd n).toNat),J Y (jd a1 a0 (bnd n).toNat)]):=by
 have hb:0≤bnd n∧bnd n≤128:=by unfold bnd;(repeat' split)<;>omega
 obtain⟨k,hk⟩:=Int.eq_ofNat_of_zero_le hb.1
 have ek:(bnd n).toNat =k:=om
 rw[ek]
 rcases Nat.lt_or_ge k 64 with h|h
 ·exact TT a0 a1 n k hk h ha0 ha1 xZ Ac w
 ·rcases Nat.lt_or_ge k 128 with h'|h'
  ·exact Px a0 a1 n k (k-64) hk om om ha0 ha1 xZ Ac w
  ·exact Py a0 a1 n k hk om ha0 ha1 xZ Ac w
theorem nZ(h l n:Int)(hh0:0≤h)(hl0:0≤l)(hh1:h<18446744073709551616)(hl1:l<18446744073709551616)(w:World):
  QR 162 #[Z #[J Y h,J Y l],J .i64 n] w (Z #[J Y (kN h l (bnd n).toNat),J Y (kM h l (bnd n).toNat)]):=by
 go_enter func162,ntmps162
 go_wp2_with (first
  |(go_at_call 211;refine(lK _ _ _).mono ?_;rintro e w1 ⟨rfl,c1,c2,rfl⟩)
  |(go_at_call 212;refine(F9 l h n hl0 hh0 hl1 hh1 _).mono ?_;rintro e w2 ⟨rfl,ak⟩)
  |(go_at_call 213;refine(MS _ _ _).mono ?_;rintro e w3 ⟨rfl,aA⟩;have hf3:=aA.aQ;have hf2:=ak.aQ;obtain⟨q0,q1⟩:AZ w3 (w.heap.size+1) 0 1 (J Y 0) (J Y 0):=⟨kl,kl⟩))
 refine bodyPost_ret (v:=Z #[J Y (kN h l (bnd n).toNat),J Y (kM h l (bnd n).toNat)]) (by simp[results,Tryz.results162,go_sem,q0,q1]) rfl ⟨rfl,?_⟩
 exact kr
theorem Qi(h l:Int)(k:Nat)(h0:0≤h)(l0:0≤l)(h1:h<18446744073709551616)(l1:l<18446744073709551616):
  (kN (jd h l k) (jc h l k) k=h∧kM (jd h l k) (jc h l k) k=l↔uM h l k=false)∧(0≤jd h l k∧jd h l k<18446744073709551616∧0≤jc h l k∧jc h l k<18446744073709551616):=by
 have hp:(0:Int)<2^k:=Int.pow_pos de
 unfold kN kM jd jc uM
 have hV0:0≤h*18446744073709551616+l:=om
 have hV1:h*18446744073709551616+l<340282366920938463463374607431768211456:=om
 have eh:h=(h*18446744073709551616+l)/18446744073709551616:=om
 have el:l=(h*18446744073709551616+l)%18446744073709551616:=om
 generalize h*18446744073709551616+l=V at*
 subst eh el
 have e1:V/2^k/18446744073709551616*18446744073709551616+V/2^k%18446744073709551616=V/2^k:=om
 rw[e1]
 have e2:V/2^k*2^k+V%2^k=V:=Int.ediv_mul_add_emod V (2^k)
 have e3:0≤V%2^k:=Int.emod_nonneg _ om
 have e4:0≤V/2^k:=Int.ediv_nonneg hV0 om
 have e5:V/2^k≤V:=Int.ediv_le_self _ hV0
 have e6:0≤V/2^k*2^k:=Int.mul_nonneg e4 om
 generalize V/2^k*2^k=T at*
 generalize V/2^k=D at*
 generalize V%2^k=R at*
 refine⟨?_,om,om,om,om⟩
 simp only[decide_eq_false_iff_not,Classical.not_not]
 omega
theorem xU(h l n A B:Int)(r:Bool)(hh0:0≤h)(hl0:0≤l)(hh1:h<18446744073709551616)(hl1:l<18446744073709551616)
  (HL:∀w,QR 212 #[Z #[J Y (jc h l (bnd n).toNat),J Y (jd h l (bnd n).toNat)],J .i64 n] w (Z #[J Y A,J Y B]))
  (hc:(l=A∧h=B∧r=false)∨((A==l)=false∧r=true)∨(l=A∧(B==h)=false∧r=true)) (w:World):
  QR 192 #[Z #[J Y h,J Y l],J .i64 n] w (.tuple #[Z #[J Y (jd h l (bnd n).toNat),J Y (jc h l (bnd n).toNat)],.bool r]):=by
 have HLL:Hid _:=HL
 clear HL
 have hq:=Yp A B l h
 rcases hc with⟨rfl,rfl,rfl⟩|⟨hA,rfl⟩|⟨rfl,hB,rfl⟩
 all_goals simp only[*,BEq.rfl,Bool.and_true,Bool.true_and,Bool.and_false,Bool.false_and]at hq
 all_goals
  go_enter func192,ntmps192
  go_wp2_with (first
   |(go_at_call 211;refine(lK _ _ _).mono ?_;rintro e w1 ⟨rfl,c1,c2,rfl⟩)
   |(go_at_call 227;refine(Pz _ _ n hl0 hh0 hl1 hh1 _).mono ?_;rintro e w2 ⟨rfl,ak⟩;have CP:=ak.cells;have CO:=ak.aQ;have oK:=ak.size;(try simp only[World.size_alloc,World.size_drew,World.size_setCell]at oK)))
  go_region_held3 (fun w'=>w'.cell? ⟨w2.heap.size,0,none⟩=some (J Y (jc h l (bnd n).toNat))∧w'.cell? ⟨w2.heap.size,1,none⟩=some (J Y (jd h l (bnd n).toNat))
    ∧w'.cell? ⟨w.heap.size+1+1+1+1,0,none⟩=some (J Y l)∧w'.cell? ⟨w.heap.size+1+1+1+1,1,none⟩=some (J Y h))
   ((go_split_ands;(repeat' apply And.intro)<;>exact kl))
   (first
    |(go_at_call 213;refine(MS _ _ _).mono ?_;rintro e w3 ⟨rfl,aA⟩;have qj:=aA.cells;have qh:=aA.aQ;have iI:=aA.size;(try simp only[World.size_alloc,World.size_drew,World.size_setCell]at iI))
    |(go_at_call 212;refine(HLL.out _).mono ?_;rintro e w4 ⟨rfl,aF⟩;have q0:w4.cell? ⟨w.heap.size+1,0,none⟩=some (J Y 0):=(by go_split_ands;exact kl);have q1:w4.cell? ⟨w.heap.size+1,1,none⟩=some (J Y 0):=(by go_split_ands;exact kl);have z0:w4.frozen? ⟨w.heap.size+1,0,none⟩=false:=(by go_split_ands;exact kl);have z1:w4.frozen? ⟨w.heap.size+1,1,none⟩=false:=(by go_split_ands;exact kl)))
 all_goals go_wp2
 all_goals
  refine bodyPost_ret (v:=.tuple #[Z #[J Y (jd h l (bnd n).toNat),J Y (jc h l (bnd n).toNat)],.bool _]) (by simp[results,Tryz.results192,go_sem,q0,q1]) rfl ⟨rfl,?_⟩
  exact kr
theorem yZ(h l n:Int)(hh0:0≤h)(hl0:0≤l)(hh1:h<18446744073709551616)(hl1:l<18446744073709551616)(w:World):
  QR 192 #[Z #[J Y h,J Y l],J .i64 n] w (.tuple #[Z #[J Y (jd h l (bnd n).toNat),J Y (jc h l (bnd n).toNat)],.bool (uM h l (bnd n).toNat)]):=by
 obtain⟨hback,k0,k1,k2,k3⟩:=Qi h l (bnd n).toNat hh0 hl0 hh1 hl1
 refine xU h l n _ _ _ hh0 hl0 hh1 hl1 (fun w=>F9 _ _ n k2 k0 k3 k1 w) ?_ w
 generalize kM (jd h l (bnd n).toNat) (jc h l (bnd n).toNat) (bnd n).toNat =A at*
 generalize kN (jd h l (bnd n).toNat) (jc h l (bnd n).toNat) (bnd n).toNat =B at*
 generalize uM h l (bnd n).toNat =r at*
 by_cases hA:A=l
 ·by_cases hB:B=h
  ·exact .inl ⟨hA.symm,hB.symm,hback.mp ⟨hB,hA⟩⟩
  ·refine .inr (.inr ⟨hA.symm,by simp[hB],?_⟩)
   cases r
   ·exact absurd (hback.mpr rfl).1 hB
   ·rfl
 ·refine .inr (.inl ⟨by simp[hA],?_⟩)
  cases r
  ·exact absurd (hback.mpr rfl).2 hA
  ·rfl
