import Derived.Test.YtnbbfeknbfohhaaGreatDoorRows
import Derived.WalkKit
import Derived.WalkSpells
import Derived.Laws.Externs
import Derived.Handy
import Derived.Deep.RegionHeld3
import Derived.Test.YtnbbfeknbfohhaaGreatDoorA1
import Derived.Test.YtnbbfeknbfohhaaGreatDoorA2
import Derived.Laws.Bits64b
import Derived.Shelf.Spec.BitsCarry
set_option maxHeartbeats 40000000
open Go.Value renaming int → J
open Go.IntKind renaming u64 → Y
open Go.Proofs.Tryz
namespace Go.Proofs.YtnbbfeknbfohhaaGreatDoor
open Go.RowKit
theorem aAb(x y c:Int)(hx:0≤x)(hy:0≤y)(hc0:0≤c)(hc:c≤1)(w:World):(callFunc 250 #[J Y x,J Y y,J Y c]).run Tryz.prog w=
  .ok (.value (.tuple #[J Y ((x+y+c)%18446744073709551616),J Y ((x+y+c)/18446744073709551616)])) w:=by
 rw[run_callFunc_extern func250 (by kernel_rfl) (by kernel_rfl) (by kernel_rfl) (e:=add64Entry) (by kernel_rfl),run_add64 x y c hx hy hc0 hc]
 rfl
theorem YG(x y:Int)(hx:0≤x)(hy:0≤y)(w:World):(callFunc 250 #[J Y x,J Y y,J Y 0]).run Tryz.prog w=
  .ok (.value (.tuple #[J Y ((x+y)%18446744073709551616),J Y ((x+y)/18446744073709551616)])) w:=by
 simpa using aAb x y 0 hx hy (Int.le_refl 0) de w
theorem FT(a0 a1 b0 b1:Int)(ha0:0≤a0)(ha1:0≤a1)(hb0:0≤b0)(hb1:0≤b1)(xZ:a0<18446744073709551616)(gb0:b0<18446744073709551616)(w:World):
  Calls Tryz.prog 246 #[.agg #[J Y a0,J Y a1],.agg #[J Y b0,J Y b1]] w fun e w'=>
   e=.returned (.tuple #[.agg #[J Y ((a0+b0)%18446744073709551616),J Y ((a1+b1+(a0+b0)/18446744073709551616)%18446744073709551616)],
    .bool ((a1+b1+(a0+b0)/18446744073709551616)/18446744073709551616 != 0)])∧∃c1 c2 c3 c4:Array Value,w'=((((w.alloc (.cells c1 228)).alloc (.cells c2 228)).alloc (.cells c3 228)).alloc (.cells c4 228)).drew.drew :=by
 have k0:0≤(a0+b0)/18446744073709551616:=om
 have k1:(a0+b0)/18446744073709551616≤1:=om
 go_enter func246,ntmps246
 go_wp2
 refine wp_loop_rounds 3 ?_
 rw[rounds_succ]
 go_wp2
 go_region_with (simp only[YG a0 b0 ha0 hb0])
 all_goals (go_wp2;rw[rounds_succ];go_wp2;go_region_with (simp only[aAb a1 b1 _ ha1 hb1 k0 k1]))
 all_goals (go_wp2;rw[rounds_succ];go_wp2;go_returns;exact⟨rfl,_,_,_,_,rfl⟩)
set_option linter.unusedVariables false
theorem Ii(ah al bh bl:Int)(ha0:0≤ah)(ha1:ah<18446744073709551616)(hb0:0≤al)(hb1:al<18446744073709551616)(hc0:0≤bh)(hc1:bh<18446744073709551616)(hd0:0≤bl)(hd1:bl<18446744073709551616)(w:World):
  CT 238 #[.agg #[J Y ah,J Y al],.agg #[J Y bh,J Y bl]] w fun e w'=>
   e=.returned (.tuple #[.agg #[J Y ((ah+bh+(al+bl)/18446744073709551616)%18446744073709551616),J Y ((al+bl)%18446744073709551616)],.bool ((ah+bh+(al+bl)/18446744073709551616)/18446744073709551616 != 0)])∧Gr w w':=by
 go_enter func238,ntmps238
 go_wp2
 go_region_held3 (fun w'=>w'.cell? ⟨w.heap.size,0,none⟩=some (J Y ah)∧w'.cell? ⟨w.heap.size,1,none⟩=some (J Y al)∧w'.cell? ⟨w.heap.size+1,0,none⟩=some (J Y bh)∧w'.cell? ⟨w.heap.size+1,1,none⟩=some (J Y bl))
  (simp[go_sem,World.cell?_alloc_past])
  (first
   |(go_at_call 211;refine(lK _ _ _).mono ?_;rintro e w1 ⟨rfl,c1,c2,rfl⟩)
   |(go_at_call 246;refine(FT al ah bl bh hb0 ha0 hd0 hc0 hb1 hd1 _).mono ?_;rintro e w2 ⟨rfl,d1,d2,d3,d4,rfl⟩))
 all_goals go_wp2_with (go_at_call 213;refine(uo _ _ _).mono ?_;rintro e w1 ⟨rfl,f1,f2,rfl⟩)
 all_goals go_returns
 all_goals exact⟨rfl,⟨by go_grown,by go_grown⟩⟩
set_option linter.unusedSimpArgs false
theorem JO(x y:Int)(hx0:0≤x)(hx:x<18446744073709551616)(hy0:0≤y)(hy:y<18446744073709551616):0≤x*y/18446744073709551616∧x*y/18446744073709551616<18446744073709551616:=by
 have h1:0≤x*y:=Int.mul_nonneg hx0 hy0
 have h2:x*y≤18446744073709551615*18446744073709551615:=Int.mul_le_mul om om hy0 om
 generalize x*y=p at*
 omega
theorem Ut(x:Int)(h0:0≤x)(h1:x<18446744073709551616):bits .and Y x 4294967295=x%4294967296:=by
 obtain⟨n,rfl⟩:=Int.eq_ofNat_of_zero_le h0
 refine(bits_and_u64_nat n 4294967295 om om).trans ?_
 rw[show n&&&4294967295=n%4294967296 from Nat.and_two_pow_sub_one_eq_mod n 32]
 omega
structure Halves (x y a b c d:Int):Prop where
 all:x*y=a*18446744073709551616+(b+c)*4294967296+d
 a0:0≤a
 a1:a≤18446744065119617025
 b0:0≤b
 b1:b≤18446744065119617025
 c0:0≤c
 c1:c≤18446744065119617025
 d0:0≤d
 d1:d≤18446744065119617025
theorem rQ(u v:Int)(u0:0≤u)(u1:u<4294967296)(v0:0≤v)(v1:v<4294967296):0≤u*v∧u*v≤18446744065119617025:=by
 refine⟨Int.mul_nonneg u0 v0,?_⟩
 have:=Int.mul_le_mul (show u≤4294967295 by omega) (show v≤4294967295 by omega) v0 om
 omega
theorem halves(x y x1 x0 y1 y0:Int)(hx:x=x1*4294967296+x0)(hy:y=y1*4294967296+y0)(bx1:0≤x1)(nO:x1<4294967296)(bx0:0≤x0)(vO:x0<4294967296)(BL:0≤y1)(CQ:y1<4294967296)(by0:0≤y0)(cy0:y0<4294967296):
  Halves x y (x1*y1) (x1*y0) (x0*y1) (x0*y0):=by
 obtain⟨a0,a1⟩:=rQ x1 y1 bx1 nO BL CQ
 obtain⟨b0,b1⟩:=rQ x1 y0 bx1 nO by0 cy0
 obtain⟨c0,c1⟩:=rQ x0 y1 bx0 vO BL CQ
 obtain⟨d0,d1⟩:=rQ x0 y0 bx0 vO by0 cy0
 refine⟨?_,a0,a1,b0,b1,c0,c1,d0,d1⟩
 rw[hx,hy,Int.add_mul,Int.mul_add,Int.mul_add,Int.mul_right_comm x1 4294967296 y0,←Int.mul_assoc x0 y1,←Int.mul_assoc (x1*4294967296) y1,Int.mul_right_comm x1 4294967296 y1]
 generalize x1*y1=a
 generalize x1*y0=b
 generalize x0*y1=c
 generalize x0*y0=d
 omega
theorem aAu{a a' b b':Int}(h1:a=a')(h2:b=b'):Ending.returned (.tuple #[J Y a,J Y b])=.returned (.tuple #[J Y a',J Y b']):=by rw[h1,h2]
theorem Qc(x y:Int)(hx0:0≤x)(hx:x<18446744073709551616)(hy0:0≤y)(hy:y<18446744073709551616)(w:World):
  Calls Tryz.prog 245 #[J Y x,J Y y] w fun e w'=>e=.returned (.tuple #[J Y (x*y/18446744073709551616),J Y (x*y%18446744073709551616)])∧w'=w:=by
 have la:=Ut x hx0 hx
 have lb:=Ut y hy0 hy
 obtain⟨x1,hx1⟩:∃v,x/4294967296=v:=⟨_,rfl⟩
 obtain⟨x0,hxl⟩:∃v,x%4294967296=v:=⟨_,rfl⟩
 obtain⟨y1,hy1⟩:∃v,y/4294967296=v:=⟨_,rfl⟩
 obtain⟨y0,hyl⟩:∃v,y%4294967296=v:=⟨_,rfl⟩
 rw[hxl]at la
 rw[hyl]at lb
 obtain⟨eq,a0,a1,b0,b1,c0,c1,d0,d1⟩:=halves x y x1 x0 y1 y0 om om om om om om om om om om
 obtain⟨a,ha⟩:∃v,x1*y1=v:=⟨_,rfl⟩
 obtain⟨b,hb⟩:∃v,x1*y0=v:=⟨_,rfl⟩
 obtain⟨c,hc⟩:∃v,x0*y1=v:=⟨_,rfl⟩
 obtain⟨d,hd⟩:∃v,x0*y0=v:=⟨_,rfl⟩
 rw[ha,hb,hc,hd]at eq
 rw[ha]at a0 a1
 rw[hb]at b0 b1
 rw[hc]at c0 c1
 rw[hd]at d0 d1
 obtain⟨t,ht⟩:∃v,b+d/4294967296=v:=⟨_,rfl⟩
 have lt:=Ut t om om
 have t0:0≤t:=om
 have t1:t<18446744073709551616:=om
 have E:Hid _:=eq
 have hT:Hid (b+d/4294967296=t):=ht
 clear eq hxl hyl
 go_enter func245,ntmps245
 go_wp2
 go_ret2
 have e:=E.out
 have f:=hT.out
 generalize x*y=p at*
 refine⟨aAu ?_ ?_,rfl⟩
 ·omega
 ·first|omega|(simp only[IntKind.wrap_u64];done)|(simp only[IntKind.wrap_u64];omega)
theorem F7(x y:Int)(hx0:0≤x)(hx:x<18446744073709551616)(hy0:0≤y)(hy:y<18446744073709551616)(w:World):
  QR 193 #[J Y x,J Y y] w (.agg #[J Y (x*y/18446744073709551616),J Y (x*y%18446744073709551616)]):=by
 obtain⟨b0,b1⟩:=JO x y hx0 hx hy0 hy
 have e1:x*y%18446744073709551616%18446744073709551616=x*y%18446744073709551616:=om
 have e2:x*y%18446744073709551616/18446744073709551616=0:=om
 have e3:x*y/18446744073709551616%18446744073709551616=x*y/18446744073709551616:=om
 have e4:x*y/18446744073709551616/18446744073709551616=0:=om
 go_enter func193,ntmps193
 go_wp2_with (first
  |(go_at_call 245;refine(Qc x y hx0 hx hy0 hy _).mono ?_;rintro e w' ⟨rfl,rfl⟩)
  |(go_at_call 246;refine(FT 0 0 _ _ om om om om om om _).mono ?_;rintro e w1 ⟨rfl,d1,d2,d3,d4,rfl⟩)
  |(go_at_call 213;refine(uo _ _ _).mono ?_;rintro e w2 ⟨rfl,f1,f2,rfl⟩)
  |go_in)
 go_returns
 exact⟨rfl,⟨by go_grown,by go_grown⟩⟩
def Em(x y:Int):Int:=if x<y then 1 else 0
theorem aBq(x y:Int):Em x y≤1:=by unfold Em;split<;>omega
theorem aBr(x y:Int):0≤Em x y:=by unfold Em;split<;>omega
theorem Zx(x y b:Int)(hx:0≤x)(hy:0≤y)(hy':y<18446744073709551616)(hb0:0≤b)(hb:b≤1)(w:World):(callFunc 251 #[J Y x,J Y y,J Y b]).run Tryz.prog w=
  .ok (.value (.tuple #[J Y ((x-y-b)%18446744073709551616),J Y (Em x (y+b))])) w:=by
 obtain⟨x,rfl⟩:=Int.eq_ofNat_of_zero_le hx
 obtain⟨y,rfl⟩:=Int.eq_ofNat_of_zero_le hy
 obtain⟨b,rfl⟩:=Int.eq_ofNat_of_zero_le hb0
 rw[run_callFunc_extern func251 (by kernel_rfl) (by kernel_rfl) (by kernel_rfl) (e:=sub64Entry) (by kernel_rfl),run_sub64 x y b (by omega)]
 have e1:(((x+18446744073709551616-y-b)%18446744073709551616:Nat):Int)=((x:Int)-y-b)%18446744073709551616:=om
 have e2:((if x<y+b then 1 else 0:Nat):Int)=Em x (y+b):=by unfold Em;split<;>split<;>omega
 rw[←e1,←e2]
 rfl
theorem Xd(x y:Int)(hx:0≤x)(hy:0≤y)(hy':y<18446744073709551616)(w:World):(callFunc 251 #[J Y x,J Y y,J Y 0]).run Tryz.prog w=
  .ok (.value (.tuple #[J Y ((x-y)%18446744073709551616),J Y (Em x y)])) w:=by
 simpa using Zx x y 0 hx hy hy' (Int.le_refl 0) de w
theorem Qd(a0 a1 b0 b1:Int)(ha0:0≤a0)(ha1:0≤a1)(hb0:0≤b0)(hb1:0≤b1)(gb0:b0<18446744073709551616)(gb1:b1<18446744073709551616)(w:World):
  CT 247 #[.agg #[J Y a0,J Y a1],.agg #[J Y b0,J Y b1]] w fun e w'=>
   e=.returned (.tuple #[.agg #[J Y ((a0-b0)%18446744073709551616),J Y ((a1-b1-Em a0 b0)%18446744073709551616)],
    .bool (Em a1 (b1+Em a0 b0) != 0)])∧∃c1 c2 c3 c4:Array Value,w'=((((w.alloc (.cells c1 228)).alloc (.cells c2 228)).alloc (.cells c3 228)).alloc (.cells c4 228)).drew.drew :=by
 have k0:=aBr a0 b0
 have k1:=aBq a0 b0
 go_enter func247,ntmps247
 go_wp2
 refine wp_loop_rounds 3 ?_
 rw[rounds_succ]
 go_wp2
 go_region_with (simp only[Xd a0 b0 ha0 hb0 gb0])
 all_goals (go_wp2;rw[rounds_succ];go_wp2;go_region_with (simp only[Zx a1 b1 _ ha1 hb1 gb1 k0 k1]))
 all_goals (go_wp2;rw[rounds_succ];go_wp2;go_returns;exact⟨rfl,_,_,_,_,rfl⟩)
def lt2(a1 a0 b1 b0:Int):Bool:=Em a1 (b1+Em a0 b0) != 0
theorem XR(a1 a0 b1 b0:Int)(ha0:0≤a0)(hb0:0≤b0)(xZ:a0<18446744073709551616)(gb0:b0<18446744073709551616):lt2 a1 a0 b1 b0=decide (a1*18446744073709551616+a0<b1*18446744073709551616+b0):=by
 unfold lt2 Em
 rw[Bool.eq_iff_iff]
 simp only[bne_iff_ne,ne_eq,decide_eq_true_eq]
 split<;>split<;>omega
theorem wW(ah al bh bl:Int)(ha0:0≤ah)(ha1:ah<18446744073709551616)(hb0:0≤al)(hb1:al<18446744073709551616)(hc0:0≤bh)(hc1:bh<18446744073709551616)(hd0:0≤bl)(hd1:bl<18446744073709551616)(w:World):
  CT 239 #[.agg #[J Y ah,J Y al],.agg #[J Y bh,J Y bl]] w fun e w'=>
   e=.returned (.tuple #[.agg #[J Y ((ah-bh-Em al bl)%18446744073709551616),J Y ((al-bl)%18446744073709551616)],.bool (lt2 ah al bh bl)])∧Gr w w':=by
 have HL:Hid (lt2 ah al bh bl=(Em ah (bh+Em al bl) != 0)):=rfl
 go_enter func239,ntmps239
 go_wp2
 go_region_held3 (fun w'=>w'.cell? ⟨w.heap.size,0,none⟩=some (J Y ah)∧w'.cell? ⟨w.heap.size,1,none⟩=some (J Y al)∧w'.cell? ⟨w.heap.size+1,0,none⟩=some (J Y bh)∧w'.cell? ⟨w.heap.size+1,1,none⟩=some (J Y bl))
  (simp[go_sem,World.cell?_alloc_past])
  (first
   |(go_at_call 211;refine(lK _ _ _).mono ?_;rintro e w1 ⟨rfl,c1,c2,rfl⟩)
   |(go_at_call 247;refine(Qd al ah bl bh hb0 ha0 hd0 hc0 hd1 hc1 _).mono ?_;rintro e w2 ⟨rfl,d1,d2,d3,d4,rfl⟩))
 all_goals go_wp2_with (go_at_call 213;refine(uo _ _ _).mono ?_;rintro e w1 ⟨rfl,f1,f2,rfl⟩)
 all_goals go_returns
 all_goals exact⟨zA rfl rfl HL.out.symm,⟨by go_grown,by go_grown⟩⟩
