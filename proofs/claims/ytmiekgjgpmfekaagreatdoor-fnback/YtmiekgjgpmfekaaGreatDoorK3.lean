import Derived.Test.YtmiekgjgpmfekaaGreatDoorK2
import Derived.Laws.EntriesVeiled
import Derived.Test.YtmiekgjgpmfekaaGreatDoorRows
import Derived.Test.YtmiekgjgpmfekaaGreatDoorG7
import Derived.Laws.Bits64
import Derived.Laws.MakeOwn
import Derived.Deep.OwnRows
set_option linter.all false
set_option maxRecDepth 1000000
set_option maxHeartbeats 40000000
open Bool renaming true → O
open Go.Proofs.YtmiekgjgpmfekaaGreatDoor renaming vI → J, vU → Y
open Go.Value renaming bool → Z
open Go.Proofs.Tryz
namespace Go.Proofs.YtmiekgjgpmfekaaGreatDoor
open Go.RowKit
attribute [local go_sem] aj bK
variable{p mn mx fb sp one inf sg nan a b a1 a2 b1 b2:Int}{w:World}{o:Ops}
def ru(mode:Int)(neg odd half rest:Bool):Bool:=if mode=0 then half&&(odd||rest)else if mode=1 then half else if mode=2 then false else if mode=3 then !neg&&(half||rest)else neg&&(half||rest)
def qC(mode:Int)(k:Nat):Prop:=mode=0/\k=189\/mode=1/\k=190\/mode=2/\k=191\/mode=3/\k=192\/mode=4/\k=193
theorem tu(a b c d:Bool)(w:World):QW 189 #[Z a,Z b,Z c,Z d] w (Z (ru 0 a b c d)):=by
 cases a<;>cases b<;>cases c<;>cases d;all_goals
  go_enter func189,ntmps189;go_wp2;go_returns;exact⟨rfl,rfl⟩
theorem tH(a b c d:Bool)(w:World):QW 190 #[Z a,Z b,Z c,Z d] w (Z (ru 1 a b c d)):=by
 cases a<;>cases b<;>cases c<;>cases d;all_goals
  go_enter func190,ntmps190;go_wp2;go_returns;exact⟨rfl,rfl⟩
theorem uz(a b c d:Bool)(w:World):QW 191 #[Z a,Z b,Z c,Z d] w (Z (ru 2 a b c d)):=by
 cases a<;>cases b<;>cases c<;>cases d;all_goals
  go_enter func191,ntmps191;go_wp2;go_returns;exact⟨rfl,rfl⟩
theorem DL(a b c d:Bool)(w:World):QW 192 #[Z a,Z b,Z c,Z d] w (Z (ru 3 a b c d)):=by
 cases a<;>cases b<;>cases c<;>cases d;all_goals
  go_enter func192,ntmps192;go_wp2;go_returns;exact⟨rfl,rfl⟩
theorem zD(a b c d:Bool)(w:World):QW 193 #[Z a,Z b,Z c,Z d] w (Z (ru 4 a b c d)):=by
 cases a<;>cases b<;>cases c<;>cases d;all_goals
  go_enter func193,ntmps193;go_wp2;go_returns;exact⟨rfl,rfl⟩
theorem gW(mode:Int)(k:Nat)(h:qC mode k)(w:World):
  QR 154 #[J mode] w (.tuple #[.func (.func k) #[] #[],Z O]):=by
 rcases h with⟨rfl,rfl⟩|⟨rfl,rfl⟩|⟨rfl,rfl⟩|⟨rfl,rfl⟩|⟨rfl,rfl⟩
 all_goals
  go_enter func154,ntmps154;go_wp2;go_returns;exact⟨rfl,kr⟩
theorem kD(mode:Int)(h:mode<0\/4<mode)(w:World):
  QR 154 #[J mode] w (.tuple #[Value.nilFunc,Z false]):=by
 rcases h with c|c
 all_goals
  go_enter func154,ntmps154;go_wp2;go_returns;exact⟨rfl,kr⟩
theorem aB5(a b c d:Int)(w:World):(Op.equalIn 10000 226 (aG a b) (aG c d)).run Tryz.prog w=.ok (a==c&&b==d) w:=by
 have u3:=Tryz.underlying33;have a3:=Tryz.isAgg33;have z3:=Tryz.sizeOf33;rw[show(10000:Nat)=9999+1 from rfl,Op.equalIn];simp only[Sem.run_bind,run_underlying Tryz.underlying226,Result.andThen_ok];simp only[Std.Legacy.Range.forIn_eq_forIn_range',Std.Legacy.Range.size,Nat.sub_zero,Nat.add_sub_cancel,Nat.div_one,List.range'_succ,List.range'_zero,List.forIn_cons,List.forIn_nil];go_simp;by_cases h1:a=c<;>by_cases h2:b=d<;>simp[h1,h2]
theorem CQ(h l n A B:Int)(r:Bool)(hh0:0<=h)(hl0:0<=l)(hh1:h<18446744073709551616)(hl1:l<18446744073709551616)
  (HL:∀w,QR 201 #[aG (iF h l (bnd n).toNat) (je h l (bnd n).toNat),J n] w (aG A B))
  (hc:(l=A/\h=B/\r=false)\/((A==l)=false/\r=O)\/(l=A/\(B==h)=false/\r=O)) (w:World):
  QR 182 #[aG h l,J n] w (.tuple #[aG (je h l (bnd n).toNat) (iF h l (bnd n).toNat),Z r]):=by
 have HLL:Hid _:=HL;clear HL;have hq:=aB5 A B l h;rcases hc with⟨rfl,rfl,rfl⟩|⟨hA,rfl⟩|⟨rfl,hB,rfl⟩
 all_goals simp only[*,BEq.rfl,Bool.and_true,Bool.true_and,Bool.and_false,Bool.false_and]at hq
 all_goals
  go_enter func182,ntmps182;go_wp2_with (first
   |(go_at_call 200;refine(mD _ _ _).mono ?_;rintro e w1 ⟨rfl,c1,c2,rfl⟩)
   |(go_at_call 211;refine(Vf _ _ n hl0 hh0 hl1 hh1 _).mono ?_;rintro e w2 ⟨rfl,aA⟩;have ZB:=aA.cells;have Zz:=aA.dK;have EU:=aA.size;(try simp only[World.size_alloc,World.size_drew,World.size_setCell]at EU)))
  go_region_held3 (fun w'=>aj w' w2.heap.size 0 (Y (iF h l (bnd n).toNat))/\aj w' w2.heap.size 1 (Y (je h l (bnd n).toNat))
    /\aj w' (w.heap.size+1+1+1+1) 0 (Y l)/\aj w' (w.heap.size+1+1+1+1) 1 (Y h))
   ((go_split_ands;(repeat' apply And.intro)<;>exact kl))
   (first
    |(go_at_call 202;refine(RV _ _ _).mono ?_;rintro e w3 ⟨rfl,aF⟩;have zC:=aF.cells;have zB:=aF.dK;have kQ:=aF.size;(try simp only[World.size_alloc,World.size_drew,World.size_setCell]at kQ))
    |(go_at_call 201;refine(HLL _).mono ?_;rintro e w4 ⟨rfl,aI⟩;have q0:aj w4 (w.heap.size+1) 0 (Y 0):=(by go_split_ands;exact kl);have q1:aj w4 (w.heap.size+1) 1 (Y 0):=(by go_split_ands;exact kl);have z0:bK w4 (w.heap.size+1) 0:=(by go_split_ands;exact kl);have z1:bK w4 (w.heap.size+1) 1:=(by go_split_ands;exact kl)))
 all_goals go_wp2
 all_goals
  exact bI (by simp[results,Tryz.results182,go_sem,q0,q1])
theorem uH(h l n:Int)(hh0:0<=h)(hl0:0<=l)(hh1:h<18446744073709551616)(hl1:l<18446744073709551616)(w:World):
  QR 182 #[aG h l,J n] w (.tuple #[aG (je h l (bnd n).toNat) (iF h l (bnd n).toNat),Z (iR h l (bnd n).toNat)]):=by
 obtain⟨hback,k0,k1,k2,k3⟩:=Vy h l (bnd n).toNat hh0 hl0 hh1 hl1;refine CQ h l n _ _ _ hh0 hl0 hh1 hl1 (fun w=>MV _ _ n k2 k0 k3 k1 w) ?_ w;generalize lq (je h l (bnd n).toNat) (iF h l (bnd n).toNat) (bnd n).toNat =A at*
 generalize lu (je h l (bnd n).toNat) (iF h l (bnd n).toNat) (bnd n).toNat =B at*
 generalize iR h l (bnd n).toNat =r at*
 by_cases hA:A=l
 ·by_cases hB:B=h
  ·exact .inl ⟨hA.symm,hB.symm,hback.mp ⟨hB,hA⟩⟩
  ·refine .inr (.inr ⟨hA.symm,by simp[hB],?_⟩);cases r
   ·exact absurd (hback.mpr rfl).1 hB
   ·rfl
 ·refine .inr (.inl ⟨by simp[hA],?_⟩);cases r
  ·exact absurd (hback.mpr rfl).2 hA
  ·rfl
theorem NZ(M k:Nat):(M:Int)/2^k=((M/2^k:Nat):Int):=by rw[Int.natCast_ediv,Int.natCast_pow];rfl
theorem aAg(M k:Nat):(M:Int)%2^k=((M%2^k:Nat):Int):=by rw[Int.natCast_emod,Int.natCast_pow];rfl
theorem cast_mul(M k:Nat):(M:Int)*2^k=((M*2^k:Nat):Int):=by rw[Int.natCast_mul,Int.natCast_pow];rfl
theorem aEx(M:Nat)(hM:M<340282366920938463463374607431768211456)(n:Nat)(w:World):
  QR 182 #[aG ((M/18446744073709551616:Nat):Int) ((M%18446744073709551616:Nat):Int),J n] w (.tuple #[aG ((M/2^n/18446744073709551616:Nat):Int) ((M/2^n%18446744073709551616:Nat):Int),Z (decide (M%2^n≠0))]):=by
 have e0:((M/18446744073709551616:Nat):Int)*18446744073709551616+((M%18446744073709551616:Nat):Int)=(M:Int):=om;obtain⟨k,hk,hdiv,hmod⟩:∃k:Nat,(bnd (n:Int)).toNat =k/\M/2^k=M/2^n/\M%2^k=M%2^n:=by
  unfold bnd;rw[if_neg (by omega)];by_cases h:128<(n:Int)
  ·rw[if_pos h];have h1:M<2^128:=by simpa using hM
   have h2:=bT (show 128<=n by omega);exact⟨128,rfl,by rw[Nat.div_eq_of_lt h1,Nat.div_eq_of_lt (by omega)],by rw[Nat.mod_eq_of_lt h1,Nat.mod_eq_of_lt (by omega)]⟩
  ·rw[if_neg h];exact⟨n,by simp,rfl,rfl⟩
 refine(uH _ _ (n:Int) om om om om w).mono ?_;rintro e w' ⟨rfl,hg⟩;refine⟨Eu ?_ ?_ ?_,hg⟩
 ·unfold je;rw[hk,e0,NZ,hdiv];omega
 ·unfold iF;rw[hk,e0,NZ,hdiv];omega
 ·unfold iR;rw[hk,e0,aAg,hmod];generalize M%2^n=R;by_cases h:R=0
  ·simp[h]
  ·simp[h]
theorem aHV(M:Nat)(hM:M<340282366920938463463374607431768211456)(n:Nat)(hn:n<=128)(h:M*2^n<18446744073709551616)(w:World):
  QR 158 #[aG ((M/18446744073709551616:Nat):Int) ((M%18446744073709551616:Nat):Int),J n] w (aG 0 ((M*2^n:Nat):Int)):=by
 have e0:((M/18446744073709551616:Nat):Int)*18446744073709551616+((M%18446744073709551616:Nat):Int)=(M:Int):=om;have hk:(bnd (n:Int)).toNat =n:=by unfold bnd;rw[if_neg om,if_neg (by omega)];simp
 refine(lX _ _ (n:Int) om om om om w).mono ?_;rintro e w' ⟨rfl,hg⟩;refine⟨Ew ?_ ?_,hg⟩
 ·unfold lu;rw[hk,e0,cast_mul];omega
 ·unfold lq;rw[hk,e0,cast_mul];omega
theorem KQ{P:Prop}(h:P:=by
 refine bodyPost_ret (v:=aK z 20) (by simp[results,Tryz.results216,go_sem,fP,xJ]) rfl ⟨by simp,?_⟩;exact kr):P:=h
theorem KT{P:Prop}(h:P:=by
 refine bodyPost_ret (v:=aK (z-1) 20) (by simp[results,Tryz.results216,go_sem,fP,xJ]) rfl ⟨by simp,?_⟩;exact kr):P:=h
def sv(sign sg z:Int):Int:=if sign=1 then sg+z else z
theorem uM(h:rZ p mn mx fb sp one inf sg nan)(md:Int)(sign z:Int)(sB U:Bool)(hs:sign=0/\z=inf\/sign=1/\z=sg+inf)(hsB:(sign==1)=sB)(hU:ru 0 sB O O O=U)(hz:1<=z)(hz1:z<18446744073709551616)(w:World):
  Ip p mn mx md 189 sign w (if U then z else z-1) 20:=by
 have HI:CZ p mn mx sign z:=fun w=>jM h sign z hs w;have HR:KW 189 #[Z sB,Z O,Z O,Z O] (Z U):=fun w=>hU▸tu sB O O O w;clear hU hs h;cases U
 ·go_enter func216,ntmps216;go_wp2_with (first
   |(go_at_call 197;refine(HI _).mono ?_;rintro e w1 ⟨rfl,ak⟩;have am4:aj w1 w.heap.size 4 (.func (.func 189) #[] #[]):=kq;obtain⟨fP,Ku,xJ,Kt⟩:iE w1 (w.heap.size+1) 0 1 (Y 0) (J 0):=⟨kq,kq,kq,kq⟩)
   |(go_at_call 189;refine kw (HR _) ?_))
  exact KT
 ·go_enter func216,ntmps216;go_wp2_with (first
   |(go_at_call 197;refine(HI _).mono ?_;rintro e w1 ⟨rfl,ak⟩;have am4:aj w1 w.heap.size 4 (.func (.func 189) #[] #[]):=kq;obtain⟨fP,Ku,xJ,Kt⟩:iE w1 (w.heap.size+1) 0 1 (Y 0) (J 0):=⟨kq,kq,kq,kq⟩)
   |(go_at_call 189;refine kw (HR _) ?_))
  exact KQ
theorem uO(h:rZ p mn mx fb sp one inf sg nan)(md:Int)(sign z:Int)(sB U:Bool)(hs:sign=0/\z=inf\/sign=1/\z=sg+inf)(hsB:(sign==1)=sB)(hU:ru 1 sB O O O=U)(hz:1<=z)(hz1:z<18446744073709551616)(w:World):
  Ip p mn mx md 190 sign w (if U then z else z-1) 20:=by
 have HI:CZ p mn mx sign z:=fun w=>jM h sign z hs w;have HR:KW 190 #[Z sB,Z O,Z O,Z O] (Z U):=fun w=>hU▸tH sB O O O w;clear hU hs h;cases U
 ·go_enter func216,ntmps216;go_wp2_with (first
   |(go_at_call 197;refine(HI _).mono ?_;rintro e w1 ⟨rfl,ak⟩;have am4:aj w1 w.heap.size 4 (.func (.func 190) #[] #[]):=kq;obtain⟨fP,Ku,xJ,Kt⟩:iE w1 (w.heap.size+1) 0 1 (Y 0) (J 0):=⟨kq,kq,kq,kq⟩)
   |(go_at_call 190;refine kw (HR _) ?_))
  exact KT
 ·go_enter func216,ntmps216;go_wp2_with (first
   |(go_at_call 197;refine(HI _).mono ?_;rintro e w1 ⟨rfl,ak⟩;have am4:aj w1 w.heap.size 4 (.func (.func 190) #[] #[]):=kq;obtain⟨fP,Ku,xJ,Kt⟩:iE w1 (w.heap.size+1) 0 1 (Y 0) (J 0):=⟨kq,kq,kq,kq⟩)
   |(go_at_call 190;refine kw (HR _) ?_))
  exact KQ
theorem wU(h:rZ p mn mx fb sp one inf sg nan)(md:Int)(sign z:Int)(sB U:Bool)(hs:sign=0/\z=inf\/sign=1/\z=sg+inf)(hsB:(sign==1)=sB)(hU:ru 2 sB O O O=U)(hz:1<=z)(hz1:z<18446744073709551616)(w:World):
  Ip p mn mx md 191 sign w (if U then z else z-1) 20:=by
 have HI:CZ p mn mx sign z:=fun w=>jM h sign z hs w;have HR:KW 191 #[Z sB,Z O,Z O,Z O] (Z U):=fun w=>hU▸uz sB O O O w;clear hU hs h;cases U
 ·go_enter func216,ntmps216;go_wp2_with (first
   |(go_at_call 197;refine(HI _).mono ?_;rintro e w1 ⟨rfl,ak⟩;have am4:aj w1 w.heap.size 4 (.func (.func 191) #[] #[]):=kq;obtain⟨fP,Ku,xJ,Kt⟩:iE w1 (w.heap.size+1) 0 1 (Y 0) (J 0):=⟨kq,kq,kq,kq⟩)
   |(go_at_call 191;refine kw (HR _) ?_))
  exact KT
 ·go_enter func216,ntmps216;go_wp2_with (first
   |(go_at_call 197;refine(HI _).mono ?_;rintro e w1 ⟨rfl,ak⟩;have am4:aj w1 w.heap.size 4 (.func (.func 191) #[] #[]):=kq;obtain⟨fP,Ku,xJ,Kt⟩:iE w1 (w.heap.size+1) 0 1 (Y 0) (J 0):=⟨kq,kq,kq,kq⟩)
   |(go_at_call 191;refine kw (HR _) ?_))
  exact KQ
theorem CS(h:rZ p mn mx fb sp one inf sg nan)(md:Int)(sign z:Int)(sB U:Bool)(hs:sign=0/\z=inf\/sign=1/\z=sg+inf)(hsB:(sign==1)=sB)(hU:ru 3 sB O O O=U)(hz:1<=z)(hz1:z<18446744073709551616)(w:World):
  Ip p mn mx md 192 sign w (if U then z else z-1) 20:=by
 have HI:CZ p mn mx sign z:=fun w=>jM h sign z hs w;have HR:KW 192 #[Z sB,Z O,Z O,Z O] (Z U):=fun w=>hU▸DL sB O O O w;clear hU hs h;cases U
 ·go_enter func216,ntmps216;go_wp2_with (first
   |(go_at_call 197;refine(HI _).mono ?_;rintro e w1 ⟨rfl,ak⟩;have am4:aj w1 w.heap.size 4 (.func (.func 192) #[] #[]):=kq;obtain⟨fP,Ku,xJ,Kt⟩:iE w1 (w.heap.size+1) 0 1 (Y 0) (J 0):=⟨kq,kq,kq,kq⟩)
   |(go_at_call 192;refine kw (HR _) ?_))
  exact KT
 ·go_enter func216,ntmps216;go_wp2_with (first
   |(go_at_call 197;refine(HI _).mono ?_;rintro e w1 ⟨rfl,ak⟩;have am4:aj w1 w.heap.size 4 (.func (.func 192) #[] #[]):=kq;obtain⟨fP,Ku,xJ,Kt⟩:iE w1 (w.heap.size+1) 0 1 (Y 0) (J 0):=⟨kq,kq,kq,kq⟩)
   |(go_at_call 192;refine kw (HR _) ?_))
  exact KQ
theorem y9(h:rZ p mn mx fb sp one inf sg nan)(md:Int)(sign z:Int)(sB U:Bool)(hs:sign=0/\z=inf\/sign=1/\z=sg+inf)(hsB:(sign==1)=sB)(hU:ru 4 sB O O O=U)(hz:1<=z)(hz1:z<18446744073709551616)(w:World):
  Ip p mn mx md 193 sign w (if U then z else z-1) 20:=by
 have HI:CZ p mn mx sign z:=fun w=>jM h sign z hs w;have HR:KW 193 #[Z sB,Z O,Z O,Z O] (Z U):=fun w=>hU▸zD sB O O O w;clear hU hs h;cases U
 ·go_enter func216,ntmps216;go_wp2_with (first
   |(go_at_call 197;refine(HI _).mono ?_;rintro e w1 ⟨rfl,ak⟩;have am4:aj w1 w.heap.size 4 (.func (.func 193) #[] #[]):=kq;obtain⟨fP,Ku,xJ,Kt⟩:iE w1 (w.heap.size+1) 0 1 (Y 0) (J 0):=⟨kq,kq,kq,kq⟩)
   |(go_at_call 193;refine kw (HR _) ?_))
  exact KT
 ·go_enter func216,ntmps216;go_wp2_with (first
   |(go_at_call 197;refine(HI _).mono ?_;rintro e w1 ⟨rfl,ak⟩;have am4:aj w1 w.heap.size 4 (.func (.func 193) #[] #[]):=kq;obtain⟨fP,Ku,xJ,Kt⟩:iE w1 (w.heap.size+1) 0 1 (Y 0) (J 0):=⟨kq,kq,kq,kq⟩)
   |(go_at_call 193;refine kw (HR _) ?_))
  exact KQ
theorem Jb(h:rZ p mn mx fb sp one inf sg nan)(md:Int)(mode:Int)(k:Nat)(hk:qC mode k)(sign:Int)(hs:sign=0\/sign=1)(w:World):
  Ip p mn mx md k sign w (sv sign sg (gu inf mode sign)) 20:=by
 have b:0<inf/\inf<sg/\sg<=9223372036854775808:=by rcases h with h|h<;>omega
 obtain⟨z,hz⟩:∃z,sign=0/\z=inf\/sign=1/\z=sg+inf:=by
  rcases hs with rfl|rfl
  ·exact⟨inf,.inl ⟨rfl,rfl⟩⟩
  ·exact⟨sg+inf,.inr ⟨rfl,rfl⟩⟩
 have fin:∀x w',(x=Ending.returned (aK (if ru mode (sign==1) O O O then z else z-1) 20)/\Gr w w')->(x=Ending.returned (aK (sv sign sg (gu inf mode sign)) 20)/\Gr w w'):=by
  rintro x w' ⟨rfl,hg⟩;refine⟨?_,hg⟩;have e:(if ru mode (sign==1) O O O then z else z-1)=sv sign sg (gu inf mode sign):=by
   rcases hz with⟨rfl,rfl⟩|⟨rfl,rfl⟩<;>rcases hk with⟨rfl,_⟩|⟨rfl,_⟩|⟨rfl,_⟩|⟨rfl,_⟩|⟨rfl,_⟩<;>simp[ru,sv,gu]<;>omega
  rw[e]
 rcases hk with⟨rfl,rfl⟩|⟨rfl,rfl⟩|⟨rfl,rfl⟩|⟨rfl,rfl⟩|⟨rfl,rfl⟩
 ·exact(uM h md sign z _ _ hz rfl rfl om om w).mono (fun x w' h=>fin x w' h)
 ·exact(uO h md sign z _ _ hz rfl rfl om om w).mono (fun x w' h=>fin x w' h)
 ·exact(wU h md sign z _ _ hz rfl rfl om om w).mono (fun x w' h=>fin x w' h)
 ·exact(CS h md sign z _ _ hz rfl rfl om om w).mono (fun x w' h=>fin x w' h)
 ·exact(y9 h md sign z _ _ hz rfl rfl om om w).mono (fun x w' h=>fin x w' h)
theorem dH(h:rZ p mn mx fb sp one inf sg nan)(w:World):
  QR 178 #[iQ p mn mx] w (aK nan 1):=by
 have HN:KR 199 #[iQ p mn mx] (Y nan):=fun w=>Dp h w;clear h;go_enter func178,ntmps178;go_wp2_with (go_at_call 199;refine(HN _).mono ?_;rintro e w1 ⟨rfl,ak⟩;obtain⟨fP,Ku,xJ,Kt⟩:iE w1 (w.heap.size+1) 0 1 (Y 0) (J 0):=⟨kq,kq,kq,kq⟩);exact bI (by simp[results,Tryz.results178,go_sem,fP,xJ])
theorem aHf(M:Nat)(hM:M<340282366920938463463374607431768211456):bl (M:Int)=(nb M:Int):=by
 unfold bl;by_cases h:(M:Int)/18446744073709551616=0
 ·rw[if_pos h];have e:((M:Int)%18446744073709551616).toNat =M:=om;rw[e,wK M (by omega)]
 ·rw[if_neg h];have e:((M:Int)/18446744073709551616).toNat =M/18446744073709551616:=om;have h2:=zl M 64 (by simp only[Nat.reducePow];omega);simp only[Nat.reducePow]at h2;rw[e,wK _ om,h2];omega
theorem W9(M:Nat)(hM:M<340282366920938463463374607431768211456)(w:World):
  QR 215 #[aG ((M/18446744073709551616:Nat):Int) ((M%18446744073709551616:Nat):Int)] w (J (128-(nb M:Int))):=by
 have e0:((M/18446744073709551616:Nat):Int)*18446744073709551616+((M%18446744073709551616:Nat):Int)=(M:Int):=om;have:=Gu ((M/18446744073709551616:Nat):Int) ((M%18446744073709551616:Nat):Int) om om om om w;rw[aFz _ _ om om om om,e0,aHf M hM]at this;exact this
theorem aAV(m0:-1022<=mn)(m1:mn<=0)(md:Int)(k:Nat)(top sign e mh ml:Int)(sticky:Bool)(hne:(top==mn-1)=false)(w:World):
  QR 217 #[dP p mn mx md k,J top,J sign,J e,aG mh ml,Z sticky] w (Z (decide (top<mn))):=by
 go_enter func217,ntmps217;go_wp2;go_returns;exact⟨rfl,kr⟩
theorem aAW(h:rZ p mn mx fb sp one inf sg nan)(md:Int)(k:Nat)(top sign e mh ml a1 dr r2:Int)(sticky b2 tb:Bool)(htop:top=mn-1)(e0:-200000<=e)(e1:e<=200000)(ha:top-fb=a1)(hdr:a1-e=dr)(r0:0<=r2)(r1:r2<18446744073709551616)(htb:tb=decide (r2<2*one))
  (HAt:J4 k dr sign mh ml sticky r2 b2) (w:World):
  QR 217 #[dP p mn mx md k,J top,J sign,J e,aG mh ml,Z sticky] w (Z tb):=by
 have HF:J3 p mn mx fb:=fun w=>qw h w;have tb2:-2000<=top/\top<=0:=by rcases h with h|h<;>omega
 have u1:IntKind.i64.wrap (top-fb)=a1:=by rw[ha];exact wL _ (by rcases h with h|h<;>omega) (by rcases h with h|h<;>omega)
 have u2:IntKind.i64.wrap (a1-e)=dr:=by rw[hdr];exact wL _ (by rcases h with h|h<;>omega) (by rcases h with h|h<;>omega)
 have HT:Hid (tb=decide (r2<2*one)):=htb;clear ha hdr htb;rcases h with⟨rfl,rfl,rfl,rfl,rfl,rfl,rfl,rfl,rfl⟩|⟨rfl,rfl,rfl,rfl,rfl,rfl,rfl,rfl,rfl⟩
 ·have heq:(top== -127)=O:=by simp;omega
  clear htop;go_enter func217,ntmps217;go_wp2;go_region_held3 (fun w'=>aj w' w.heap.size 0 (J 24)/\aj w' w.heap.size 1 (J (-126))/\aj w' w.heap.size 2 (J 127)/\aj w' w.heap.size 3 (J md)/\aj w' w.heap.size 4 (.func (.func k) #[] #[])/\aj w' (w.heap.size+1) 0 (Y mh)/\aj w' (w.heap.size+1) 1 (Y ml))
   ((go_split_ands;(repeat' apply And.intro)<;>exact kl))
   (first
    |(go_at_call 194;refine(HF _).mono ?_;rintro e w1 ⟨rfl,ak⟩;have aG0:=ak.cells;have aGX:=ak.dK;have Zq:=ak.size;(try simp only[World.size_alloc,World.size_drew,World.size_setCell]at Zq))
    |(go_at_call 157;refine(HAt _).mono ?_;rintro e w2 ⟨rfl,aA⟩;have ZB:=aA.cells;have Zz:=aA.dK;have EU:=aA.size;(try simp only[World.size_alloc,World.size_drew,World.size_setCell]at EU)))
  all_goals (try go_split_ands)
  all_goals go_wp2
  all_goals go_returns
  all_goals
   refine⟨bJ (congrArg Value.bool ?_),kr⟩;rw[HT.out];first
    |(rw[Bool.eq_iff_iff];simp;omega)
    |(by_cases c:r2<16777216<;>first|(rw[decide_eq_true (by omega)];simp;omega)|(rw[decide_eq_false (by omega)];simp;omega))
 ·have heq:(top== -1023)=O:=by simp;omega
  clear htop;go_enter func217,ntmps217;go_wp2;go_region_held3 (fun w'=>aj w' w.heap.size 0 (J 53)/\aj w' w.heap.size 1 (J (-1022))/\aj w' w.heap.size 2 (J 1023)/\aj w' w.heap.size 3 (J md)/\aj w' w.heap.size 4 (.func (.func k) #[] #[])/\aj w' (w.heap.size+1) 0 (Y mh)/\aj w' (w.heap.size+1) 1 (Y ml))
   ((go_split_ands;(repeat' apply And.intro)<;>exact kl))
   (first
    |(go_at_call 194;refine(HF _).mono ?_;rintro e w1 ⟨rfl,ak⟩;have aG0:=ak.cells;have aGX:=ak.dK;have Zq:=ak.size;(try simp only[World.size_alloc,World.size_drew,World.size_setCell]at Zq))
    |(go_at_call 157;refine(HAt _).mono ?_;rintro e w2 ⟨rfl,aA⟩;have ZB:=aA.cells;have Zz:=aA.dK;have EU:=aA.size;(try simp only[World.size_alloc,World.size_drew,World.size_setCell]at EU)))
  all_goals (try go_split_ands)
  all_goals go_wp2
  all_goals go_returns
  all_goals
   refine⟨bJ (congrArg Value.bool ?_),kr⟩;rw[HT.out];first
    |(rw[Bool.eq_iff_iff];simp;omega)
    |(by_cases c:r2<9007199254740992<;>first|(rw[decide_eq_true (by omega)];simp;omega)|(rw[decide_eq_false (by omega)];simp;omega))
theorem aDs{P:Prop}(h:P:=by
 clear hL hk hg;rcases h with⟨rfl,rfl,rfl,rfl,rfl,rfl,rfl,rfl,rfl⟩|⟨rfl,rfl,rfl,rfl,rfl,rfl,rfl,rfl,rfl⟩
 ·have v1:IntKind.i64.wrap (-126)=-126:=de;have v2:IntKind.i64.wrap (-149)=-149:=de;have v3:IntKind.i64.wrap (-149-k)=-149-k:=wL _ om om;go_enter func198,ntmps198;go_wp2_with (go_at_call 194;refine(HF _).mono ?_;rintro e w3 ⟨rfl,aF⟩;obtain⟨r0,r1,r2⟩:oO w3 w.heap.size 0 1 2 (J 24) (J (-126)) (J 127):=⟨kq,kq,kq⟩;obtain⟨r3,r4,r5,r6⟩:oN w3 (w.heap.size+1) 0 1 2 3 (J 0) (J 0) (J 0) (Y 0):=⟨kq,kq,kq,kq⟩;have z3:bK w3 (w.heap.size+1) 0:=kq;have z4:bK w3 (w.heap.size+1) 1:=kq;have z5:bK w3 (w.heap.size+1) 2:=kq;have z6:bK w3 (w.heap.size+1) 3:=kq);go_region_held3 (fun w'=>aj w' w.heap.size 0 (J 24)/\aj w' w.heap.size 1 (J (-126))/\aj w' w.heap.size 2 (J 127)/\aj w' (w.heap.size+1) 0 (J 0)/\aj w' (w.heap.size+1) 1 (J 0)/\aj w' (w.heap.size+1) 2 (J 0)/\aj w' (w.heap.size+1) 3 (Y 0)/\bK w' (w.heap.size+1) 0/\bK w' (w.heap.size+1) 1/\bK w' (w.heap.size+1) 2/\bK w' (w.heap.size+1) 3)
   ((go_split_ands;(repeat' apply And.intro)<;>exact kl))
   (first
    |(go_at_call 194;refine(HF _).mono ?_;rintro e w5 ⟨rfl,aT⟩;have aGZ:=aT.cells;have aGW:=aT.dK;have Zp:=aT.size;(try simp only[World.size_alloc,World.size_drew,World.size_setCell]at Zp))
    |(go_at_call 219;refine(HL _).mono ?_;rintro e w6 ⟨rfl,hw⟩;rw[hw];clear hw))
  all_goals go_wp2
  go_region_held3 (fun w'=>aj w' w.heap.size 0 (J 24)/\aj w' w.heap.size 1 (J (-126))/\aj w' w.heap.size 2 (J 127))
   ((go_split_ands;(repeat' apply And.intro)<;>exact kl))
   (first
    |(go_at_call 194;refine(HF _).mono ?_;rintro e w7 ⟨rfl,fQ⟩;have aGY:=fQ.cells;have aGV:=fQ.dK;have Zo:=fQ.size;(try simp only[World.size_alloc,World.size_drew,World.size_setCell]at Zo);have s0:aj w7 (w.heap.size+1) 0 (J 0):=(by go_split_ands;exact kq);have y0:bK w7 (w.heap.size+1) 0:=(by go_split_ands;exact kq);have s1:aj w7 (w.heap.size+1) 1 (J 0):=(by go_split_ands;exact kq);have y1:bK w7 (w.heap.size+1) 1:=(by go_split_ands;exact kq);have s2:aj w7 (w.heap.size+1) 2 (J 0):=(by go_split_ands;exact kq);have y2:bK w7 (w.heap.size+1) 2:=(by go_split_ands;exact kq);have s3:aj w7 (w.heap.size+1) 3 (Y 0):=(by go_split_ands;exact kq);have y3:bK w7 (w.heap.size+1) 3:=(by go_split_ands;exact kq))
    |(go_at_call 219;refine(HL _).mono ?_;rintro e w8 ⟨rfl,hw⟩;rw[hw];clear hw))
  all_goals go_wp2
  all_goals
   exact bI (by simp[results,Tryz.results198,go_sem,s0,s1,s2,s3])
 ·have v1:IntKind.i64.wrap (-1022)=-1022:=de;have v2:IntKind.i64.wrap (-1074)=-1074:=de;have v3:IntKind.i64.wrap (-1074-k)=-1074-k:=wL _ om om;go_enter func198,ntmps198;go_wp2_with (go_at_call 194;refine(HF _).mono ?_;rintro e w3 ⟨rfl,aF⟩;obtain⟨r0,r1,r2⟩:oO w3 w.heap.size 0 1 2 (J 53) (J (-1022)) (J 1023):=⟨kq,kq,kq⟩;obtain⟨r3,r4,r5,r6⟩:oN w3 (w.heap.size+1) 0 1 2 3 (J 0) (J 0) (J 0) (Y 0):=⟨kq,kq,kq,kq⟩;have z3:bK w3 (w.heap.size+1) 0:=kq;have z4:bK w3 (w.heap.size+1) 1:=kq;have z5:bK w3 (w.heap.size+1) 2:=kq;have z6:bK w3 (w.heap.size+1) 3:=kq);go_region_held3 (fun w'=>aj w' w.heap.size 0 (J 53)/\aj w' w.heap.size 1 (J (-1022))/\aj w' w.heap.size 2 (J 1023)/\aj w' (w.heap.size+1) 0 (J 0)/\aj w' (w.heap.size+1) 1 (J 0)/\aj w' (w.heap.size+1) 2 (J 0)/\aj w' (w.heap.size+1) 3 (Y 0)/\bK w' (w.heap.size+1) 0/\bK w' (w.heap.size+1) 1/\bK w' (w.heap.size+1) 2/\bK w' (w.heap.size+1) 3)
   ((go_split_ands;(repeat' apply And.intro)<;>exact kl))
   (first
    |(go_at_call 194;refine(HF _).mono ?_;rintro e w5 ⟨rfl,aT⟩;have aGZ:=aT.cells;have aGW:=aT.dK;have Zp:=aT.size;(try simp only[World.size_alloc,World.size_drew,World.size_setCell]at Zp))
    |(go_at_call 219;refine(HL _).mono ?_;rintro e w6 ⟨rfl,hw⟩;rw[hw];clear hw))
  all_goals go_wp2
  go_region_held3 (fun w'=>aj w' w.heap.size 0 (J 53)/\aj w' w.heap.size 1 (J (-1022))/\aj w' w.heap.size 2 (J 1023))
   ((go_split_ands;(repeat' apply And.intro)<;>exact kl))
   (first
    |(go_at_call 194;refine(HF _).mono ?_;rintro e w7 ⟨rfl,fQ⟩;have aGY:=fQ.cells;have aGV:=fQ.dK;have Zo:=fQ.size;(try simp only[World.size_alloc,World.size_drew,World.size_setCell]at Zo);have s0:aj w7 (w.heap.size+1) 0 (J 0):=(by go_split_ands;exact kq);have y0:bK w7 (w.heap.size+1) 0:=(by go_split_ands;exact kq);have s1:aj w7 (w.heap.size+1) 1 (J 0):=(by go_split_ands;exact kq);have y1:bK w7 (w.heap.size+1) 1:=(by go_split_ands;exact kq);have s2:aj w7 (w.heap.size+1) 2 (J 0):=(by go_split_ands;exact kq);have y2:bK w7 (w.heap.size+1) 2:=(by go_split_ands;exact kq);have s3:aj w7 (w.heap.size+1) 3 (Y 0):=(by go_split_ands;exact kq);have y3:bK w7 (w.heap.size+1) 3:=(by go_split_ands;exact kq))
    |(go_at_call 219;refine(HL _).mono ?_;rintro e w8 ⟨rfl,hw⟩;rw[hw];clear hw))
  all_goals go_wp2
  all_goals
   exact bI (by simp[results,Tryz.results198,go_sem,s0,s1,s2,s3])):P:=h
theorem JF(h:rZ p mn mx fb sp one inf sg nan)(s c:Int)(c0:0<=c)(c1:c<one)(L:Int)(k:Nat)(hL:(Go.Lib.bitLen c.toNat:Int)=L)(hk:p-L=(k:Int))(k1:k<=53)(g:Int)(hg:c*2^k=g)(g0:0<=g)(g1:g<9007199254740992)(w:World):
  QR 198 #[iQ p mn mx,J s,Y c] w (eH 1 s (mn-fb-k) g):=by
 have c2:c<9007199254740992:=by rcases h with h|h<;>omega
 have HF:J3 p mn mx fb:=fun w=>qw h w;have HL:Hid (∀w,CT 219 #[Y c] w fun e w'=>e=.returned (J L)/\w'=w):=fun w=>hL▸vZ c c0 om w;have u1:IntKind.i64.wrap (p-L)=(k:Int):=by rw[hk];exact wL _ om om
 have u2:IntKind.u64.wrap (c*2^k)=g:=by rw[hg];exact wu64 _ g0 om
 have u6:¬(k:Int)<0:=om;have hd:c/one=0:=Int.ediv_eq_zero_of_lt c0 c1;have hmax:max (-1:Int) 0=0:=de;have u4:IntKind.i64.wrap (mn-fb)=mn-fb:=wL _ (by rcases h with h|h<;>omega) (by rcases h with h|h<;>omega);have u5:IntKind.i64.wrap (mn-fb-k)=mn-fb-k:=wL _ (by rcases h with h|h<;>omega) (by rcases h with h|h<;>omega);exact aDs
theorem Rk(h:rZ p mn mx fb sp one inf sg nan)(s mag q c:Int)(q0:0<=q)(hd:mag/one=q+1)(m0:0<=mag)(m1:mag<inf)(hc:mag-q*one=c)(c0:0<=c)(c2:c<9007199254740992)(L:Int)(k:Nat)(hL:(Go.Lib.bitLen c.toNat:Int)=L)(hk:p-L=(k:Int))(k1:k<=53)(g:Int)(hg:c*2^k=g)(g0:0<=g)(g1:g<9007199254740992)(w:World):
  QR 198 #[iQ p mn mx,J s,Y mag] w (eH 1 s (mn+q-fb-k) g):=by
 have HF:J3 p mn mx fb:=fun w=>qw h w;have HL:Hid (∀w,CT 219 #[Y c] w fun e w'=>e=.returned (J L)/\w'=w):=fun w=>hL▸vZ c c0 om w;have u1:IntKind.i64.wrap (p-L)=(k:Int):=by rw[hk];exact wL _ om om
 have u2:IntKind.u64.wrap (c*2^k)=g:=by rw[hg];exact wu64 _ g0 om
 have u6:¬(k:Int)<0:=om;have q1:q<10000:=by rcases h with⟨rfl,rfl,rfl,rfl,rfl,rfl,rfl,rfl,rfl⟩|⟨rfl,rfl,rfl,rfl,rfl,rfl,rfl,rfl,rfl⟩<;>omega
 have hmax:max q 0=q:=om;have u3:IntKind.i64.wrap (mn+q)=mn+q:=wL _ (by rcases h with h|h<;>omega) (by rcases h with h|h<;>omega);have u4:IntKind.i64.wrap (mn+q-fb)=mn+q-fb:=wL _ (by rcases h with h|h<;>omega) (by rcases h with h|h<;>omega);have u5:IntKind.i64.wrap (mn+q-fb-k)=mn+q-fb-k:=wL _ (by rcases h with h|h<;>omega) (by rcases h with h|h<;>omega);exact aDs
theorem aFU(r:Nat)(h:r<2^63):r^^^2^63=r+2^63:=by
 apply Nat.eq_of_testBit_eq;intro i;rw[Nat.testBit_xor,Nat.testBit_two_pow,Nat.add_comm];rcases Nat.lt_trichotomy i 63 with c|c|c
 ·rw[Nat.testBit_two_pow_add_gt c,decide_eq_false (show ¬63=i by omega),Bool.xor_false]
 ·subst c;rw[Nat.testBit_two_pow_add_eq];simp[Nat.testBit_lt_two_pow h]
 ·have h1:r<2^i:=Nat.lt_of_lt_of_le h (Nat.pow_le_pow_right de om);have h2:2^63+r<2^i:=Nat.lt_of_lt_of_le (show 2^63+r<2^64 by omega) (Nat.pow_le_pow_right de om);rw[Nat.testBit_lt_two_pow h1,Nat.testBit_lt_two_pow h2,decide_eq_false (show ¬63=i by omega)];rfl
theorem aHM(a:Nat)(h:2^63<=a)(h2:a<2^64):a^^^2^63=a-2^63:=by
 have:=aFU (a-2^63) om;rw[show a-2^63+2^63=a by omega]at this;have e:a^^^2^63=(a-2^63^^^2^63)^^^2^63:=by rw[this]
 rw[e,Nat.xor_assoc,Nat.xor_self,Nat.xor_zero]
theorem W_(ha:Wd a):bits .xor .u64 a 9223372036854775808=nO a:=by
 obtain⟨n,rfl⟩:=Int.eq_ofNat_of_zero_le ha.1;have hn:n<18446744073709551616:=by have:=ha.2;omega
 have h:=bits_xor_u64_nat n 9223372036854775808 hn om;refine h.trans ?_;unfold nO;split
 ·rw[show n^^^9223372036854775808=n+9223372036854775808 from aFU n (by omega)];omega
 ·rw[show n^^^9223372036854775808=n-9223372036854775808 from aHM n om (by omega)];omega
theorem GR:∀(z fl:Int) (w:World),(Instr.field 56 (aK z fl) 0).run Tryz.prog w=.ok (Y z) w:=fun z fl w=>by kernel_rfl
theorem I_(H:o.I)(ha:Wd a)(hb:Wd b)(hw:Fm w):
  QR 146 #[Y a,Y b] w (Y (o.add a b)):=by
 have hf:=GR;have HA:=(H.add ha hb);generalize o.add a b=z at*
 clear ha hb H;go_enter func146,ntmps146;go_wp2_with (go_at_call 186;refine(HA _ hw).mono ?_;rintro e w1 ⟨fl,rfl,ak⟩);go_returns;exact⟨rfl,kr⟩
theorem Tz(H:o.I)(ha:Wd a)(hb:Wd b)(hw:Fm w):
  QR 66 #[Y a,Y b] w (Y (o.sub a b)):=by
 have hf:=GR;have HA:=(H.sub ha hb);generalize o.sub a b=z at*
 clear ha hb H;go_enter func66,ntmps66;go_wp2_with (go_at_call 134;refine(HA _ hw).mono ?_;rintro e w1 ⟨fl,rfl,ak⟩);go_returns;exact⟨rfl,kr⟩
theorem IV(H:o.I)(ha:Wd a)(hb:Wd b)(hw:Fm w):
  QR 67 #[Y a,Y b] w (Y (o.mul a b)):=by
 have hf:=GR;have HA:=(H.mul ha hb);generalize o.mul a b=z at*
 clear ha hb H;go_enter func67,ntmps67;go_wp2_with (go_at_call 135;refine(HA _ hw).mono ?_;rintro e w1 ⟨fl,rfl,ak⟩);go_returns;exact⟨rfl,kr⟩
theorem Ut(H:o.I)(ha:Wd a)(hb:Wd b)(hw:Fm w):
  QR 169 #[Y a,Y b] w (Y (o.div a b)):=by
 have hf:=GR;have HA:=(H.div ha hb);generalize o.div a b=z at*
 clear ha hb H;go_enter func169,ntmps169;go_wp2_with (go_at_call 206;refine(HA _ hw).mono ?_;rintro e w1 ⟨fl,rfl,ak⟩);go_returns;exact⟨rfl,kr⟩
theorem Yp(H:o.I)(ha:Wd a)(hw:Fm w):
  QR 168 #[Y a] w (Y (o.sqrt a)):=by
 have hf:=GR;have HA:=(H.sqrt ha);generalize o.sqrt a=z at*
 clear ha H;go_enter func168,ntmps168;go_wp2_with (go_at_call 205;refine(HA _ hw).mono ?_;rintro e w1 ⟨fl,rfl,ak⟩);go_returns;exact⟨rfl,kr⟩
theorem yY(ha:Wd a)(hw:Fm w):
  QR 170 #[Y a] w (Y (nO a)):=by
 obtain⟨p,mx,one,inf,sg,nan,hF⟩:∃p mx one inf sg nan,aP 1 p mx one inf sg nan:=⟨_,_,_,_,_,_,.inr ⟨rfl,rfl,rfl,rfl,rfl,rfl,rfl⟩⟩;obtain⟨mn,fb,sp,hM,hmn,hfb⟩:=hF.m;rcases hF with⟨h,_⟩|⟨_,rfl,rfl,rfl,rfl,rfl,rfl⟩
 ·omega
 subst hmn;have HZ:RN 53 (-1022) 1023 1 9223372036854775808:=fun w=>jc hM 1 _ (.inr ⟨rfl,rfl⟩) w;obtain⟨c0,c1,c2,c3,c4,c5⟩:=hw;clear hM;go_enter func170,ntmps170;go_wp2_with (go_at_call 177;refine ku (HZ _) fun w1 ak=>?_);go_returns;exact⟨bJ (by simp[go_sem];exact W_ ha),kr⟩
theorem Fq(H:o.I)(HI:o.In)(ha1:Wd a1)(ha2:Wd a2)(hb1:Wd b1)(hb2:Wd b2)(hw:Fm w):
  QR 79 #[aG a1 a2,aG b1 b2] w (aG (o.sub (o.mul a1 b1) (o.mul a2 b2)) (o.add (o.mul a1 b2) (o.mul a2 b1))):=by
 have h11:=HI.mul ha1 hb1;have h22:=HI.mul ha2 hb2;have h12:=HI.mul ha1 hb2;have h21:=HI.mul ha2 hb1;have HT:Hid (∀a b,Wd a->Wd b->∀w',Gr w w'->QR 67 #[Y a,Y b] w' (Y (o.mul a b))):=fun a b ha hb w' hg=>IV H ha hb (hw.gr hg);have HM:Hid (∀w',Gr w w'->QR 66 #[Y (o.mul a1 b1),Y (o.mul a2 b2)] w' (Y (o.sub (o.mul a1 b1) (o.mul a2 b2)))):=fun w' hg=>Tz H h11 h22 (hw.gr hg);have HP:Hid (∀w',Gr w w'->QR 146 #[Y (o.mul a1 b2),Y (o.mul a2 b1)] w' (Y (o.add (o.mul a1 b2) (o.mul a2 b1)))):=fun w' hg=>I_ H h12 h21 (hw.gr hg);clear h11 h22 h12 h21 H HI hw;go_enter func79,ntmps79;go_wp2;go_region_held3 (fun w'=>aj w' w.heap.size 0 (Y a1)/\aj w' w.heap.size 1 (Y a2)/\aj w' (w.heap.size+1) 0 (Y b1)/\aj w' (w.heap.size+1) 1 (Y b2))
  (exact kZ)
  (first
   |(go_at_call 67;with_reducible refine ku (HT.out _ _ (by assumption) (by assumption) _ kr) fun w1 ak=>?_;have:=ak.yF w;have:=ak.Iu w;have kK:=ak.JV w)
   |(go_at_call 66;with_reducible refine ku (HM.out _ kr) fun w1 ak=>?_;have:=ak.yF w;have:=ak.Iu w;have kK:=ak.JV w)
   |(go_at_call 146;with_reducible refine ku (HP.out _ kr) fun w1 ak=>?_;have:=ak.yF w;have:=ak.Iu w;have kK:=ak.JV w))
 all_goals
  go_wp2;exact bI (by simp[results,Tryz.results79,go_sem,kK])
theorem mO(ty t:TypeId)(z:Value)(size bytes:Nat)(hty:Tryz.prog.underlying ty=some (.slice t))(oP:(Tryz.prog.info? t).map (fun i=>(i.zero,i.size,i.bytes))=some (some z,size,bytes))(hby:bytes<=1000)(n:Nat)(hn:n<=10000000)(w:World):
  (Instr.makeSlice ty (J (n:Int)) (J (n:Int))).run Tryz.prog w=.ok (aB w.heap.size n n) (w.alloc (.cells (madeCells z.cells (n*size)) t)):=by
 obtain⟨i,hi,hz,hs,hb⟩:=info_parts oP;have hb':(i.bytes:Int)*(n:Int)<=281474976710656:=by
  have h:i.bytes*n<=1000*10000000:=Nat.mul_le_mul om hn;have h':((i.bytes*n:Nat):Int)<=281474976710656:=om
  rwa [Int.natCast_mul]at h'
 have hr:=run_make (P:=Tryz.prog) w ty t i z hty hi hz .i64 .i64 n n om (Int.le_refl _) hb' om;simp only[Int.toNat_natCast,hs]at hr;exact hr
theorem Vw(z:Array Value)(k:IntKind)(hz:∀j,z[j%z.size]! =.int k 0)(m:Nat):(madeCells z m).toList =uv k m (fun _=>0):=by
 unfold madeCells uv;simp[hz]
theorem Ow.made(w:World)(t:TypeId)(size:Nat)(z:Array Value)(k:IntKind)(hz:∀j,z[j%z.size]! =.int k 0)(n:Nat)(hn:n<=10000000):Ow (w.alloc (.cells (madeCells z (n*size)) t)) w.heap.size t size k (aB w.heap.size n n) n (fun _=>0):=by
 have:=World.ownsRow_lit (base:=w.heap.size) (e:=t) (size:=size) w (madeCells z (n*size)) n (Nat.le_refl _) (by unfold maxLen;omega) (size_madeCells _ _);rw[Vw z k hz]at this;exact this
theorem z1(k:IntKind):∀j,(#[Value.int k 0])[j%(#[Value.int k 0]).size]! =.int k 0:=fun j=>by
 have:j%(#[Value.int k 0]).size =0:=Nat.mod_one j;rw[this];rfl
theorem z2(k:IntKind):∀j,(#[Value.int k 0,.int k 0])[j%(#[Value.int k 0,.int k 0]).size]! =.int k 0:=fun j=>by
 rcases(show j%2=0\/j%2=1 by omega)with e|e
 ·show(#[Value.int k 0,.int k 0])[j%2]! =_;rw[e];rfl
 ·show(#[Value.int k 0,.int k 0])[j%2]! =_;rw[e];rfl
