import Derived.Test.YthoelefkjpjhfaaGreatDoorK2
import Derived.Laws.EntriesVeiled
import Derived.Test.YthoelefkjpjhfaaGreatDoorRows
import Derived.Laws.Bits64
import Derived.Laws.MakeOwn
import Derived.Deep.OwnRows
set_option linter.all false
set_option maxRecDepth 1000000
set_option maxHeartbeats 40000000
open Bool renaming true → O
open Go.Proofs.YthoelefkjpjhfaaGreatDoor renaming vI → J, vU → Y
open Go.Value renaming bool → Z
open Go.Proofs.Tryz
namespace Go.Proofs.YthoelefkjpjhfaaGreatDoor
open Go.RowKit
attribute [local go_sem] aB dL
variable {p mn mx fb sp one aN sg nan a b a1 a2 b1 b2:Int}{w:ak}{o:Ops}
def ru(aj:Int)(neg odd half rest:Bool):Bool:=if aj=0 then half&&(odd||rest)else if aj=1 then half else if aj=2 then false else if aj=3 then !neg&&(half||rest)else neg&&(half||rest)
def zT(aj:Int)(k:Nat):Prop:=aj=0/\k=185\/aj=1/\k=294\/aj=2/\k=295\/aj=3/\k=296\/aj=4/\k=297
def uw(a b c d:Bool)(w:ak):QW 185 #[Z a,Z b,Z c,Z d] w (Z (ru 0 a b c d)):=by
 cases a<;>cases b<;>cases c<;>cases d;all_goals
  go_enter func185,ntmps185;go_wp2;go_returns;exact⟨rfl,rfl⟩
def zX(a b c d:Bool)(w:ak):QW 294 #[Z a,Z b,Z c,Z d] w (Z (ru 1 a b c d)):=by
 cases a<;>cases b<;>cases c<;>cases d;all_goals
  go_enter func294,ntmps294;go_wp2;go_returns;exact⟨rfl,rfl⟩
def AQ(a b c d:Bool)(w:ak):QW 295 #[Z a,Z b,Z c,Z d] w (Z (ru 2 a b c d)):=by
 cases a<;>cases b<;>cases c<;>cases d;all_goals
  go_enter func295,ntmps295;go_wp2;go_returns;exact⟨rfl,rfl⟩
def Nj(a b c d:Bool)(w:ak):QW 296 #[Z a,Z b,Z c,Z d] w (Z (ru 3 a b c d)):=by
 cases a<;>cases b<;>cases c<;>cases d;all_goals
  go_enter func296,ntmps296;go_wp2;go_returns;exact⟨rfl,rfl⟩
def FU(a b c d:Bool)(w:ak):QW 297 #[Z a,Z b,Z c,Z d] w (Z (ru 4 a b c d)):=by
 cases a<;>cases b<;>cases c<;>cases d;all_goals
  go_enter func297,ntmps297;go_wp2;go_returns;exact⟨rfl,rfl⟩
def iI(aj:Int)(k:Nat)(h:zT aj k)(w:ak):
  QR 237 #[J aj] w (.tuple #[.func (.func k) #[] #[],Z O]):=by
 rcases h with⟨rfl,rfl⟩|⟨rfl,rfl⟩|⟨rfl,rfl⟩|⟨rfl,rfl⟩|⟨rfl,rfl⟩
 all_goals
  go_enter func237,ntmps237;go_wp2;go_returns;exact⟨rfl,kr⟩
def lG(aj:Int)(h:aj<0\/4<aj)(w:ak):
  QR 237 #[J aj] w (.tuple #[Value.nilFunc,Z false]):=by
 rcases h with c|c
 all_goals
  go_enter func237,ntmps237;go_wp2;go_returns;exact⟨rfl,kr⟩
def aLb(a b c d:Int)(w:ak):(Op.equalIn 10000 257 (aS a b) (aS c d)).run prog w=.ok (a==c&&b==d) w:=by
 have u3:=underlying71;have a3:=isAgg71;have z3:=sizeOf71;rw[show(10000:Nat)=9999+1 from rfl,Op.equalIn];simp only[Sem.run_bind,run_underlying underlying257,Result.andThen_ok];simp only[Std.Legacy.Range.forIn_eq_forIn_range',Std.Legacy.Range.size,Nat.sub_zero,Nat.add_sub_cancel,Nat.div_one,List.range'_succ,List.range'_zero,List.forIn_cons,List.forIn_nil];go_simp;by_cases h1:a=c<;>by_cases h2:b=d<;>simp[h1,h2]
def LC(h l n A B:Int)(r:Bool)(Tc:0<=h)(hl0:0<=l)(hh1:aI h)(qZ:aI l)
  (HL:∀w,QR 302 #[aS (lF h l (bnd n).toNat) (lY h l (bnd n).toNat),J n] w (aS A B))
  (hc:(l=A/\h=B/\r=false)\/((A==l)=false/\r=O)\/(l=A/\(B==h)=false/\r=O)) (w:ak):
  QR 244 #[aS h l,J n] w (.tuple #[aS (lY h l (bnd n).toNat) (lF h l (bnd n).toNat),Z r]):=by
 have HLL:Hid _:=HL;clear HL;have hq:=aLb A B l h;rcases hc with⟨rfl,rfl,rfl⟩|⟨hA,rfl⟩|⟨rfl,hB,rfl⟩
 all_goals simp only[*,BEq.rfl,Bool.and_true,Bool.true_and,Bool.and_false,Bool.false_and]at hq
 all_goals
  go_enter func244,ntmps244;go_wp2_with (first|(go_at_call 300;refine(sW _ _ _).mono ?_;rintro e w1 ⟨rfl,c1,c2,rfl⟩)|(go_at_call 301;refine(aEf _ _ n hl0 Tc qZ hh1 _).mono ?_;rintro e w2 ⟨rfl,aC⟩;have aIf:=aC.cells;have aIb:=aC.eY;have O6:=aC.size;(try simp only[dV,jg,jW]at O6)))
  go_region_held3 (λw'=>lW w' w2.heap.size 0 1 (Y (lF h l (bnd n).toNat)) (Y (lY h l (bnd n).toNat))/\lW w' (w.heap.size+1+1+1+1) 0 1 (Y l) (Y h))((go_split_ands;(repeat' apply And.intro)<;>exact kl))(first|(go_at_call 248;refine(aB0 _ _ _).mono ?_;rintro e w3 ⟨rfl,aO⟩;have DJ:=aO.cells;have DF:=aO.eY;have oO:=aO.size;(try simp only[dV,jg,jW]at oO))|(go_at_call 302;refine(HLL _).mono ?_;rintro e w4 ⟨rfl,bg⟩;have q0:aB w4 (w.heap.size+1) 0 (Y 0):=(by go_split_ands;exact kl);have q1:aB w4 (w.heap.size+1) 1 (Y 0):=(by go_split_ands;exact kl);have z0:dL w4 (w.heap.size+1) 0:=(by go_split_ands;exact kl);have z1:dL w4 (w.heap.size+1) 1:=(by go_split_ands;exact kl)))
 all_goals go_wp2
 all_goals
  exact cO (by simp[results,results244,go_sem,q0,q1])
def AX(h l n:Int)(Tc:0<=h)(hl0:0<=l)(hh1:aI h)(qZ:aI l)(w:ak):
  QR 244 #[aS h l,J n] w (.tuple #[aS (lY h l (bnd n).toNat) (lF h l (bnd n).toNat),Z (lU h l (bnd n).toNat)]):=by
 obtain⟨aIj,k0,k1,k2,k3⟩:=aEv h l (bnd n).toNat Tc hl0 hh1 qZ;refine LC h l n _ _ _ Tc hl0 hh1 qZ (λw=>Yf _ _ n k2 k0 k3 k1 w) ?_ w;generalize tq (lY h l (bnd n).toNat) (lF h l (bnd n).toNat) (bnd n).toNat =A at*
 generalize tu (lY h l (bnd n).toNat) (lF h l (bnd n).toNat) (bnd n).toNat =B at*
 generalize lU h l (bnd n).toNat =r at*
 by_cases hA:A=l
 .by_cases hB:B=h
  .exact .inl ⟨hA.symm,hB.symm,aIj.mp ⟨hB,hA⟩⟩
  .refine .inr (.inr ⟨hA.symm,by simp[hB],?_⟩);cases r
   .exact bG (aIj.mpr rfl).1 hB
   .rfl
 .refine .inr (.inl ⟨by simp[hA],?_⟩);cases r
  .exact bG (aIj.mpr rfl).2 hA
  .rfl
def Zb(M k:Nat):(M:Int)/2^k=((M/2^k:Nat):Int):=by rw[Int.natCast_ediv,FH];rfl
def aIU(M k:Nat):(M:Int)%2^k=((M%2^k:Nat):Int):=by rw[Int.natCast_emod,FH];rfl
def cast_mul(M k:Nat):(M:Int)*2^k=((M*2^k:Nat):Int):=by rw[FI,FH];rfl
def aN0(M:Nat)(hM:M<340282366920938463463374607431768211456)(n:Nat)(w:ak):
  QR 244 #[iK M,J n] w (.tuple #[iK (M/2^n),Z (decide (M%2^n≠0))]):=by
 have e0:((M/18446744073709551616:Nat):Int)*18446744073709551616+((M%18446744073709551616:Nat):Int)=(M:Int):=om;obtain⟨k,hk,aRG,aTP⟩:∃k:Nat,(bnd (n:Int)).toNat =k/\M/2^k=M/2^n/\M%2^k=M%2^n:=by
  unfold bnd;rw[aH (by omega)];by_cases h:128<(n:Int)
  .rw[aQ h];have h1:M<2^128:=by simpa using hM
   have h2:=gZ (om:128<=n);exact⟨128,rfl,by rw[xU h1,xU (by omega)],by rw[lQ h1,lQ (by omega)]⟩
  .rw[aH h];exact⟨n,by simp,rfl,rfl⟩
 refine(AX _ _ (n:Int) om om om om w).mono ?_;rintro e w' ⟨rfl,hg⟩;refine⟨Ob ?_ ?_ ?_,hg⟩
 .unfold lY;rw[hk,e0,Zb,aRG];omega
 .unfold lF;rw[hk,e0,Zb,aRG];omega
 .unfold lU;rw[hk,e0,aIU,aTP];generalize M%2^n=R;by_cases h:R=0
  .simp[h]
  .simp[h]
def aSH(M:Nat)(hM:M<340282366920938463463374607431768211456)(n:Nat)(hn:n<=128)(h:M*2^n<18446744073709551616)(w:ak):
  QR 256 #[iK M,J n] w (aS 0 ((M*2^n:Nat):Int)):=by
 have e0:((M/18446744073709551616:Nat):Int)*18446744073709551616+((M%18446744073709551616:Nat):Int)=(M:Int):=om;have hk:(bnd (n:Int)).toNat =n:=by unfold bnd;rw[aH om,aH (by omega)];simp
 refine(xJ _ _ (n:Int) om om om om w).mono ?_;rintro e w' ⟨rfl,hg⟩;refine⟨Si ?_ ?_,hg⟩
 .unfold tu;rw[hk,e0,cast_mul];omega
 .unfold tq;rw[hk,e0,cast_mul];omega
def WH{P:Prop}(h:P:=by
 refine gY (v:=aU z 20) (by simp[results,results253,go_sem,iy,EM]) rfl ⟨by simp,?_⟩;exact kr):P:=h
def WI{P:Prop}(h:P:=by
 refine gY (v:=aU (z-1) 20) (by simp[results,results253,go_sem,iy,EM]) rfl ⟨by simp,?_⟩;exact kr):P:=h
def sv(aP sg z:Int):Int:=if aP=1 then sg+z else z
def AZ(h:zo p mn mx fb sp one aN sg nan)(md:Int)(aP z:Int)(sB U:Bool)(hs:aP=0/\z=aN\/aP=1/\z=sg+aN)(hsB:(aP==1)=sB)(hU:ru 0 sB O O O=U)(hz:1<=z)(jB:aI z)(w:ak):
  TK p mn mx md 185 aP w (if U then z else z-1) 20:=by
 have HI:Ag p mn mx aP z:=λw=>ou h aP z hs w;have HR:KW 185 #[Z sB,Z O,Z O,Z O] (Z U):=λw=>hU▸uw sB O O O w;clear hU hs h;cases U
 .go_enter func253,ntmps253;go_wp2_with (first|(go_at_call 240;refine(HI _).mono ?_;rintro e w1 ⟨rfl,au⟩;have am4:aB w1 w.heap.size 4 (.func (.func 185) #[] #[]):=kq;obtain⟨iy,V_,EM,V9⟩:jX w1 (w.heap.size+1) 0 1 (Y 0) (J 0):=⟨kq,kq,kq,kq⟩)|(go_at_call 185;refine kw (HR _) ?_))
  exact WI
 .go_enter func253,ntmps253;go_wp2_with (first|(go_at_call 240;refine(HI _).mono ?_;rintro e w1 ⟨rfl,au⟩;have am4:aB w1 w.heap.size 4 (.func (.func 185) #[] #[]):=kq;obtain⟨iy,V_,EM,V9⟩:jX w1 (w.heap.size+1) 0 1 (Y 0) (J 0):=⟨kq,kq,kq,kq⟩)|(go_at_call 185;refine kw (HR _) ?_))
  exact WH
def A8(h:zo p mn mx fb sp one aN sg nan)(md:Int)(aP z:Int)(sB U:Bool)(hs:aP=0/\z=aN\/aP=1/\z=sg+aN)(hsB:(aP==1)=sB)(hU:ru 1 sB O O O=U)(hz:1<=z)(jB:aI z)(w:ak):
  TK p mn mx md 294 aP w (if U then z else z-1) 20:=by
 have HI:Ag p mn mx aP z:=λw=>ou h aP z hs w;have HR:KW 294 #[Z sB,Z O,Z O,Z O] (Z U):=λw=>hU▸zX sB O O O w;clear hU hs h;cases U
 .go_enter func253,ntmps253;go_wp2_with (first|(go_at_call 240;refine(HI _).mono ?_;rintro e w1 ⟨rfl,au⟩;have am4:aB w1 w.heap.size 4 (.func (.func 294) #[] #[]):=kq;obtain⟨iy,V_,EM,V9⟩:jX w1 (w.heap.size+1) 0 1 (Y 0) (J 0):=⟨kq,kq,kq,kq⟩)|(go_at_call 294;refine kw (HR _) ?_))
  exact WI
 .go_enter func253,ntmps253;go_wp2_with (first|(go_at_call 240;refine(HI _).mono ?_;rintro e w1 ⟨rfl,au⟩;have am4:aB w1 w.heap.size 4 (.func (.func 294) #[] #[]):=kq;obtain⟨iy,V_,EM,V9⟩:jX w1 (w.heap.size+1) 0 1 (Y 0) (J 0):=⟨kq,kq,kq,kq⟩)|(go_at_call 294;refine kw (HR _) ?_))
  exact WH
def Dh(h:zo p mn mx fb sp one aN sg nan)(md:Int)(aP z:Int)(sB U:Bool)(hs:aP=0/\z=aN\/aP=1/\z=sg+aN)(hsB:(aP==1)=sB)(hU:ru 2 sB O O O=U)(hz:1<=z)(jB:aI z)(w:ak):
  TK p mn mx md 295 aP w (if U then z else z-1) 20:=by
 have HI:Ag p mn mx aP z:=λw=>ou h aP z hs w;have HR:KW 295 #[Z sB,Z O,Z O,Z O] (Z U):=λw=>hU▸AQ sB O O O w;clear hU hs h;cases U
 .go_enter func253,ntmps253;go_wp2_with (first|(go_at_call 240;refine(HI _).mono ?_;rintro e w1 ⟨rfl,au⟩;have am4:aB w1 w.heap.size 4 (.func (.func 295) #[] #[]):=kq;obtain⟨iy,V_,EM,V9⟩:jX w1 (w.heap.size+1) 0 1 (Y 0) (J 0):=⟨kq,kq,kq,kq⟩)|(go_at_call 295;refine kw (HR _) ?_))
  exact WI
 .go_enter func253,ntmps253;go_wp2_with (first|(go_at_call 240;refine(HI _).mono ?_;rintro e w1 ⟨rfl,au⟩;have am4:aB w1 w.heap.size 4 (.func (.func 295) #[] #[]):=kq;obtain⟨iy,V_,EM,V9⟩:jX w1 (w.heap.size+1) 0 1 (Y 0) (J 0):=⟨kq,kq,kq,kq⟩)|(go_at_call 295;refine kw (HR _) ?_))
  exact WH
def LG(h:zo p mn mx fb sp one aN sg nan)(md:Int)(aP z:Int)(sB U:Bool)(hs:aP=0/\z=aN\/aP=1/\z=sg+aN)(hsB:(aP==1)=sB)(hU:ru 3 sB O O O=U)(hz:1<=z)(jB:aI z)(w:ak):
  TK p mn mx md 296 aP w (if U then z else z-1) 20:=by
 have HI:Ag p mn mx aP z:=λw=>ou h aP z hs w;have HR:KW 296 #[Z sB,Z O,Z O,Z O] (Z U):=λw=>hU▸Nj sB O O O w;clear hU hs h;cases U
 .go_enter func253,ntmps253;go_wp2_with (first|(go_at_call 240;refine(HI _).mono ?_;rintro e w1 ⟨rfl,au⟩;have am4:aB w1 w.heap.size 4 (.func (.func 296) #[] #[]):=kq;obtain⟨iy,V_,EM,V9⟩:jX w1 (w.heap.size+1) 0 1 (Y 0) (J 0):=⟨kq,kq,kq,kq⟩)|(go_at_call 296;refine kw (HR _) ?_))
  exact WI
 .go_enter func253,ntmps253;go_wp2_with (first|(go_at_call 240;refine(HI _).mono ?_;rintro e w1 ⟨rfl,au⟩;have am4:aB w1 w.heap.size 4 (.func (.func 296) #[] #[]):=kq;obtain⟨iy,V_,EM,V9⟩:jX w1 (w.heap.size+1) 0 1 (Y 0) (J 0):=⟨kq,kq,kq,kq⟩)|(go_at_call 296;refine kw (HR _) ?_))
  exact WH
def Fa(h:zo p mn mx fb sp one aN sg nan)(md:Int)(aP z:Int)(sB U:Bool)(hs:aP=0/\z=aN\/aP=1/\z=sg+aN)(hsB:(aP==1)=sB)(hU:ru 4 sB O O O=U)(hz:1<=z)(jB:aI z)(w:ak):
  TK p mn mx md 297 aP w (if U then z else z-1) 20:=by
 have HI:Ag p mn mx aP z:=λw=>ou h aP z hs w;have HR:KW 297 #[Z sB,Z O,Z O,Z O] (Z U):=λw=>hU▸FU sB O O O w;clear hU hs h;cases U
 .go_enter func253,ntmps253;go_wp2_with (first|(go_at_call 240;refine(HI _).mono ?_;rintro e w1 ⟨rfl,au⟩;have am4:aB w1 w.heap.size 4 (.func (.func 297) #[] #[]):=kq;obtain⟨iy,V_,EM,V9⟩:jX w1 (w.heap.size+1) 0 1 (Y 0) (J 0):=⟨kq,kq,kq,kq⟩)|(go_at_call 297;refine kw (HR _) ?_))
  exact WI
 .go_enter func253,ntmps253;go_wp2_with (first|(go_at_call 240;refine(HI _).mono ?_;rintro e w1 ⟨rfl,au⟩;have am4:aB w1 w.heap.size 4 (.func (.func 297) #[] #[]):=kq;obtain⟨iy,V_,EM,V9⟩:jX w1 (w.heap.size+1) 0 1 (Y 0) (J 0):=⟨kq,kq,kq,kq⟩)|(go_at_call 297;refine kw (HR _) ?_))
  exact WH
def UM(h:zo p mn mx fb sp one aN sg nan)(md:Int)(aj:Int)(k:Nat)(hk:zT aj k)(aP:Int)(hs:aP=0\/aP=1)(w:ak):
  TK p mn mx md k aP w (sv aP sg (kN aN aj aP)) 20:=by
 have b:0<aN/\aN<sg/\sg<=9223372036854775808:=by rcases h with h|h<;>omega
 obtain⟨z,hz⟩:∃z,aP=0/\z=aN\/aP=1/\z=sg+aN:=by
  rcases hs with rfl|rfl
  .exact⟨aN,.inl ⟨rfl,rfl⟩⟩
  .exact⟨sg+aN,.inr ⟨rfl,rfl⟩⟩
 have fin:∀x w',(x=Ending.returned (aU (if ru aj (aP==1) O O O then z else z-1) 20)/\Gr w w')->(x=Ending.returned (aU (sv aP sg (kN aN aj aP)) 20)/\Gr w w'):=by
  rintro x w' ⟨rfl,hg⟩;refine⟨?_,hg⟩;have e:(if ru aj (aP==1) O O O then z else z-1)=sv aP sg (kN aN aj aP):=by
   rcases hz with⟨rfl,rfl⟩|⟨rfl,rfl⟩<;>rcases hk with⟨rfl,_⟩|⟨rfl,_⟩|⟨rfl,_⟩|⟨rfl,_⟩|⟨rfl,_⟩<;>simp[ru,sv,kN]<;>omega
  rw[e]
 rcases hk with⟨rfl,rfl⟩|⟨rfl,rfl⟩|⟨rfl,rfl⟩|⟨rfl,rfl⟩|⟨rfl,rfl⟩
 .exact(AZ h md aP z _ _ hz rfl rfl om om w).mono (λx w' h=>fin x w' h)
 .exact(A8 h md aP z _ _ hz rfl rfl om om w).mono (λx w' h=>fin x w' h)
 .exact(Dh h md aP z _ _ hz rfl rfl om om w).mono (λx w' h=>fin x w' h)
 .exact(LG h md aP z _ _ hz rfl rfl om om w).mono (λx w' h=>fin x w' h)
 .exact(Fa h md aP z _ _ hz rfl rfl om om w).mono (λx w' h=>fin x w' h)
def dF(h:zo p mn mx fb sp one aN sg nan)(w:ak):
  QR 171 #[lT p mn mx] w (aU nan 1):=by
 have HN:KR 238 #[lT p mn mx] (Y nan):=λw=>MK h w;clear h;go_enter func171,ntmps171;go_wp2_with (go_at_call 238;refine(HN _).mono ?_;rintro e w1 ⟨rfl,au⟩;obtain⟨iy,V_,EM,V9⟩:jX w1 (w.heap.size+1) 0 1 (Y 0) (J 0):=⟨kq,kq,kq,kq⟩);exact cO (by simp[results,results171,go_sem,iy,EM])
def aR3(M:Nat)(hM:M<340282366920938463463374607431768211456):bl (M:Int)=(nb M:Int):=by
 unfold bl;by_cases h:(M:Int)/18446744073709551616=0
 .rw[aQ h];have e:((M:Int)%18446744073709551616).toNat =M:=om;rw[e,CV M (by omega)]
 .rw[aH h];have e:((M:Int)/18446744073709551616).toNat =M/18446744073709551616:=om;have h2:=Fp M 64 (by simp only[Nat.reducePow];omega);simp only[Nat.reducePow]at h2;rw[e,CV _ om,h2];omega
def aFj(M:Nat)(hM:M<340282366920938463463374607431768211456)(w:ak):
  QR 252 #[iK M] w (J (128-(nb M:Int))):=by
 have e0:((M/18446744073709551616:Nat):Int)*18446744073709551616+((M%18446744073709551616:Nat):Int)=(M:Int):=om;have:=Ri ((M/18446744073709551616:Nat):Int) ((M%18446744073709551616:Nat):Int) om om om om w;rw[aPC _ _ om om om om,e0,aR3 M hM]at this;exact this
def aJy(m0:-1022<=mn)(m1:mn<=0)(md:Int)(k:Nat)(dh aP e mh ml:Int)(bZ:Bool)(lM:(dh==mn-1)=false)(w:ak):
  QR 255 #[eu p mn mx md k,J dh,J aP,J e,aS mh ml,Z bZ] w (Z (decide (dh<mn))):=by
 go_enter func255,ntmps255;go_wp2;go_returns;exact⟨rfl,kr⟩
def aJz(h:zo p mn mx fb sp one aN sg nan)(md:Int)(k:Nat)(dh aP e mh ml a1 dr r2:Int)(bZ b2 tb:Bool)(jF:dh=mn-1)(e0:-200000<=e)(e1:e<=200000)(ha:dh-fb=a1)(hdr:a1-e=dr)(r0:0<=r2)(r1:aI r2)(htb:tb=decide (r2<2*one))
  (HAt:KQ k dr aP mh ml bZ r2 b2) (w:ak):
  QR 255 #[eu p mn mx md k,J dh,J aP,J e,aS mh ml,Z bZ] w (Z tb):=by
 have HF:Gx p mn mx fb:=λw=>xZ h w;have tb2:-2000<=dh/\dh<=0:=by rcases h with h|h<;>omega
 have u1:IntKind.i64.wrap (dh-fb)=a1:=by rw[ha];exact CY _ (by rcases h with h|h<;>omega) (by rcases h with h|h<;>omega)
 have u2:IntKind.i64.wrap (a1-e)=dr:=by rw[hdr];exact CY _ (by rcases h with h|h<;>omega) (by rcases h with h|h<;>omega)
 have HT:Hid (tb=decide (r2<2*one)):=htb;clear ha hdr htb;rcases h with⟨rfl,rfl,rfl,rfl,rfl,rfl,rfl,rfl,rfl⟩|⟨rfl,rfl,rfl,rfl,rfl,rfl,rfl,rfl,rfl⟩
 .have heq:(dh== -127)=O:=jA;clear jF;go_enter func255,ntmps255;go_wp2;go_region_held3 (λw'=>uj w' w.heap.size 0 1 2 3 4 (J 24) (J (-126)) (J 127) (J md) (.func (.func k) #[] #[])/\lW w' (w.heap.size+1) 0 1 (Y mh) (Y ml))((go_split_ands;(repeat' apply And.intro)<;>exact kl))(first|(go_at_call 182;refine(HF _).mono ?_;rintro e w1 ⟨rfl,au⟩;have aRK:=au.cells;have aRE:=au.eY;have aCK:=au.size;(try simp only[dV,jg,jW]at aCK))|(go_at_call 254;refine(HAt _).mono ?_;rintro e w2 ⟨rfl,aC⟩;have aIf:=aC.cells;have aIb:=aC.eY;have O6:=aC.size;(try simp only[dV,jg,jW]at O6)))
  all_goals (try go_split_ands)<;>go_wp2
  all_goals go_returns
  all_goals
   refine⟨b_ (lu Value.bool ?_),kr⟩;rw[HT.out];first|(rw[Bool.eq_iff_iff];simp;omega)|(by_cases c:r2<16777216<;>first|(rw[h_ (by omega)];simp;omega)|(rw[gV (by omega)];simp;omega))
 .have heq:(dh== -1023)=O:=jA;clear jF;go_enter func255,ntmps255;go_wp2;go_region_held3 (λw'=>uj w' w.heap.size 0 1 2 3 4 (J 53) (J (-1022)) (J 1023) (J md) (.func (.func k) #[] #[])/\lW w' (w.heap.size+1) 0 1 (Y mh) (Y ml))((go_split_ands;(repeat' apply And.intro)<;>exact kl))(first|(go_at_call 182;refine(HF _).mono ?_;rintro e w1 ⟨rfl,au⟩;have aRK:=au.cells;have aRE:=au.eY;have aCK:=au.size;(try simp only[dV,jg,jW]at aCK))|(go_at_call 254;refine(HAt _).mono ?_;rintro e w2 ⟨rfl,aC⟩;have aIf:=aC.cells;have aIb:=aC.eY;have O6:=aC.size;(try simp only[dV,jg,jW]at O6)))
  all_goals (try go_split_ands)<;>go_wp2
  all_goals go_returns
  all_goals
   refine⟨b_ (lu Value.bool ?_),kr⟩;rw[HT.out];first|(rw[Bool.eq_iff_iff];simp;omega)|(by_cases c:r2<9007199254740992<;>first|(rw[h_ (by omega)];simp;omega)|(rw[gV (by omega)];simp;omega))
def aML{P:Prop}(h:P:=by
 clear hL hk hg;rcases h with⟨rfl,rfl,rfl,rfl,rfl,rfl,rfl,rfl,rfl⟩|⟨rfl,rfl,rfl,rfl,rfl,rfl,rfl,rfl,rfl⟩
 .have v1:IntKind.i64.wrap (-126)=-126:=de;have v2:IntKind.i64.wrap (-149)=-149:=de;have v3:IntKind.i64.wrap (-149-k)=-149-k:=CY _ om om;go_enter func299,ntmps299;go_wp2_with (go_at_call 182;refine(HF _).mono ?_;rintro e w3 ⟨rfl,aO⟩;obtain⟨r0,r1,r2⟩:jU w3 w.heap.size 0 1 2 (J 24) (J (-126)) (J 127):=⟨kq,kq,kq⟩;obtain⟨r3,r4,r5,r6⟩:pG w3 (w.heap.size+1) 0 1 2 3 (J 0) (J 0) (J 0) (Y 0):=⟨kq,kq,kq,kq⟩;have z3:dL w3 (w.heap.size+1) 0:=kq;have z4:dL w3 (w.heap.size+1) 1:=kq;have z5:dL w3 (w.heap.size+1) 2:=kq;have z6:dL w3 (w.heap.size+1) 3:=kq);go_region_held3 (λw'=>jU w' w.heap.size 0 1 2 (J 24) (J (-126)) (J 127)/\qU w' (w.heap.size+1) 0 1 2 3 (J 0) (J 0) (J 0) (Y 0))((go_split_ands;(repeat' apply And.intro)<;>exact kl))(first|(go_at_call 182;refine(HF _).mono ?_;rintro e w5 ⟨rfl,bT⟩;have aRJ:=bT.cells;have aRD:=bT.eY;have aH1:=bT.size;(try simp only[dV,jg,jW]at aH1))|(go_at_call 321;refine(HL _).mono ?_;rintro e w6 ⟨rfl,hw⟩;rw[hw];clear hw))
  all_goals go_wp2
  go_region_held3 (λw'=>jU w' w.heap.size 0 1 2 (J 24) (J (-126)) (J 127))((go_split_ands;(repeat' apply And.intro)<;>exact kl))(first|(go_at_call 182;refine(HF _).mono ?_;rintro e w7 ⟨rfl,jT⟩;have aRI:=jT.cells;have aRC:=jT.eY;have aH0:=jT.size;(try simp only[dV,jg,jW]at aH0);have s0:aB w7 (w.heap.size+1) 0 (J 0):=(by go_split_ands;exact kq);have y0:dL w7 (w.heap.size+1) 0:=(by go_split_ands;exact kq);have s1:aB w7 (w.heap.size+1) 1 (J 0):=(by go_split_ands;exact kq);have y1:dL w7 (w.heap.size+1) 1:=(by go_split_ands;exact kq);have s2:aB w7 (w.heap.size+1) 2 (J 0):=(by go_split_ands;exact kq);have y2:dL w7 (w.heap.size+1) 2:=(by go_split_ands;exact kq);have s3:aB w7 (w.heap.size+1) 3 (Y 0):=(by go_split_ands;exact kq);have y3:dL w7 (w.heap.size+1) 3:=(by go_split_ands;exact kq))|(go_at_call 321;refine(HL _).mono ?_;rintro e w8 ⟨rfl,hw⟩;rw[hw];clear hw))
  all_goals go_wp2
  all_goals
   exact cO (by simp[results,results299,go_sem,s0,s1,s2,s3])
 .have v1:IntKind.i64.wrap (-1022)=-1022:=de;have v2:IntKind.i64.wrap (-1074)=-1074:=de;have v3:IntKind.i64.wrap (-1074-k)=-1074-k:=CY _ om om;go_enter func299,ntmps299;go_wp2_with (go_at_call 182;refine(HF _).mono ?_;rintro e w3 ⟨rfl,aO⟩;obtain⟨r0,r1,r2⟩:jU w3 w.heap.size 0 1 2 (J 53) (J (-1022)) (J 1023):=⟨kq,kq,kq⟩;obtain⟨r3,r4,r5,r6⟩:pG w3 (w.heap.size+1) 0 1 2 3 (J 0) (J 0) (J 0) (Y 0):=⟨kq,kq,kq,kq⟩;have z3:dL w3 (w.heap.size+1) 0:=kq;have z4:dL w3 (w.heap.size+1) 1:=kq;have z5:dL w3 (w.heap.size+1) 2:=kq;have z6:dL w3 (w.heap.size+1) 3:=kq);go_region_held3 (λw'=>jU w' w.heap.size 0 1 2 (J 53) (J (-1022)) (J 1023)/\qU w' (w.heap.size+1) 0 1 2 3 (J 0) (J 0) (J 0) (Y 0))((go_split_ands;(repeat' apply And.intro)<;>exact kl))(first|(go_at_call 182;refine(HF _).mono ?_;rintro e w5 ⟨rfl,bT⟩;have aRJ:=bT.cells;have aRD:=bT.eY;have aH1:=bT.size;(try simp only[dV,jg,jW]at aH1))|(go_at_call 321;refine(HL _).mono ?_;rintro e w6 ⟨rfl,hw⟩;rw[hw];clear hw))
  all_goals go_wp2
  go_region_held3 (λw'=>jU w' w.heap.size 0 1 2 (J 53) (J (-1022)) (J 1023))((go_split_ands;(repeat' apply And.intro)<;>exact kl))(first|(go_at_call 182;refine(HF _).mono ?_;rintro e w7 ⟨rfl,jT⟩;have aRI:=jT.cells;have aRC:=jT.eY;have aH0:=jT.size;(try simp only[dV,jg,jW]at aH0);have s0:aB w7 (w.heap.size+1) 0 (J 0):=(by go_split_ands;exact kq);have y0:dL w7 (w.heap.size+1) 0:=(by go_split_ands;exact kq);have s1:aB w7 (w.heap.size+1) 1 (J 0):=(by go_split_ands;exact kq);have y1:dL w7 (w.heap.size+1) 1:=(by go_split_ands;exact kq);have s2:aB w7 (w.heap.size+1) 2 (J 0):=(by go_split_ands;exact kq);have y2:dL w7 (w.heap.size+1) 2:=(by go_split_ands;exact kq);have s3:aB w7 (w.heap.size+1) 3 (Y 0):=(by go_split_ands;exact kq);have y3:dL w7 (w.heap.size+1) 3:=(by go_split_ands;exact kq))|(go_at_call 321;refine(HL _).mono ?_;rintro e w8 ⟨rfl,hw⟩;rw[hw];clear hw))
  all_goals go_wp2
  all_goals
   exact cO (by simp[results,results299,go_sem,s0,s1,s2,s3])):P:=h
def VD(h:zo p mn mx fb sp one aN sg nan)(s c:Int)(c0:0<=c)(c1:c<one)(L:Int)(k:Nat)(hL:(Go.Lib.bitLen c.toNat:Int)=L)(hk:p-L=(k:Int))(k1:k<=53)(g:Int)(hg:c*2^k=g)(g0:0<=g)(g1:g<9007199254740992)(w:ak):
  QR 299 #[lT p mn mx,J s,Y c] w (fG 1 s (mn-fb-k) g):=by
 have c2:c<9007199254740992:=by rcases h with h|h<;>omega
 have HF:Gx p mn mx fb:=λw=>xZ h w;have HL:Hid (∀w,CT 321 #[Y c] w λe w'=>e=.returned (J L)/\w'=w):=λw=>hL▸BU c c0 om w;have u1:IntKind.i64.wrap (p-L)=(k:Int):=by rw[hk];exact CY _ om om
 have u2:IntKind.u64.wrap (c*2^k)=g:=by rw[hg];exact wu64 _ g0 om
 have u6:¬(k:Int)<0:=om;have hd:c/one=0:=Int.ediv_eq_zero_of_lt c0 c1;have aOX:max (-1:Int) 0=0:=de;have u4:IntKind.i64.wrap (mn-fb)=mn-fb:=CY _ (by rcases h with h|h<;>omega) (by rcases h with h|h<;>omega);have u5:IntKind.i64.wrap (mn-fb-k)=mn-fb-k:=CY _ (by rcases h with h|h<;>omega) (by rcases h with h|h<;>omega);exact aML
def aBD(h:zo p mn mx fb sp one aN sg nan)(s mag q c:Int)(q0:0<=q)(hd:mag/one=q+1)(m0:0<=mag)(m1:mag<aN)(hc:mag-q*one=c)(c0:0<=c)(c2:c<9007199254740992)(L:Int)(k:Nat)(hL:(Go.Lib.bitLen c.toNat:Int)=L)(hk:p-L=(k:Int))(k1:k<=53)(g:Int)(hg:c*2^k=g)(g0:0<=g)(g1:g<9007199254740992)(w:ak):
  QR 299 #[lT p mn mx,J s,Y mag] w (fG 1 s (mn+q-fb-k) g):=by
 have HF:Gx p mn mx fb:=λw=>xZ h w;have HL:Hid (∀w,CT 321 #[Y c] w λe w'=>e=.returned (J L)/\w'=w):=λw=>hL▸BU c c0 om w;have u1:IntKind.i64.wrap (p-L)=(k:Int):=by rw[hk];exact CY _ om om
 have u2:IntKind.u64.wrap (c*2^k)=g:=by rw[hg];exact wu64 _ g0 om
 have u6:¬(k:Int)<0:=om;have q1:q<10000:=by rcases h with⟨rfl,rfl,rfl,rfl,rfl,rfl,rfl,rfl,rfl⟩|⟨rfl,rfl,rfl,rfl,rfl,rfl,rfl,rfl,rfl⟩<;>omega
 have aOX:max q 0=q:=om;have u3:IntKind.i64.wrap (mn+q)=mn+q:=CY _ (by rcases h with h|h<;>omega) (by rcases h with h|h<;>omega);have u4:IntKind.i64.wrap (mn+q-fb)=mn+q-fb:=CY _ (by rcases h with h|h<;>omega) (by rcases h with h|h<;>omega);have u5:IntKind.i64.wrap (mn+q-fb-k)=mn+q-fb-k:=CY _ (by rcases h with h|h<;>omega) (by rcases h with h|h<;>omega);exact aML
def aPW(r:Nat)(h:r<2^63):r^^^2^63=r+2^63:=by
 apply Nat.eq_of_testBit_eq;intro i;rw[Nat.testBit_xor,Nat.testBit_two_pow,Nat.add_comm];rcases Oz i 63 with c|c|c
 .rw[Nat.testBit_two_pow_add_gt c,gV (om:¬63=i),Bool.xor_false]
 .subst c;rw[Nat.testBit_two_pow_add_eq];simp[Nat.testBit_lt_two_pow h]
 .have h1:r<2^i:=Ie h (pU de om);have h2:2^63+r<2^i:=Ie (om:2^63+r<2^64) (pU de om);rw[Nat.testBit_lt_two_pow h1,Nat.testBit_lt_two_pow h2,gV (om:¬63=i)];rfl
def aSx(a:Nat)(h:2^63<=a)(h2:a<2^64):a^^^2^63=a-2^63:=by
 have:=aPW (a-2^63) om;rw[(om:a-2^63+2^63=a)]at this;have e:a^^^2^63=(a-2^63^^^2^63)^^^2^63:=by rw[this]
 rw[e,Nat.xor_assoc,Nat.xor_self,Nat.xor_zero]
def aFk(ha:Wd a):bits .xor .u64 a 9223372036854775808=yD a:=by
 obtain⟨n,rfl⟩:=lq ha.1;have hn:aI n:=by have:=ha.2;omega
 have h:=bits_xor_u64_nat n 9223372036854775808 hn om;refine h.trans ?_;unfold yD;split
 .rw[show n^^^9223372036854775808=n+9223372036854775808 from aPW n (by omega)];omega
 .rw[show n^^^9223372036854775808=n-9223372036854775808 from aSx n om (by omega)];omega
def Sj:∀(z fl:Int) (w:ak),(Instr.field 100 (aU z fl) 0).run prog w=.ok (Y z) w:=λz fl w=>by kernel_rfl
def UK(H:o.I)(ha:Wd a)(hb:Wd b)(hw:Fm w):
  QR 268 #[Y a,Y b] w (Y (o.add a b)):=by
 have hf:=Sj;have HA:=(H.add ha hb);generalize o.add a b=z at*
 clear ha hb H;go_enter func268,ntmps268;go_wp2_with (go_at_call 26;refine(HA _ hw).mono ?_;rintro e w1 ⟨fl,rfl,au⟩);go_returns;exact⟨rfl,kr⟩
def aCF(H:o.I)(ha:Wd a)(hb:Wd b)(hw:Fm w):
  QR 200 #[Y a,Y b] w (Y (o.sub a b)):=by
 have hf:=Sj;have HA:=(H.sub ha hb);generalize o.sub a b=z at*
 clear ha hb H;go_enter func200,ntmps200;go_wp2_with (go_at_call 27;refine(HA _ hw).mono ?_;rintro e w1 ⟨fl,rfl,au⟩);go_returns;exact⟨rfl,kr⟩
def Un(H:o.I)(ha:Wd a)(hb:Wd b)(hw:Fm w):
  QR 201 #[Y a,Y b] w (Y (o.mul a b)):=by
 have hf:=Sj;have HA:=(H.mul ha hb);generalize o.mul a b=z at*
 clear ha hb H;go_enter func201,ntmps201;go_wp2_with (go_at_call 28;refine(HA _ hw).mono ?_;rintro e w1 ⟨fl,rfl,au⟩);go_returns;exact⟨rfl,kr⟩
def aDj(H:o.I)(ha:Wd a)(hb:Wd b)(hw:Fm w):
  QR 313 #[Y a,Y b] w (Y (o.div a b)):=by
 have hf:=Sj;have HA:=(H.div ha hb);generalize o.div a b=z at*
 clear ha hb H;go_enter func313,ntmps313;go_wp2_with (go_at_call 30;refine(HA _ hw).mono ?_;rintro e w1 ⟨fl,rfl,au⟩);go_returns;exact⟨rfl,kr⟩
def aGY(H:o.I)(ha:Wd a)(hw:Fm w):
  QR 312 #[Y a] w (Y (o.sqrt a)):=by
 have hf:=Sj;have HA:=(H.sqrt ha);generalize o.sqrt a=z at*
 clear ha H;go_enter func312,ntmps312;go_wp2_with (go_at_call 32;refine(HA _ hw).mono ?_;rintro e w1 ⟨fl,rfl,au⟩);go_returns;exact⟨rfl,kr⟩
def EZ(ha:Wd a)(hw:Fm w):
  QR 314 #[Y a] w (Y (yD a)):=by
 obtain⟨p,mx,one,aN,sg,nan,hF⟩:∃p mx one aN sg nan,bI 1 p mx one aN sg nan:=⟨_,_,_,_,_,_,.inr ⟨rfl,rfl,rfl,rfl,rfl,rfl,rfl⟩⟩;obtain⟨mn,fb,sp,hM,Ce,Ru⟩:=hF.m;rcases hF with⟨h,_⟩|⟨_,rfl,rfl,rfl,rfl,rfl,rfl⟩
 .omega
 subst Ce;have HZ:Qk 53 (-1022) 1023 1 9223372036854775808:=λw=>oK hM 1 _ (.inr ⟨rfl,rfl⟩) w;obtain⟨c0,c1,c2,c3,c4,c5⟩:=hw;clear hM;go_enter func314,ntmps314;go_wp2_with (go_at_call 239;refine ku (HZ _) λw1 au=>?_);go_returns;exact⟨b_ (by simp[go_sem];exact aFk ha),kr⟩
def PW(H:o.I)(HI:o.In)(kG:Wd a1)(sD:Wd a2)(iF:Wd b1)(mY:Wd b2)(hw:Fm w):
  QR 197 #[aS a1 a2,aS b1 b2] w (aS (o.sub (o.mul a1 b1) (o.mul a2 b2)) (o.add (o.mul a1 b2) (o.mul a2 b1))):=by
 have h11:=HI.mul kG iF;have h22:=HI.mul sD mY;have h12:=HI.mul kG mY;have h21:=HI.mul sD iF;have HT:Hid (∀a b,Wd a->Wd b->∀w',Gr w w'->QR 201 #[Y a,Y b] w' (Y (o.mul a b))):=λa b ha hb w' hg=>Un H ha hb (hw.gr hg);have HM:Hid (∀w',Gr w w'->QR 200 #[Y (o.mul a1 b1),Y (o.mul a2 b2)] w' (Y (o.sub (o.mul a1 b1) (o.mul a2 b2)))):=λw' hg=>aCF H h11 h22 (hw.gr hg);have HP:Hid (∀w',Gr w w'->QR 268 #[Y (o.mul a1 b2),Y (o.mul a2 b1)] w' (Y (o.add (o.mul a1 b2) (o.mul a2 b1)))):=λw' hg=>UK H h12 h21 (hw.gr hg);clear h11 h22 h12 h21 H HI hw;go_enter func197,ntmps197;go_wp2;go_region_held3 (λw'=>lW w' w.heap.size 0 1 (Y a1) (Y a2)/\lW w' (w.heap.size+1) 0 1 (Y b1) (Y b2))(exact qj)(first|(go_at_call 201;with_reducible refine ku (HT.out _ _ (by assumption) (by assumption) _ kr) λw1 au=>?_;have:=au.CX w;have:=au.TQ w;have qN:=au.VT w)|(go_at_call 200;with_reducible refine ku (HM.out _ kr) λw1 au=>?_;have:=au.CX w;have:=au.TQ w;have qN:=au.VT w)|(go_at_call 268;with_reducible refine ku (HP.out _ kr) λw1 au=>?_;have:=au.CX w;have:=au.TQ w;have qN:=au.VT w))
 all_goals
  go_wp2;exact cO (by simp[results,results197,go_sem,qN])
def tX(ty t:TypeId)(z:Value)(size bytes:Nat)(LW:prog.underlying ty=some (.slice t))(xY:(prog.info? t).map (λi=>(i.zero,i.size,i.bytes))=some (some z,size,bytes))(EL:bytes<=1000)(n:Nat)(hn:n<=10000000)(w:ak):
  (Instr.makeSlice ty (J (n:Int)) (J (n:Int))).run prog w=.ok (aF w.heap.size n n) (w.alloc (.cells (madeCells z.cells (n*size)) t)):=by
 obtain⟨i,hi,hz,hs,hb⟩:=info_parts xY;have Dq:(i.bytes:Int)*(n:Int)<=281474976710656:=by
  have h:i.bytes*n<=1000*10000000:=Nat.mul_le_mul om hn;have h':((i.bytes*n:Nat):Int)<=281474976710656:=om
  rwa [FI]at h'
 have hr:=run_make (P:=prog) w ty t i z LW hi hz .i64 .i64 n n om (Int.le_refl _) Dq om;simp only[Int.toNat_natCast,hs]at hr;exact hr
def aEt(z:Array Value)(k:IntKind)(hz:∀j,z[j%z.size]! =.int k 0)(m:Nat):(madeCells z m).toList =uv k m (λ_=>0):=by
 unfold madeCells uv;simp[hz]
def Ow.made(w:ak)(t:TypeId)(size:Nat)(z:Array Value)(k:IntKind)(hz:∀j,z[j%z.size]! =.int k 0)(n:Nat)(hn:n<=10000000):Ow (w.alloc (.cells (madeCells z (n*size)) t)) w.heap.size t size k (aF w.heap.size n n) n (λ_=>0):=by
 have:=MZ (base:=w.heap.size) (e:=t) (size:=size) w (madeCells z (n*size)) n (dJ _) (by unfold maxLen;omega) (size_madeCells _ _);rw[aEt z k hz]at this;exact this
def z1(k:IntKind):∀j,(#[Value.int k 0])[j%(#[Value.int k 0]).size]! =.int k 0:=λj=>by
 have:j%(#[Value.int k 0]).size =0:=Nat.mod_one j;rw[this];rfl
def z2(k:IntKind):∀j,(#[Value.int k 0,.int k 0])[j%(#[Value.int k 0,.int k 0]).size]! =.int k 0:=λj=>by
 rcases(om:j%2=0\/j%2=1)with e|e
 .show(#[Value.int k 0,.int k 0])[j%2]! =_;rw[e];rfl
 .show(#[Value.int k 0,.int k 0])[j%2]! =_;rw[e];rfl
