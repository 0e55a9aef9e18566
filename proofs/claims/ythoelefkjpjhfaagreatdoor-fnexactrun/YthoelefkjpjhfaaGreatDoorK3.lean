import Derived.Test.YthoelefkjpjhfaaGreatDoorK2
import Derived.Laws.EntriesVeiled
import Derived.Test.YthoelefkjpjhfaaGreatDoorRows
import Derived.Laws.Bits64
import Derived.Laws.MakeOwn
import Derived.Deep.OwnRows
set_option linter.all false
set_option maxRecDepth 1000000
set_option maxHeartbeats 40000000
open Bool renaming true → O
open Go.Proofs.YthoelefkjpjhfaaGreatDoor renaming vI → J, vU → Y
open Go.Value renaming bool → Z
open Go.Proofs.Tryz
namespace Go.Proofs.YthoelefkjpjhfaaGreatDoor
open Go.RowKit
attribute [local go_sem] aA dB
variable{p mn mx fb sp one aI sg nan a b a1 a2 b1 b2:Int}{w:World}{o:Ops}
def ru(aj:Int)(neg odd half rest:Bool):Bool:=if aj=0 then half&&(odd||rest)else if aj=1 then half else if aj=2 then false else if aj=3 then !neg&&(half||rest)else neg&&(half||rest)
def xU(aj:Int)(k:Nat):Prop:=aj=0/\k=185\/aj=1/\k=294\/aj=2/\k=295\/aj=3/\k=296\/aj=4/\k=297
def rE(a b c d:Bool)(w:World):QW 185 #[Z a,Z b,Z c,Z d] w (Z (ru 0 a b c d)):=by
 cases a<;>cases b<;>cases c<;>cases d;all_goals
  go_enter func185,ntmps185;go_wp2;go_returns;exact⟨rfl,rfl⟩
def xZ(a b c d:Bool)(w:World):QW 294 #[Z a,Z b,Z c,Z d] w (Z (ru 1 a b c d)):=by
 cases a<;>cases b<;>cases c<;>cases d;all_goals
  go_enter func294,ntmps294;go_wp2;go_returns;exact⟨rfl,rfl⟩
def yN(a b c d:Bool)(w:World):QW 295 #[Z a,Z b,Z c,Z d] w (Z (ru 2 a b c d)):=by
 cases a<;>cases b<;>cases c<;>cases d;all_goals
  go_enter func295,ntmps295;go_wp2;go_returns;exact⟨rfl,rfl⟩
def KA(a b c d:Bool)(w:World):QW 296 #[Z a,Z b,Z c,Z d] w (Z (ru 3 a b c d)):=by
 cases a<;>cases b<;>cases c<;>cases d;all_goals
  go_enter func296,ntmps296;go_wp2;go_returns;exact⟨rfl,rfl⟩
def D_(a b c d:Bool)(w:World):QW 297 #[Z a,Z b,Z c,Z d] w (Z (ru 4 a b c d)):=by
 cases a<;>cases b<;>cases c<;>cases d;all_goals
  go_enter func297,ntmps297;go_wp2;go_returns;exact⟨rfl,rfl⟩
def gW(aj:Int)(k:Nat)(h:xU aj k)(w:World):
  QR 237 #[J aj] w (.tuple #[.func (.func k) #[] #[],Z O]):=by
 rcases h with⟨rfl,rfl⟩|⟨rfl,rfl⟩|⟨rfl,rfl⟩|⟨rfl,rfl⟩|⟨rfl,rfl⟩
 all_goals
  go_enter func237,ntmps237;go_wp2;go_returns;exact⟨rfl,kr⟩
def jR(aj:Int)(h:aj<0\/4<aj)(w:World):
  QR 237 #[J aj] w (.tuple #[Value.nilFunc,Z false]):=by
 rcases h with c|c
 all_goals
  go_enter func237,ntmps237;go_wp2;go_returns;exact⟨rfl,kr⟩
def aJH(a b c d:Int)(w:World):(Op.equalIn 10000 257 (aN a b) (aN c d)).run Tryz.prog w=.ok (a==c&&b==d) w:=by
 have u3:=Tryz.underlying71;have a3:=Tryz.isAgg71;have z3:=Tryz.sizeOf71;rw[show(10000:Nat)=9999+1 from rfl,Op.equalIn];simp only[Sem.run_bind,run_underlying Tryz.underlying257,Result.andThen_ok];simp only[Std.Legacy.Range.forIn_eq_forIn_range',Std.Legacy.Range.size,Nat.sub_zero,Nat.add_sub_cancel,Nat.div_one,List.range'_succ,List.range'_zero,List.forIn_cons,List.forIn_nil];go_simp;by_cases h1:a=c<;>by_cases h2:b=d<;>simp[h1,h2]
def Jz(h l n A B:Int)(r:Bool)(Qv:0<=h)(Z4:0<=l)(hh1:aG h)(o9:aG l)
  (HL:∀w,QR 302 #[aN (jQ h l (bnd n).toNat) (kG h l (bnd n).toNat),J n] w (aN A B))
  (hc:(l=A/\h=B/\r=false)\/((A==l)=false/\r=O)\/(l=A/\(B==h)=false/\r=O)) (w:World):
  QR 244 #[aN h l,J n] w (.tuple #[aN (kG h l (bnd n).toNat) (jQ h l (bnd n).toNat),Z r]):=by
 have HLL:Hid _:=HL;clear HL;have hq:=aJH A B l h;rcases hc with⟨rfl,rfl,rfl⟩|⟨hA,rfl⟩|⟨rfl,hB,rfl⟩
 all_goals simp only[*,BEq.rfl,Bool.and_true,Bool.true_and,Bool.and_false,Bool.false_and]at hq
 all_goals
  go_enter func244,ntmps244;go_wp2_with (first|(go_at_call 300;refine(qM _ _ _).mono ?_;rintro e w1 ⟨rfl,c1,c2,rfl⟩)|(go_at_call 301;refine(aCQ _ _ n Z4 Qv o9 hh1 _).mono ?_;rintro e w2 ⟨rfl,aB⟩;have aGR:=aB.cells;have aGN:=aB.dX;have Np:=aB.size;(try simp only[World.size_alloc,World.size_drew,World.size_setCell]at Np)))
  go_region_held3 (λw'=>aA w' w2.heap.size 0 (Y (jQ h l (bnd n).toNat))/\aA w' w2.heap.size 1 (Y (kG h l (bnd n).toNat))
    /\aA w' (w.heap.size+1+1+1+1) 0 (Y l)/\aA w' (w.heap.size+1+1+1+1) 1 (Y h))
   ((go_split_ands;(repeat' apply And.intro)<;>exact kl))
   (first|(go_at_call 248;refine(aAD _ _ _).mono ?_;rintro e w3 ⟨rfl,aK⟩;have Bo:=aK.cells;have Bg:=aK.dX;have mY:=aK.size;(try simp only[World.size_alloc,World.size_drew,World.size_setCell]at mY))|(go_at_call 302;refine(HLL _).mono ?_;rintro e w4 ⟨rfl,aV⟩;have q0:aA w4 (w.heap.size+1) 0 (Y 0):=(by go_split_ands;exact kl);have q1:aA w4 (w.heap.size+1) 1 (Y 0):=(by go_split_ands;exact kl);have z0:dB w4 (w.heap.size+1) 0:=(by go_split_ands;exact kl);have z1:dB w4 (w.heap.size+1) 1:=(by go_split_ands;exact kl)))
 all_goals go_wp2
 all_goals
  exact bW (by simp[results,Tryz.results244,go_sem,q0,q1])
def yQ(h l n:Int)(Qv:0<=h)(Z4:0<=l)(hh1:aG h)(o9:aG l)(w:World):
  QR 244 #[aN h l,J n] w (.tuple #[aN (kG h l (bnd n).toNat) (jQ h l (bnd n).toNat),Z (jY h l (bnd n).toNat)]):=by
 obtain⟨aGV,k0,k1,k2,k3⟩:=aC5 h l (bnd n).toNat Qv Z4 hh1 o9;refine Jz h l n _ _ _ Qv Z4 hh1 o9 (λw=>Ws _ _ n k2 k0 k3 k1 w) ?_ w;generalize qN (kG h l (bnd n).toNat) (jQ h l (bnd n).toNat) (bnd n).toNat =A at*
 generalize qO (kG h l (bnd n).toNat) (jQ h l (bnd n).toNat) (bnd n).toNat =B at*
 generalize jY h l (bnd n).toNat =r at*
 by_cases hA:A=l
 .by_cases hB:B=h
  .exact .inl ⟨hA.symm,hB.symm,aGV.mp ⟨hB,hA⟩⟩
  .refine .inr (.inr ⟨hA.symm,by simp[hB],?_⟩);cases r
   .exact absurd (aGV.mpr rfl).1 hB
   .rfl
 .refine .inr (.inl ⟨by simp[hA],?_⟩);cases r
  .exact absurd (aGV.mpr rfl).2 hA
  .rfl
def Xy(M k:Nat):(M:Int)/2^k=((M/2^k:Nat):Int):=by rw[Int.natCast_ediv,Int.natCast_pow];rfl
def aHw(M k:Nat):(M:Int)%2^k=((M%2^k:Nat):Int):=by rw[Int.natCast_emod,Int.natCast_pow];rfl
def cast_mul(M k:Nat):(M:Int)*2^k=((M*2^k:Nat):Int):=by rw[Int.natCast_mul,Int.natCast_pow];rfl
def aMq(M:Nat)(hM:M<340282366920938463463374607431768211456)(n:Nat)(w:World):
  QR 244 #[aN ((M/18446744073709551616:Nat):Int) ((M%18446744073709551616:Nat):Int),J n] w (.tuple #[aN ((M/2^n/18446744073709551616:Nat):Int) ((M/2^n%18446744073709551616:Nat):Int),Z (decide (M%2^n≠0))]):=by
 have e0:((M/18446744073709551616:Nat):Int)*18446744073709551616+((M%18446744073709551616:Nat):Int)=(M:Int):=om;obtain⟨k,hk,aPX,aSb⟩:∃k:Nat,(bnd (n:Int)).toNat =k/\M/2^k=M/2^n/\M%2^k=M%2^n:=by
  unfold bnd;rw[if_neg (by omega)];by_cases h:128<(n:Int)
  .rw[if_pos h];have h1:M<2^128:=by simpa using hM
   have h2:=fZ (om:128<=n);exact⟨128,rfl,by rw[Nat.div_eq_of_lt h1,Nat.div_eq_of_lt (by omega)],by rw[Nat.mod_eq_of_lt h1,Nat.mod_eq_of_lt (by omega)]⟩
  .rw[if_neg h];exact⟨n,by simp,rfl,rfl⟩
 refine(yQ _ _ (n:Int) om om om om w).mono ?_;rintro e w' ⟨rfl,hg⟩;refine⟨LU ?_ ?_ ?_,hg⟩
 .unfold kG;rw[hk,e0,Xy,aPX];omega
 .unfold jQ;rw[hk,e0,Xy,aPX];omega
 .unfold jY;rw[hk,e0,aHw,aSb];generalize M%2^n=R;by_cases h:R=0
  .simp[h]
  .simp[h]
def aQ2(M:Nat)(hM:M<340282366920938463463374607431768211456)(n:Nat)(hn:n<=128)(h:M*2^n<18446744073709551616)(w:World):
  QR 256 #[aN ((M/18446744073709551616:Nat):Int) ((M%18446744073709551616:Nat):Int),J n] w (aN 0 ((M*2^n:Nat):Int)):=by
 have e0:((M/18446744073709551616:Nat):Int)*18446744073709551616+((M%18446744073709551616:Nat):Int)=(M:Int):=om;have hk:(bnd (n:Int)).toNat =n:=by unfold bnd;rw[if_neg om,if_neg (by omega)];simp
 refine(uQ _ _ (n:Int) om om om om w).mono ?_;rintro e w' ⟨rfl,hg⟩;refine⟨P6 ?_ ?_,hg⟩
 .unfold qO;rw[hk,e0,cast_mul];omega
 .unfold qN;rw[hk,e0,cast_mul];omega
def UG{P:Prop}(h:P:=by
 refine bodyPost_ret (v:=aP z 20) (by simp[results,Tryz.results253,go_sem,gG,Di]) rfl ⟨by simp,?_⟩;exact kr):P:=h
def UH{P:Prop}(h:P:=by
 refine bodyPost_ret (v:=aP (z-1) 20) (by simp[results,Tryz.results253,go_sem,gG,Di]) rfl ⟨by simp,?_⟩;exact kr):P:=h
def sv(aJ sg z:Int):Int:=if aJ=1 then sg+z else z
def yS(h:wQ p mn mx fb sp one aI sg nan)(md:Int)(aJ z:Int)(sB U:Bool)(hs:aJ=0/\z=aI\/aJ=1/\z=sg+aI)(hsB:(aJ==1)=sB)(hU:ru 0 sB O O O=U)(hz:1<=z)(iR:aG z)(w:World):
  QK p mn mx md 185 aJ w (if U then z else z-1) 20:=by
 have HI:yB p mn mx aJ z:=λw=>mD h aJ z hs w;have HR:KW 185 #[Z sB,Z O,Z O,Z O] (Z U):=λw=>hU▸rE sB O O O w;clear hU hs h;cases U
 .go_enter func253,ntmps253;go_wp2_with (first|(go_at_call 240;refine(HI _).mono ?_;rintro e w1 ⟨rfl,ak⟩;have am4:aA w1 w.heap.size 4 (.func (.func 185) #[] #[]):=kq;obtain⟨gG,Uk,Di,Uj⟩:jC w1 (w.heap.size+1) 0 1 (Y 0) (J 0):=⟨kq,kq,kq,kq⟩)|(go_at_call 185;refine kw (HR _) ?_))
  exact UH
 .go_enter func253,ntmps253;go_wp2_with (first|(go_at_call 240;refine(HI _).mono ?_;rintro e w1 ⟨rfl,ak⟩;have am4:aA w1 w.heap.size 4 (.func (.func 185) #[] #[]):=kq;obtain⟨gG,Uk,Di,Uj⟩:jC w1 (w.heap.size+1) 0 1 (Y 0) (J 0):=⟨kq,kq,kq,kq⟩)|(go_at_call 185;refine kw (HR _) ?_))
  exact UG
def yT(h:wQ p mn mx fb sp one aI sg nan)(md:Int)(aJ z:Int)(sB U:Bool)(hs:aJ=0/\z=aI\/aJ=1/\z=sg+aI)(hsB:(aJ==1)=sB)(hU:ru 1 sB O O O=U)(hz:1<=z)(iR:aG z)(w:World):
  QK p mn mx md 294 aJ w (if U then z else z-1) 20:=by
 have HI:yB p mn mx aJ z:=λw=>mD h aJ z hs w;have HR:KW 294 #[Z sB,Z O,Z O,Z O] (Z U):=λw=>hU▸xZ sB O O O w;clear hU hs h;cases U
 .go_enter func253,ntmps253;go_wp2_with (first|(go_at_call 240;refine(HI _).mono ?_;rintro e w1 ⟨rfl,ak⟩;have am4:aA w1 w.heap.size 4 (.func (.func 294) #[] #[]):=kq;obtain⟨gG,Uk,Di,Uj⟩:jC w1 (w.heap.size+1) 0 1 (Y 0) (J 0):=⟨kq,kq,kq,kq⟩)|(go_at_call 294;refine kw (HR _) ?_))
  exact UH
 .go_enter func253,ntmps253;go_wp2_with (first|(go_at_call 240;refine(HI _).mono ?_;rintro e w1 ⟨rfl,ak⟩;have am4:aA w1 w.heap.size 4 (.func (.func 294) #[] #[]):=kq;obtain⟨gG,Uk,Di,Uj⟩:jC w1 (w.heap.size+1) 0 1 (Y 0) (J 0):=⟨kq,kq,kq,kq⟩)|(go_at_call 294;refine kw (HR _) ?_))
  exact UG
def AB(h:wQ p mn mx fb sp one aI sg nan)(md:Int)(aJ z:Int)(sB U:Bool)(hs:aJ=0/\z=aI\/aJ=1/\z=sg+aI)(hsB:(aJ==1)=sB)(hU:ru 2 sB O O O=U)(hz:1<=z)(iR:aG z)(w:World):
  QK p mn mx md 295 aJ w (if U then z else z-1) 20:=by
 have HI:yB p mn mx aJ z:=λw=>mD h aJ z hs w;have HR:KW 295 #[Z sB,Z O,Z O,Z O] (Z U):=λw=>hU▸yN sB O O O w;clear hU hs h;cases U
 .go_enter func253,ntmps253;go_wp2_with (first|(go_at_call 240;refine(HI _).mono ?_;rintro e w1 ⟨rfl,ak⟩;have am4:aA w1 w.heap.size 4 (.func (.func 295) #[] #[]):=kq;obtain⟨gG,Uk,Di,Uj⟩:jC w1 (w.heap.size+1) 0 1 (Y 0) (J 0):=⟨kq,kq,kq,kq⟩)|(go_at_call 295;refine kw (HR _) ?_))
  exact UH
 .go_enter func253,ntmps253;go_wp2_with (first|(go_at_call 240;refine(HI _).mono ?_;rintro e w1 ⟨rfl,ak⟩;have am4:aA w1 w.heap.size 4 (.func (.func 295) #[] #[]):=kq;obtain⟨gG,Uk,Di,Uj⟩:jC w1 (w.heap.size+1) 0 1 (Y 0) (J 0):=⟨kq,kq,kq,kq⟩)|(go_at_call 295;refine kw (HR _) ?_))
  exact UG
def JA(h:wQ p mn mx fb sp one aI sg nan)(md:Int)(aJ z:Int)(sB U:Bool)(hs:aJ=0/\z=aI\/aJ=1/\z=sg+aI)(hsB:(aJ==1)=sB)(hU:ru 3 sB O O O=U)(hz:1<=z)(iR:aG z)(w:World):
  QK p mn mx md 296 aJ w (if U then z else z-1) 20:=by
 have HI:yB p mn mx aJ z:=λw=>mD h aJ z hs w;have HR:KW 296 #[Z sB,Z O,Z O,Z O] (Z U):=λw=>hU▸KA sB O O O w;clear hU hs h;cases U
 .go_enter func253,ntmps253;go_wp2_with (first|(go_at_call 240;refine(HI _).mono ?_;rintro e w1 ⟨rfl,ak⟩;have am4:aA w1 w.heap.size 4 (.func (.func 296) #[] #[]):=kq;obtain⟨gG,Uk,Di,Uj⟩:jC w1 (w.heap.size+1) 0 1 (Y 0) (J 0):=⟨kq,kq,kq,kq⟩)|(go_at_call 296;refine kw (HR _) ?_))
  exact UH
 .go_enter func253,ntmps253;go_wp2_with (first|(go_at_call 240;refine(HI _).mono ?_;rintro e w1 ⟨rfl,ak⟩;have am4:aA w1 w.heap.size 4 (.func (.func 296) #[] #[]):=kq;obtain⟨gG,Uk,Di,Uj⟩:jC w1 (w.heap.size+1) 0 1 (Y 0) (J 0):=⟨kq,kq,kq,kq⟩)|(go_at_call 296;refine kw (HR _) ?_))
  exact UG
def DC(h:wQ p mn mx fb sp one aI sg nan)(md:Int)(aJ z:Int)(sB U:Bool)(hs:aJ=0/\z=aI\/aJ=1/\z=sg+aI)(hsB:(aJ==1)=sB)(hU:ru 4 sB O O O=U)(hz:1<=z)(iR:aG z)(w:World):
  QK p mn mx md 297 aJ w (if U then z else z-1) 20:=by
 have HI:yB p mn mx aJ z:=λw=>mD h aJ z hs w;have HR:KW 297 #[Z sB,Z O,Z O,Z O] (Z U):=λw=>hU▸D_ sB O O O w;clear hU hs h;cases U
 .go_enter func253,ntmps253;go_wp2_with (first|(go_at_call 240;refine(HI _).mono ?_;rintro e w1 ⟨rfl,ak⟩;have am4:aA w1 w.heap.size 4 (.func (.func 297) #[] #[]):=kq;obtain⟨gG,Uk,Di,Uj⟩:jC w1 (w.heap.size+1) 0 1 (Y 0) (J 0):=⟨kq,kq,kq,kq⟩)|(go_at_call 297;refine kw (HR _) ?_))
  exact UH
 .go_enter func253,ntmps253;go_wp2_with (first|(go_at_call 240;refine(HI _).mono ?_;rintro e w1 ⟨rfl,ak⟩;have am4:aA w1 w.heap.size 4 (.func (.func 297) #[] #[]):=kq;obtain⟨gG,Uk,Di,Uj⟩:jC w1 (w.heap.size+1) 0 1 (Y 0) (J 0):=⟨kq,kq,kq,kq⟩)|(go_at_call 297;refine kw (HR _) ?_))
  exact UG
def R_(h:wQ p mn mx fb sp one aI sg nan)(md:Int)(aj:Int)(k:Nat)(hk:xU aj k)(aJ:Int)(hs:aJ=0\/aJ=1)(w:World):
  QK p mn mx md k aJ w (sv aJ sg (jE aI aj aJ)) 20:=by
 have b:0<aI/\aI<sg/\sg<=9223372036854775808:=by rcases h with h|h<;>omega
 obtain⟨z,hz⟩:∃z,aJ=0/\z=aI\/aJ=1/\z=sg+aI:=by
  rcases hs with rfl|rfl
  .exact⟨aI,.inl ⟨rfl,rfl⟩⟩
  .exact⟨sg+aI,.inr ⟨rfl,rfl⟩⟩
 have fin:∀x w',(x=Ending.returned (aP (if ru aj (aJ==1) O O O then z else z-1) 20)/\Gr w w')->(x=Ending.returned (aP (sv aJ sg (jE aI aj aJ)) 20)/\Gr w w'):=by
  rintro x w' ⟨rfl,hg⟩;refine⟨?_,hg⟩;have e:(if ru aj (aJ==1) O O O then z else z-1)=sv aJ sg (jE aI aj aJ):=by
   rcases hz with⟨rfl,rfl⟩|⟨rfl,rfl⟩<;>rcases hk with⟨rfl,_⟩|⟨rfl,_⟩|⟨rfl,_⟩|⟨rfl,_⟩|⟨rfl,_⟩<;>simp[ru,sv,jE]<;>omega
  rw[e]
 rcases hk with⟨rfl,rfl⟩|⟨rfl,rfl⟩|⟨rfl,rfl⟩|⟨rfl,rfl⟩|⟨rfl,rfl⟩
 .exact(yS h md aJ z _ _ hz rfl rfl om om w).mono (λx w' h=>fin x w' h)
 .exact(yT h md aJ z _ _ hz rfl rfl om om w).mono (λx w' h=>fin x w' h)
 .exact(AB h md aJ z _ _ hz rfl rfl om om w).mono (λx w' h=>fin x w' h)
 .exact(JA h md aJ z _ _ hz rfl rfl om om w).mono (λx w' h=>fin x w' h)
 .exact(DC h md aJ z _ _ hz rfl rfl om om w).mono (λx w' h=>fin x w' h)
def dh(h:wQ p mn mx fb sp one aI sg nan)(w:World):
  QR 171 #[jX p mn mx] w (aP nan 1):=by
 have HN:KR 238 #[jX p mn mx] (Y nan):=λw=>J5 h w;clear h;go_enter func171,ntmps171;go_wp2_with (go_at_call 238;refine(HN _).mono ?_;rintro e w1 ⟨rfl,ak⟩;obtain⟨gG,Uk,Di,Uj⟩:jC w1 (w.heap.size+1) 0 1 (Y 0) (J 0):=⟨kq,kq,kq,kq⟩);exact bW (by simp[results,Tryz.results171,go_sem,gG,Di])
def aQm(M:Nat)(hM:M<340282366920938463463374607431768211456):bl (M:Int)=(nb M:Int):=by
 unfold bl;by_cases h:(M:Int)/18446744073709551616=0
 .rw[if_pos h];have e:((M:Int)%18446744073709551616).toNat =M:=om;rw[e,Ak M (by omega)]
 .rw[if_neg h];have e:((M:Int)/18446744073709551616).toNat =M/18446744073709551616:=om;have h2:=DK M 64 (by simp only[Nat.reducePow];omega);simp only[Nat.reducePow]at h2;rw[e,Ak _ om,h2];omega
def aDV(M:Nat)(hM:M<340282366920938463463374607431768211456)(w:World):
  QR 252 #[aN ((M/18446744073709551616:Nat):Int) ((M%18446744073709551616:Nat):Int)] w (J (128-(nb M:Int))):=by
 have e0:((M/18446744073709551616:Nat):Int)*18446744073709551616+((M%18446744073709551616:Nat):Int)=(M:Int):=om;have:=Po ((M/18446744073709551616:Nat):Int) ((M%18446744073709551616:Nat):Int) om om om om w;rw[aNV _ _ om om om om,e0,aQm M hM]at this;exact this
def aH7(m0:-1022<=mn)(m1:mn<=0)(md:Int)(k:Nat)(b_ aJ e mh ml:Int)(bT:Bool)(jV:(b_==mn-1)=false)(w:World):
  QR 255 #[dN p mn mx md k,J b_,J aJ,J e,aN mh ml,Z bT] w (Z (decide (b_<mn))):=by
 go_enter func255,ntmps255;go_wp2;go_returns;exact⟨rfl,kr⟩
def aH8(h:wQ p mn mx fb sp one aI sg nan)(md:Int)(k:Nat)(b_ aJ e mh ml a1 dr r2:Int)(bT b2 tb:Bool)(iT:b_=mn-1)(e0:-200000<=e)(e1:e<=200000)(ha:b_-fb=a1)(hdr:a1-e=dr)(r0:0<=r2)(r1:aG r2)(htb:tb=decide (r2<2*one))
  (HAt:Jj k dr aJ mh ml bT r2 b2) (w:World):
  QR 255 #[dN p mn mx md k,J b_,J aJ,J e,aN mh ml,Z bT] w (Z tb):=by
 have HF:EG p mn mx fb:=λw=>vk h w;have tb2:-2000<=b_/\b_<=0:=by rcases h with h|h<;>omega
 have u1:IntKind.i64.wrap (b_-fb)=a1:=by rw[ha];exact Aq _ (by rcases h with h|h<;>omega) (by rcases h with h|h<;>omega)
 have u2:IntKind.i64.wrap (a1-e)=dr:=by rw[hdr];exact Aq _ (by rcases h with h|h<;>omega) (by rcases h with h|h<;>omega)
 have HT:Hid (tb=decide (r2<2*one)):=htb;clear ha hdr htb;rcases h with⟨rfl,rfl,rfl,rfl,rfl,rfl,rfl,rfl,rfl⟩|⟨rfl,rfl,rfl,rfl,rfl,rfl,rfl,rfl,rfl⟩
 .have heq:(b_== -127)=O:=jl;clear iT;go_enter func255,ntmps255;go_wp2;go_region_held3 (λw'=>aA w' w.heap.size 0 (J 24)/\aA w' w.heap.size 1 (J (-126))/\aA w' w.heap.size 2 (J 127)/\aA w' w.heap.size 3 (J md)/\aA w' w.heap.size 4 (.func (.func k) #[] #[])/\aA w' (w.heap.size+1) 0 (Y mh)/\aA w' (w.heap.size+1) 1 (Y ml))((go_split_ands;(repeat' apply And.intro)<;>exact kl))(first|(go_at_call 182;refine(HF _).mono ?_;rintro e w1 ⟨rfl,ak⟩;have aP2:=ak.cells;have aPU:=ak.dX;have aBl:=ak.size;(try simp only[World.size_alloc,World.size_drew,World.size_setCell]at aBl))|(go_at_call 254;refine(HAt _).mono ?_;rintro e w2 ⟨rfl,aB⟩;have aGR:=aB.cells;have aGN:=aB.dX;have Np:=aB.size;(try simp only[World.size_alloc,World.size_drew,World.size_setCell]at Np)))
  all_goals (try go_split_ands)<;>go_wp2
  all_goals go_returns
  all_goals
   refine⟨bU (congrArg Value.bool ?_),kr⟩;rw[HT.out];first|(rw[Bool.eq_iff_iff];simp;omega)|(by_cases c:r2<16777216<;>first|(rw[decide_eq_true (by omega)];simp;omega)|(rw[decide_eq_false (by omega)];simp;omega))
 .have heq:(b_== -1023)=O:=jl;clear iT;go_enter func255,ntmps255;go_wp2;go_region_held3 (λw'=>aA w' w.heap.size 0 (J 53)/\aA w' w.heap.size 1 (J (-1022))/\aA w' w.heap.size 2 (J 1023)/\aA w' w.heap.size 3 (J md)/\aA w' w.heap.size 4 (.func (.func k) #[] #[])/\aA w' (w.heap.size+1) 0 (Y mh)/\aA w' (w.heap.size+1) 1 (Y ml))((go_split_ands;(repeat' apply And.intro)<;>exact kl))(first|(go_at_call 182;refine(HF _).mono ?_;rintro e w1 ⟨rfl,ak⟩;have aP2:=ak.cells;have aPU:=ak.dX;have aBl:=ak.size;(try simp only[World.size_alloc,World.size_drew,World.size_setCell]at aBl))|(go_at_call 254;refine(HAt _).mono ?_;rintro e w2 ⟨rfl,aB⟩;have aGR:=aB.cells;have aGN:=aB.dX;have Np:=aB.size;(try simp only[World.size_alloc,World.size_drew,World.size_setCell]at Np)))
  all_goals (try go_split_ands)<;>go_wp2
  all_goals go_returns
  all_goals
   refine⟨bU (congrArg Value.bool ?_),kr⟩;rw[HT.out];first|(rw[Bool.eq_iff_iff];simp;omega)|(by_cases c:r2<9007199254740992<;>first|(rw[decide_eq_true (by omega)];simp;omega)|(rw[decide_eq_false (by omega)];simp;omega))
def aLf{P:Prop}(h:P:=by
 clear hL hk hg;rcases h with⟨rfl,rfl,rfl,rfl,rfl,rfl,rfl,rfl,rfl⟩|⟨rfl,rfl,rfl,rfl,rfl,rfl,rfl,rfl,rfl⟩
 .have v1:IntKind.i64.wrap (-126)=-126:=de;have v2:IntKind.i64.wrap (-149)=-149:=de;have v3:IntKind.i64.wrap (-149-k)=-149-k:=Aq _ om om;go_enter func299,ntmps299;go_wp2_with (go_at_call 182;refine(HF _).mono ?_;rintro e w3 ⟨rfl,aK⟩;obtain⟨r0,r1,r2⟩:jv w3 w.heap.size 0 1 2 (J 24) (J (-126)) (J 127):=⟨kq,kq,kq⟩;obtain⟨r3,r4,r5,r6⟩:oV w3 (w.heap.size+1) 0 1 2 3 (J 0) (J 0) (J 0) (Y 0):=⟨kq,kq,kq,kq⟩;have z3:dB w3 (w.heap.size+1) 0:=kq;have z4:dB w3 (w.heap.size+1) 1:=kq;have z5:dB w3 (w.heap.size+1) 2:=kq;have z6:dB w3 (w.heap.size+1) 3:=kq);go_region_held3 (λw'=>aA w' w.heap.size 0 (J 24)/\aA w' w.heap.size 1 (J (-126))/\aA w' w.heap.size 2 (J 127)/\aA w' (w.heap.size+1) 0 (J 0)/\aA w' (w.heap.size+1) 1 (J 0)/\aA w' (w.heap.size+1) 2 (J 0)/\aA w' (w.heap.size+1) 3 (Y 0)/\dB w' (w.heap.size+1) 0/\dB w' (w.heap.size+1) 1/\dB w' (w.heap.size+1) 2/\dB w' (w.heap.size+1) 3)((go_split_ands;(repeat' apply And.intro)<;>exact kl))(first|(go_at_call 182;refine(HF _).mono ?_;rintro e w5 ⟨rfl,bJ⟩;have aP1:=bJ.cells;have aPT:=bJ.dX;have aGD:=bJ.size;(try simp only[World.size_alloc,World.size_drew,World.size_setCell]at aGD))|(go_at_call 321;refine(HL _).mono ?_;rintro e w6 ⟨rfl,hw⟩;rw[hw];clear hw))
  all_goals go_wp2
  go_region_held3 (λw'=>aA w' w.heap.size 0 (J 24)/\aA w' w.heap.size 1 (J (-126))/\aA w' w.heap.size 2 (J 127))((go_split_ands;(repeat' apply And.intro)<;>exact kl))(first|(go_at_call 182;refine(HF _).mono ?_;rintro e w7 ⟨rfl,ji⟩;have aP0:=ji.cells;have aPS:=ji.dX;have aGC:=ji.size;(try simp only[World.size_alloc,World.size_drew,World.size_setCell]at aGC);have s0:aA w7 (w.heap.size+1) 0 (J 0):=(by go_split_ands;exact kq);have y0:dB w7 (w.heap.size+1) 0:=(by go_split_ands;exact kq);have s1:aA w7 (w.heap.size+1) 1 (J 0):=(by go_split_ands;exact kq);have y1:dB w7 (w.heap.size+1) 1:=(by go_split_ands;exact kq);have s2:aA w7 (w.heap.size+1) 2 (J 0):=(by go_split_ands;exact kq);have y2:dB w7 (w.heap.size+1) 2:=(by go_split_ands;exact kq);have s3:aA w7 (w.heap.size+1) 3 (Y 0):=(by go_split_ands;exact kq);have y3:dB w7 (w.heap.size+1) 3:=(by go_split_ands;exact kq))|(go_at_call 321;refine(HL _).mono ?_;rintro e w8 ⟨rfl,hw⟩;rw[hw];clear hw))
  all_goals go_wp2
  all_goals
   exact bW (by simp[results,Tryz.results299,go_sem,s0,s1,s2,s3])
 .have v1:IntKind.i64.wrap (-1022)=-1022:=de;have v2:IntKind.i64.wrap (-1074)=-1074:=de;have v3:IntKind.i64.wrap (-1074-k)=-1074-k:=Aq _ om om;go_enter func299,ntmps299;go_wp2_with (go_at_call 182;refine(HF _).mono ?_;rintro e w3 ⟨rfl,aK⟩;obtain⟨r0,r1,r2⟩:jv w3 w.heap.size 0 1 2 (J 53) (J (-1022)) (J 1023):=⟨kq,kq,kq⟩;obtain⟨r3,r4,r5,r6⟩:oV w3 (w.heap.size+1) 0 1 2 3 (J 0) (J 0) (J 0) (Y 0):=⟨kq,kq,kq,kq⟩;have z3:dB w3 (w.heap.size+1) 0:=kq;have z4:dB w3 (w.heap.size+1) 1:=kq;have z5:dB w3 (w.heap.size+1) 2:=kq;have z6:dB w3 (w.heap.size+1) 3:=kq);go_region_held3 (λw'=>aA w' w.heap.size 0 (J 53)/\aA w' w.heap.size 1 (J (-1022))/\aA w' w.heap.size 2 (J 1023)/\aA w' (w.heap.size+1) 0 (J 0)/\aA w' (w.heap.size+1) 1 (J 0)/\aA w' (w.heap.size+1) 2 (J 0)/\aA w' (w.heap.size+1) 3 (Y 0)/\dB w' (w.heap.size+1) 0/\dB w' (w.heap.size+1) 1/\dB w' (w.heap.size+1) 2/\dB w' (w.heap.size+1) 3)((go_split_ands;(repeat' apply And.intro)<;>exact kl))(first|(go_at_call 182;refine(HF _).mono ?_;rintro e w5 ⟨rfl,bJ⟩;have aP1:=bJ.cells;have aPT:=bJ.dX;have aGD:=bJ.size;(try simp only[World.size_alloc,World.size_drew,World.size_setCell]at aGD))|(go_at_call 321;refine(HL _).mono ?_;rintro e w6 ⟨rfl,hw⟩;rw[hw];clear hw))
  all_goals go_wp2
  go_region_held3 (λw'=>aA w' w.heap.size 0 (J 53)/\aA w' w.heap.size 1 (J (-1022))/\aA w' w.heap.size 2 (J 1023))((go_split_ands;(repeat' apply And.intro)<;>exact kl))(first|(go_at_call 182;refine(HF _).mono ?_;rintro e w7 ⟨rfl,ji⟩;have aP0:=ji.cells;have aPS:=ji.dX;have aGC:=ji.size;(try simp only[World.size_alloc,World.size_drew,World.size_setCell]at aGC);have s0:aA w7 (w.heap.size+1) 0 (J 0):=(by go_split_ands;exact kq);have y0:dB w7 (w.heap.size+1) 0:=(by go_split_ands;exact kq);have s1:aA w7 (w.heap.size+1) 1 (J 0):=(by go_split_ands;exact kq);have y1:dB w7 (w.heap.size+1) 1:=(by go_split_ands;exact kq);have s2:aA w7 (w.heap.size+1) 2 (J 0):=(by go_split_ands;exact kq);have y2:dB w7 (w.heap.size+1) 2:=(by go_split_ands;exact kq);have s3:aA w7 (w.heap.size+1) 3 (Y 0):=(by go_split_ands;exact kq);have y3:dB w7 (w.heap.size+1) 3:=(by go_split_ands;exact kq))|(go_at_call 321;refine(HL _).mono ?_;rintro e w8 ⟨rfl,hw⟩;rw[hw];clear hw))
  all_goals go_wp2
  all_goals
   exact bW (by simp[results,Tryz.results299,go_sem,s0,s1,s2,s3])):P:=h
def TJ(h:wQ p mn mx fb sp one aI sg nan)(s c:Int)(c0:0<=c)(c1:c<one)(L:Int)(k:Nat)(hL:(Go.Lib.bitLen c.toNat:Int)=L)(hk:p-L=(k:Int))(k1:k<=53)(g:Int)(hg:c*2^k=g)(g0:0<=g)(g1:g<9007199254740992)(w:World):
  QR 299 #[jX p mn mx,J s,Y c] w (d_ 1 s (mn-fb-k) g):=by
 have c2:c<9007199254740992:=by rcases h with h|h<;>omega
 have HF:EG p mn mx fb:=λw=>vk h w;have HL:Hid (∀w,CT 321 #[Y c] w λe w'=>e=.returned (J L)/\w'=w):=λw=>hL▸zN c c0 om w;have u1:IntKind.i64.wrap (p-L)=(k:Int):=by rw[hk];exact Aq _ om om
 have u2:IntKind.u64.wrap (c*2^k)=g:=by rw[hg];exact wu64 _ g0 om
 have u6:¬(k:Int)<0:=om;have hd:c/one=0:=Int.ediv_eq_zero_of_lt c0 c1;have aNk:max (-1:Int) 0=0:=de;have u4:IntKind.i64.wrap (mn-fb)=mn-fb:=Aq _ (by rcases h with h|h<;>omega) (by rcases h with h|h<;>omega);have u5:IntKind.i64.wrap (mn-fb-k)=mn-fb-k:=Aq _ (by rcases h with h|h<;>omega) (by rcases h with h|h<;>omega);exact aLf
def aAe(h:wQ p mn mx fb sp one aI sg nan)(s mag q c:Int)(q0:0<=q)(hd:mag/one=q+1)(m0:0<=mag)(m1:mag<aI)(hc:mag-q*one=c)(c0:0<=c)(c2:c<9007199254740992)(L:Int)(k:Nat)(hL:(Go.Lib.bitLen c.toNat:Int)=L)(hk:p-L=(k:Int))(k1:k<=53)(g:Int)(hg:c*2^k=g)(g0:0<=g)(g1:g<9007199254740992)(w:World):
  QR 299 #[jX p mn mx,J s,Y mag] w (d_ 1 s (mn+q-fb-k) g):=by
 have HF:EG p mn mx fb:=λw=>vk h w;have HL:Hid (∀w,CT 321 #[Y c] w λe w'=>e=.returned (J L)/\w'=w):=λw=>hL▸zN c c0 om w;have u1:IntKind.i64.wrap (p-L)=(k:Int):=by rw[hk];exact Aq _ om om
 have u2:IntKind.u64.wrap (c*2^k)=g:=by rw[hg];exact wu64 _ g0 om
 have u6:¬(k:Int)<0:=om;have q1:q<10000:=by rcases h with⟨rfl,rfl,rfl,rfl,rfl,rfl,rfl,rfl,rfl⟩|⟨rfl,rfl,rfl,rfl,rfl,rfl,rfl,rfl,rfl⟩<;>omega
 have aNk:max q 0=q:=om;have u3:IntKind.i64.wrap (mn+q)=mn+q:=Aq _ (by rcases h with h|h<;>omega) (by rcases h with h|h<;>omega);have u4:IntKind.i64.wrap (mn+q-fb)=mn+q-fb:=Aq _ (by rcases h with h|h<;>omega) (by rcases h with h|h<;>omega);have u5:IntKind.i64.wrap (mn+q-fb-k)=mn+q-fb-k:=Aq _ (by rcases h with h|h<;>omega) (by rcases h with h|h<;>omega);exact aLf
def aOf(r:Nat)(h:r<2^63):r^^^2^63=r+2^63:=by
 apply Nat.eq_of_testBit_eq;intro i;rw[Nat.testBit_xor,Nat.testBit_two_pow,Nat.add_comm];rcases Nat.lt_trichotomy i 63 with c|c|c
 .rw[Nat.testBit_two_pow_add_gt c,decide_eq_false (om:¬63=i),Bool.xor_false]
 .subst c;rw[Nat.testBit_two_pow_add_eq];simp[Nat.testBit_lt_two_pow h]
 .have h1:r<2^i:=Nat.lt_of_lt_of_le h (Nat.pow_le_pow_right de om);have h2:2^63+r<2^i:=Nat.lt_of_lt_of_le (om:2^63+r<2^64) (Nat.pow_le_pow_right de om);rw[Nat.testBit_lt_two_pow h1,Nat.testBit_lt_two_pow h2,decide_eq_false (om:¬63=i)];rfl
def aQP(a:Nat)(h:2^63<=a)(h2:a<2^64):a^^^2^63=a-2^63:=by
 have:=aOf (a-2^63) om;rw[(om:a-2^63+2^63=a)]at this;have e:a^^^2^63=(a-2^63^^^2^63)^^^2^63:=by rw[this]
 rw[e,Nat.xor_assoc,Nat.xor_self,Nat.xor_zero]
def aDW(ha:Wd a):bits .xor .u64 a 9223372036854775808=vM a:=by
 obtain⟨n,rfl⟩:=Int.eq_ofNat_of_zero_le ha.1;have hn:aG n:=by have:=ha.2;omega
 have h:=bits_xor_u64_nat n 9223372036854775808 hn om;refine h.trans ?_;unfold vM;split
 .rw[show n^^^9223372036854775808=n+9223372036854775808 from aOf n (by omega)];omega
 .rw[show n^^^9223372036854775808=n-9223372036854775808 from aQP n om (by omega)];omega
def P7:∀(z fl:Int) (w:World),(Instr.field 100 (aP z fl) 0).run Tryz.prog w=.ok (Y z) w:=λz fl w=>by kernel_rfl
def RY(H:o.I)(ha:Wd a)(hb:Wd b)(hw:Fm w):
  QR 268 #[Y a,Y b] w (Y (o.add a b)):=by
 have hf:=P7;have HA:=(H.add ha hb);generalize o.add a b=z at*
 clear ha hb H;go_enter func268,ntmps268;go_wp2_with (go_at_call 26;refine(HA _ hw).mono ?_;rintro e w1 ⟨fl,rfl,ak⟩);go_returns;exact⟨rfl,kr⟩
def aBh(H:o.I)(ha:Wd a)(hb:Wd b)(hw:Fm w):
  QR 200 #[Y a,Y b] w (Y (o.sub a b)):=by
 have hf:=P7;have HA:=(H.sub ha hb);generalize o.sub a b=z at*
 clear ha hb H;go_enter func200,ntmps200;go_wp2_with (go_at_call 27;refine(HA _ hw).mono ?_;rintro e w1 ⟨fl,rfl,ak⟩);go_returns;exact⟨rfl,kr⟩
def Rx(H:o.I)(ha:Wd a)(hb:Wd b)(hw:Fm w):
  QR 201 #[Y a,Y b] w (Y (o.mul a b)):=by
 have hf:=P7;have HA:=(H.mul ha hb);generalize o.mul a b=z at*
 clear ha hb H;go_enter func201,ntmps201;go_wp2_with (go_at_call 28;refine(HA _ hw).mono ?_;rintro e w1 ⟨fl,rfl,ak⟩);go_returns;exact⟨rfl,kr⟩
def aBU(H:o.I)(ha:Wd a)(hb:Wd b)(hw:Fm w):
  QR 313 #[Y a,Y b] w (Y (o.div a b)):=by
 have hf:=P7;have HA:=(H.div ha hb);generalize o.div a b=z at*
 clear ha hb H;go_enter func313,ntmps313;go_wp2_with (go_at_call 30;refine(HA _ hw).mono ?_;rintro e w1 ⟨fl,rfl,ak⟩);go_returns;exact⟨rfl,kr⟩
def aFy(H:o.I)(ha:Wd a)(hw:Fm w):
  QR 312 #[Y a] w (Y (o.sqrt a)):=by
 have hf:=P7;have HA:=(H.sqrt ha);generalize o.sqrt a=z at*
 clear ha H;go_enter func312,ntmps312;go_wp2_with (go_at_call 32;refine(HA _ hw).mono ?_;rintro e w1 ⟨fl,rfl,ak⟩);go_returns;exact⟨rfl,kr⟩
def Dw(ha:Wd a)(hw:Fm w):
  QR 314 #[Y a] w (Y (vM a)):=by
 obtain⟨p,mx,one,aI,sg,nan,hF⟩:∃p mx one aI sg nan,bD 1 p mx one aI sg nan:=⟨_,_,_,_,_,_,.inr ⟨rfl,rfl,rfl,rfl,rfl,rfl,rfl⟩⟩;obtain⟨mn,fb,sp,hM,zU,PD⟩:=hF.m;rcases hF with⟨h,_⟩|⟨_,rfl,rfl,rfl,rfl,rfl,rfl⟩
 .omega
 subst zU;have HZ:Om 53 (-1022) 1023 1 9223372036854775808:=λw=>mV hM 1 _ (.inr ⟨rfl,rfl⟩) w;obtain⟨c0,c1,c2,c3,c4,c5⟩:=hw;clear hM;go_enter func314,ntmps314;go_wp2_with (go_at_call 239;refine ku (HZ _) λw1 ak=>?_);go_returns;exact⟨bU (by simp[go_sem];exact aDW ha),kr⟩
def NW(H:o.I)(HI:o.In)(jo:Wd a1)(qo:Wd a2)(gU:Wd b1)(lC:Wd b2)(hw:Fm w):
  QR 197 #[aN a1 a2,aN b1 b2] w (aN (o.sub (o.mul a1 b1) (o.mul a2 b2)) (o.add (o.mul a1 b2) (o.mul a2 b1))):=by
 have h11:=HI.mul jo gU;have h22:=HI.mul qo lC;have h12:=HI.mul jo lC;have h21:=HI.mul qo gU;have HT:Hid (∀a b,Wd a->Wd b->∀w',Gr w w'->QR 201 #[Y a,Y b] w' (Y (o.mul a b))):=λa b ha hb w' hg=>Rx H ha hb (hw.gr hg);have HM:Hid (∀w',Gr w w'->QR 200 #[Y (o.mul a1 b1),Y (o.mul a2 b2)] w' (Y (o.sub (o.mul a1 b1) (o.mul a2 b2)))):=λw' hg=>aBh H h11 h22 (hw.gr hg);have HP:Hid (∀w',Gr w w'->QR 268 #[Y (o.mul a1 b2),Y (o.mul a2 b1)] w' (Y (o.add (o.mul a1 b2) (o.mul a2 b1)))):=λw' hg=>RY H h12 h21 (hw.gr hg);clear h11 h22 h12 h21 H HI hw;go_enter func197,ntmps197;go_wp2;go_region_held3 (λw'=>kM w' w.heap.size 0 1 (Y a1) (Y a2)/\kM w' (w.heap.size+1) 0 1 (Y b1) (Y b2))(exact nX)(first|(go_at_call 201;with_reducible refine ku (HT.out _ _ (by assumption) (by assumption) _ kr) λw1 ak=>?_;have:=ak.Ap w;have:=ak.QS w;have oM:=ak.TW w)|(go_at_call 200;with_reducible refine ku (HM.out _ kr) λw1 ak=>?_;have:=ak.Ap w;have:=ak.QS w;have oM:=ak.TW w)|(go_at_call 268;with_reducible refine ku (HP.out _ kr) λw1 ak=>?_;have:=ak.Ap w;have:=ak.QS w;have oM:=ak.TW w))
 all_goals
  go_wp2;exact bW (by simp[results,Tryz.results197,go_sem,oM])
def qR(ty t:TypeId)(z:Value)(size bytes:Nat)(JG:Tryz.prog.underlying ty=some (.slice t))(u_:(Tryz.prog.info? t).map (λi=>(i.zero,i.size,i.bytes))=some (some z,size,bytes))(Dh:bytes<=1000)(n:Nat)(hn:n<=10000000)(w:World):
  (Instr.makeSlice ty (J (n:Int)) (J (n:Int))).run Tryz.prog w=.ok (aC w.heap.size n n) (w.alloc (.cells (madeCells z.cells (n*size)) t)):=by
 obtain⟨i,hi,hz,hs,hb⟩:=info_parts u_;have AV:(i.bytes:Int)*(n:Int)<=281474976710656:=by
  have h:i.bytes*n<=1000*10000000:=Nat.mul_le_mul om hn;have h':((i.bytes*n:Nat):Int)<=281474976710656:=om
  rwa [Int.natCast_mul]at h'
 have hr:=run_make (P:=Tryz.prog) w ty t i z JG hi hz .i64 .i64 n n om (Int.le_refl _) AV om;simp only[Int.toNat_natCast,hs]at hr;exact hr
def aC3(z:Array Value)(k:IntKind)(hz:∀j,z[j%z.size]! =.int k 0)(m:Nat):(madeCells z m).toList =uv k m (λ_=>0):=by
 unfold madeCells uv;simp[hz]
def Ow.made(w:World)(t:TypeId)(size:Nat)(z:Array Value)(k:IntKind)(hz:∀j,z[j%z.size]! =.int k 0)(n:Nat)(hn:n<=10000000):Ow (w.alloc (.cells (madeCells z (n*size)) t)) w.heap.size t size k (aC w.heap.size n n) n (λ_=>0):=by
 have:=World.ownsRow_lit (base:=w.heap.size) (e:=t) (size:=size) w (madeCells z (n*size)) n (Nat.le_refl _) (by unfold maxLen;omega) (size_madeCells _ _);rw[aC3 z k hz]at this;exact this
def z1(k:IntKind):∀j,(#[Value.int k 0])[j%(#[Value.int k 0]).size]! =.int k 0:=λj=>by
 have:j%(#[Value.int k 0]).size =0:=Nat.mod_one j;rw[this];rfl
def z2(k:IntKind):∀j,(#[Value.int k 0,.int k 0])[j%(#[Value.int k 0,.int k 0]).size]! =.int k 0:=λj=>by
 rcases(om:j%2=0\/j%2=1)with e|e
 .show(#[Value.int k 0,.int k 0])[j%2]! =_;rw[e];rfl
 .show(#[Value.int k 0,.int k 0])[j%2]! =_;rw[e];rfl
