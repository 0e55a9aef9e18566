import Derived.Test.YthoelefkjpjhfaaGreatDoorT1
import Derived.Test.YthoelefkjpjhfaaGreatDoorK3
import Derived.Test.YthoelefkjpjhfaaGreatDoorN3
set_option linter.all false
set_option maxRecDepth 1000000
set_option maxHeartbeats 40000000
open Bool renaming false → E
open Go.Proofs.YthoelefkjpjhfaaGreatDoor renaming vI → J, vU → Y
open Go.Ending renaming returned → Z
open Go.Value renaming slice → O, tuple → V
open Go.Proofs.Tryz
namespace Go.Proofs.YthoelefkjpjhfaaGreatDoor
open Go.RowKit
variable {w w':ak}{o:Ops}{v cv:Value}{a1 a2 b1 b2 x wr wi p mx one aN sg nan x0 x1 x2 x3:Int}{base n m L len b F q cap size:Nat}{f g cs:Nat->Int}{ops:Array Oper}{rest:List Oper}{a:Act}{Q:Exit->Act->ak->Prop}{xs:Array Value}{K k:IntKind}{e:TypeId}{op:Oper}
def aLY{P:Prop}(h:P:=by
 go_wp2;go_loop [10,13] (λs10 s13=>∃(j:Nat) (x:Int),j<=64/\s10=Y x/\0<=x/\aI x/\s13=J (j:Int)) (λ_ s=>64-(intOf s).toNat)
 case atStart=>exact⟨n,v,hn,rfl,v0,v1,rfl⟩
 case round=>
  obtain⟨j,x,j1,rfl,x0,x1,rfl⟩:=hrel;by_cases hj:(j:Int)<64
  .go_wp2;go_round
   case rel=>exact⟨j+1,IntKind.u64.wrap (x*2),om,rfl,by simp only[iT];omega,by simp only[iT];omega,jS⟩
   case measure=>exact qL
  .go_wp2;go_loop [10,14] (λs10 s14=>∃(j:Nat) (x:Int),j<=64/\s10=Y x/\0<=x/\aI x/\s14=J (j:Int)) (λ_ s=>64-(intOf s).toNat)
   case atStart=>exact⟨n,x,hn,rfl,x0,x1,rfl⟩
   case round=>
    obtain⟨j',y,j2,rfl,y0,y1,rfl⟩:=hrel;by_cases hj':(j':Int)<64
    .go_wp2;go_round
     case rel=>exact⟨j'+1,y/2,om,rfl,om,om,jS⟩
     case measure=>exact qL
    .go_wp2;go_returns;exact⟨y,y0,y1,k,om,rfl,rfl⟩):P:=h
attribute [local go_sem] aB
structure kU (w:ak) (a:Option Addr) (len:Nat):Prop where
 few:len<=1048576
 cells:len=0\/∃b off,a=some ⟨b,off,none⟩/\∀i,i<len->∃z:Int,0<=z/\z<=255/\aB w b (off+i) (.int .u8 z)
def kU.gb{a:Option Addr}(h:kU w a len)(g:Gb w w'):kU w' a len:=⟨h.few,h.cells.imp id λ⟨b,off,e,c⟩=>⟨b,off,e,λi hi=>(c i hi).imp λz ⟨z0,z1,hz⟩=>⟨z0,z1,g.old hz⟩⟩⟩
abbrev Drw(F:Nat)(xs:Array Value)(w:ak)(K:IntKind)(n:Int)(q:Nat):Prop:=Calls prog F xs w λe w'=>∃x:Int,0<=x/\x<n/\∃k:Nat,k<=q/\e=Z (V #[.int K x,J (k:Int)])/\w=w'
def aJp(a b:Nat)(ha:a<4294967296)(hb:b<4294967296):0<=bits .xor .i64 (a:Int) (b:Int):=by
 have hx:a^^^b<2^32:=Nat.xor_lt_two_pow om om;show 0<=IntKind.i64.wrap ((BitVec.ofInt 64 (a:Int)^^^BitVec.ofInt 64 (b:Int)).toNat :Int);rw[BitVec.toNat_xor,ofInt_u64 a om,ofInt_u64 b om,dI];omega
def aAi{n:Int}(hx:0<=x)(hn:0<n):0<=Int.tmod x n/\Int.tmod x n<n:=by
 rw[Int.tmod_eq_emod_of_nonneg hx];exact⟨Int.emod_nonneg _ om,Int.emod_lt_of_pos _ hn⟩
def pW{n:Int}{P:Ending->ak->Prop}(h:Drw F xs w K n q)(g:∀x:Int,0<=x->x<n->∀k:Nat,k<=q->P (Z (V #[.int K x,J (k:Int)])) w):Calls prog F xs w P:=h.mono λe w' ⟨x,x0,x1,k,hk,he,hw⟩=>by subst he;subst hw;exact g x x0 x1 k hk
abbrev TkP(w:ak)(v:Value):Prop:=∀(k:Nat) (n:Int),k<=9000->0<n->n<=2000000->Drw 16 #[v,J k,J n] w .i64 n (k+1)
def tkP{a:Option Addr}(hC:kU w a len):TkP w (O a len cap):=by
 intro k n kF Ip hn1;have o_:=hC.few;rcases jL len with rfl|hl
 .clear hC;go_enter func16,ntmps16;go_wp2;go_returns;exact⟨0,om,Ip,k+1,om,rfl,rfl⟩
 obtain⟨b,off,rfl,hc⟩:=hC.cells.resolve_left om;have e0:((len:Int)==0)=E:=jA;by_cases h:k<len/\n<=256
 .obtain⟨z,z0,z1,hz⟩:=hc k h.1;have e1:(k:Int)<(len:Int):=om;have e2:=h.2;clear hC hc h;go_enter func16,ntmps16;go_wp2;go_returns;exact⟨z%n,Int.emod_nonneg _ om,Int.emod_lt_of_pos _ Ip,k+1,om,rfl,rfl⟩
 obtain⟨z,z0,z1,hz⟩:=hc (k%len) (oN _ hl);obtain⟨y,y0,y1,hy⟩:=hc ((k*7+3)%len) (oN _ hl);have m1:(k:Int).tmod (len:Int)=((k%len:Nat):Int):=by rw[Int.tmod_eq_emod_of_nonneg (by omega)];rfl
 have m2:((k:Int)*7+3).tmod (len:Int)=(((k*7+3)%len:Nat):Int):=by rw[Int.tmod_eq_emod_of_nonneg (by omega)];rfl
 have b1:=oN k hl;have b2:=oN (k*7+3) hl;have m3:=Int.emod_nonneg ((k:Int)*7+3) (om:(len:Int)≠0);have m4:=Int.emod_lt_of_pos ((k:Int)*7+3) (om:(0:Int)<len);have d0:0<=(k:Int)/(len:Int):=Int.ediv_nonneg om om;have d1:(k:Int)/(len:Int)<=9000:=by have:=Int.ediv_le_self (len:Int) (om:(0:Int)<=k);omega
 have HB:Hid (0<=bits .xor .i64 (z*131+y*1117+(k:Int)*29+(k:Int)/(len:Int)*53) ((z*131+y*1117+(k:Int)*29+(k:Int)/(len:Int)*53)/64)):=by
  obtain⟨X,hX⟩:=dP (z*131+y*1117+(k:Int)*29+(k:Int)/(len:Int)*53);rw[hX];obtain⟨N,rfl⟩:=lq (om:0<=X);rw[(om:((N:Int)/64)=((N/64:Nat):Int))];exact aJp N (N/64) om om
 have h':¬(k:Int)<(len:Int)\/((k:Int)<(len:Int)/\¬n<=256):=om;clear hC hc h;rcases h' with e1|⟨e1,e2⟩
 all_goals
  go_enter func16,ntmps16;go_wp2;go_returns;obtain⟨t0,t1⟩:=aAi HB.out Ip;exact⟨_,t0,t1,k+1,om,rfl,rfl⟩
def P_(a:Option Addr)(len cap p n:Nat)(hn:n<=64)(w:ak)(hC:kU w a len)(hp:p<=8000):
  Drw 109 #[O a len cap,J p,J n] w .u64 18446744073709551616 (p+10):=by
 have HT:Hid (TkP w (O a len cap)):=tkP hC;clear hC;go_enter func109,ntmps109;go_wp2_with (go_at_call 16;refine pW (HT p 5 om om om) λyt hw0 Qu k hk=>?_);go_loop [1,10,11] (λs1 s10 s11=>∃(i k:Nat) (v:Int),i<=8/\k<=p+1+i/\s1=J (k:Int)/\s10=Y v/\0<=v/\aI v/\s11=J (i:Int)) (λ_ _ s=>8-(intOf s).toNat)
 case atStart=>exact⟨0,k,0,om,om,rfl,rfl,om,om,rfl⟩
 case round=>
  obtain⟨i,k,v,hi,hk,rfl,rfl,v0,v1,rfl⟩:=hrel;by_cases fJ:(i:Int)<8
  .rcases(show yt=0\/yt=1\/((yt==0)=E/\(yt==1)=E) by simp;omega)with rfl|rfl|⟨e0,e1⟩<;>rcases(om:¬(0:Int)<(i:Int)\/((0:Int)<(i:Int)/\¬(i:Int)<7)\/((0:Int)<(i:Int)/\(i:Int)<7))with c|⟨c,c'⟩|⟨c,c'⟩
   all_goals
    go_wp2_with (go_at_call 16;refine pW (HT k 256 om om om) λx x0 x1 k2 m_=>?_);go_round
    case rel=>exact⟨i+1,k2,_,om,om,rfl,rfl,by simp only[iT];omega,by simp only[iT];omega,jS⟩
    case measure=>exact qL
  .rcases(show yt=2\/(yt==2)=E by simp;omega)with rfl|e2
   .go_wp2_with (go_at_call 16;refine pW (HT k 64 om om om) λx x0 x1 k hk=>?_);go_loop [10,12] (λs10 s12=>∃(j v:Int),0<=j/\j<=x/\s10=Y v/\0<=v/\aI v/\s12=J j) (λ_ s=>(64-intOf s).toNat)
    case atStart=>exact⟨0,v,om,x0,rfl,v0,v1,rfl⟩
    case round=>
     obtain⟨j,v,j0,j1,rfl,v0,v1,rfl⟩:=hrel;by_cases hj:j<x
     .go_wp2;go_round
      case rel=>exact⟨j+1,v/2,om,om,rfl,om,om,rfl⟩
      case measure=>exact qL
     .exact aLY
   .exact aLY
def PK(a:Option Addr)(len cap p:Nat)(w:ak)(hC:kU w a len)(hp:p<=8000):
  CT 49 #[O a len cap,J p] w λx w'=>∃(f m:Int) (k:Nat),-1<=f/\f<=2/\-1<=m/\m<=5/\k<=p+2/\x=Z (V #[J f,J m,J (k:Int)])/\w=w':=by
 have HT:Hid (TkP w (O a len cap)):=tkP hC;clear hC;go_enter func49,ntmps49;go_upto_region 3 with(go_at_call 16;refine pW (HT p 40 om om om) λc c0 c1 k hk=>?_);go_upto_region 4 with(go_at_call 16;refine pW (HT k 100 om om om) λd d0 d1 k2 m_=>?_);rcases(show c=39\/(c==39)=E by simp;omega)with rfl|k1<;>rcases(show d=99\/(d==99)=E by simp;omega)with rfl|k3
 all_goals
  go_wp2;go_returns;refine⟨_,_,k2,?_,?_,?_,?_,om,rfl,rfl⟩;all_goals first|omega|(simp;omega)
def zL{f:Int}(h:bI f p mx one aN sg nan)(a:Option Addr)(len cap k:Nat)(w:ak)(hC:kU w a len)(hp:k<=7000):
  Drw 51 #[O a len cap,J k,J f] w .u64 18446744073709551616 (k+14):=by
 have HT:Hid (TkP w (O a len cap)):=tkP hC;have HP:KW 116 #[J f] (J p):=λw=>qG h w;have HM:KW 206 #[J f] (J mx):=λw=>BZ h w;have HS:KW 207 #[J f] (Y sg):=λw=>lg h w;have hb:24<=p/\p<=53/\127<=mx/\mx<=1023:=by rcases h with h|h<;>omega
 have HW:Hid (∀x:Int,0<=x->x<=63->∀w,CT 117 #[J x] w λe w'=>∃z:Int,e=Z (Y z)/\w=w'):=λx x0 x1 w=>by
  obtain⟨N,rfl⟩:=lq x0;exact(lH N _ om rfl w).mono λe w' h=>⟨_,h⟩
 have HB:Hid (∀(k:Nat) (n:Int),k<=8000->0<=n->n<=64->Drw 109 #[O a len cap,J k,J n] w .u64 18446744073709551616 (k+10)):=λk n hk n0 n1=>by
  obtain⟨N,rfl⟩:=lq n0;exact P_ a len cap k N om w hC hk
 have HE:Hid (∀k:Nat,k<=8000->Drw 115 #[O a len cap,J k,J f] w .u64 18446744073709551616 (k+2)):=λk hk=>by
  clear HB HW h hC;go_enter func115,ntmps115;go_upto_region 3 with(go_at_call 16;refine pW (HT k 16 om om om) λyt c0 c1 k hk=>?_);go_upto_region 4 with(go_at_call 16;refine pW (HT k 256 om om om) λd d0 d1 k hk=>?_);go_upto_region 5 with(go_at_call 206;refine(HM _).mono ?_;rintro x w' ⟨rfl,hw⟩;subst hw);rcases(om:yt<9\/yt=9\/yt=10\/yt=11\/yt=12\/yt=13\/yt=14\/yt=15)with c|rfl|rfl|rfl|rfl|rfl|rfl|rfl
  all_goals
   go_wp2_with (go_at_call 116;refine(HP _).mono ?_;rintro x w' ⟨rfl,hw⟩;subst hw);go_returns;have m0:=Int.emod_nonneg (d*7) (om:2*mx≠0);have m1:=Int.emod_lt_of_pos (d*7) (om:0<2*mx);refine⟨_,?_,?_,k,om,rfl,rfl⟩;all_goals first|omega|(simp only[iT];omega)
 have HU:Hid (∀(s v:Int) (w:ak),0<=s->s<2->0<=v->aI v->CT 118 #[J f,J s,Y v] w λx w'=>∃z:Int,0<=z/\aI z/\x=Z (Y z)/\w=w'):=λs v w s0 s1 v0 v1=>by
  clear HB HW HE h hC;rcases(om:s=0\/s=1)with rfl|rfl
  all_goals
   go_enter func118,ntmps118;go_wp2_with (go_at_call 207;refine(HS _).mono ?_;rintro x w' ⟨rfl,hw⟩;subst hw);go_returns;refine⟨_,?_,?_,rfl,rfl⟩;all_goals first|omega|(simp only[iT];omega)
 clear h hC HM HS;go_enter func51,ntmps51;go_upto_region 3 with(go_at_call 115;refine pW (HE k om) λe x0 x1 k hk=>?_);go_upto_region 4 with(first|(go_at_call 116;refine(HP _).mono ?_;rintro x w' ⟨rfl,hw⟩;subst hw)|(go_at_call 109;refine pW (HB k _ om om om) λfr fr0 fr1 k hk=>?_));go_upto_region 5 with(go_at_call 16;refine pW (HT k 12 om om om) λd d0 d1 k hk=>?_);go_upto_region 6 with(go_at_call 16;refine pW (HT k 2 om om om) λs s0 s1 k hk=>?_);rcases(show d=0\/d=1\/d=2\/d=3\/((d==0)=E/\(d==1)=E/\(d==2)=E/\(d==3)=E) by simp;omega)with rfl|rfl|rfl|rfl|⟨k0,k1,k2,k3⟩
 all_goals
  go_wp2_with (first|(go_at_call 116;refine(HP _).mono ?_;rintro x w' ⟨rfl,hw⟩;subst hw)|(go_at_call 117;refine(HW _ om om _).mono ?_;rintro x w' ⟨z,rfl,hw⟩;subst hw)|(go_at_call 118;refine(HU _ _ _ s0 s1 (by first|omega|(simp only[iT];omega)) (by first|omega|(simp only[iT];omega))).mono ?_;rintro x w' ⟨y,y0,y1,rfl,hw⟩;subst hw))
  go_returns;exact⟨y,y0,y1,k,om,rfl,rfl⟩
def aFG{P:Prop}(h:P:=by
 go_roundw
 case rel=>exact⟨j+1,v/256,om,jS,rfl,om,om,hB3,Gb.below kg nO (dJ _)⟩
 case measure=>simp[intOf]<;>omega):P:=h
def IW(w:ak)(base:Nat)(v:Value)(m:Nat):Prop:=∃l:List UInt8,l.length<=m/\By w base v l
def IW.gb(h:IW w base v m)(hg:Gb w w'):IW w' base v m:=h.imp λl ⟨h1,h2⟩=>⟨h1,Lr.gb h2 hg⟩
def IW.lit(w:ak)(m:Nat):IW (w.alloc (.cells #[] 5)) w.heap.size (aF w.heap.size 0 0) m:=⟨[],fV _,Lr.lit w _⟩
def IW.text(h:IW w base v m):∃t:aJ,t.size<=m/\∀w',Gb w w'->(convert 24 9 v).run prog w'=.ok (.string t) w':=by
 obtain⟨l,h1,h2⟩:=h;exact⟨tx l,by rw[show(tx l).size =l.length from by simp[tx,ByteArray.size]];exact h1,λw' hg=>By.text h2 w' hg⟩
def rM{o:Oper}(YD:o.guard=none)(s x:Operand)
  (ho:o.op=.call {callee:=.builtin .append,args:=#[s,x],argTypes:=#[24,24]})
  (base m:Nat) (ys:List Int) (v:Value) (b:Nat) (hs:a.eval s=v) (iG:IW w base v m) (hx:a.eval x=aF b ys.length ys.length) (h0:0<ys.length)
  (hy:∀j y,ys[j]?=some y->aB w b j (.int .u8 y)/\0<=y/\y<=255) (hn:m+ys.length<=100000000) (nN:base<=w.heap.size)
  (h:∀v' w',IW w' base v' (m+ys.length)->Below base w w'->wpList prog ops Q rest (a.put o.dst v') w'):wpList prog ops Q (o::rest) a w:=by
 obtain⟨l,hl,hB⟩:=iG;refine wpList_plain YD λ_ hK=>?_;obtain⟨i0,hi,mD,jB,mG⟩:=info_parts Vh;refine wp_append_lies _ s x 24 ho base 5 i0 _ 1 1 underlying24 hi mD jB mG rfl de v _ _ hs hB ⟨b,0,none⟩ ys.length ys.length (ys.map (Value.int .u8)) hx (by simp) ?_ ?_ h0 (by unfold maxLen;simp;omega) jA nN w.heap.size rfl ?_
 .intro j u hj;rw[List.getElem?_map]at hj;cases e:ys[j]? with
  |none=>rw[e]at hj;cases hj
  |some y=>
   rw[e]at hj;cases hj;rw[show(⟨b,0,none⟩:Addr).add j=⟨b,j,none⟩ by unfold Addr.add;split<;>simp_all];exact(hy j y e).1
 .intro u hu;obtain⟨y,_,rfl⟩:=List.mem_map.1 hu;rfl
 .intro gb cap' w' tZ lS hat _;refine hK _ _ (h _ w' ⟨l++ys.map λy=>UInt8.ofNat y.toNat,jA,?_⟩ ?_)
  .have e:(l++ys.map λy=>UInt8.ofNat y.toNat).map (λb=>Value.int .u8 (b.toNat:Int))=l.map (λb=>Value.int .u8 (b.toNat:Int))++ys.map (Value.int .u8):=by
    rw[List.map_append,List.map_map]
    congr 1
    refine List.map_congr_left λy ZI=>?_;obtain⟨j,hj⟩:=List.mem_iff_getElem?.1 ZI;have:=(hy j y hj).2;simp;omega
   unfold By Lr;rw[e,List.length_append,show(ys.map (Value.int .u8)).length =ys.length by simp];exact tZ
  .refine(Below.refl base w).grown lS nN ?_;intro q hq;exact(World.ownsRow.lt hB q hq).1
def Sr(h:aB w b 0 (.int .u8 x))(h':0<=x/\x<=255):∀j y,[x][j]?=some y->aB w b j (.int .u8 y)/\0<=y/\y<=255:=λj y e=>by
 rcases j with _|j
 .cases e;exact⟨h,h'⟩
 .cases e
def u8_in(v:Int):0<=IntKind.u8.wrap v/\IntKind.u8.wrap v<=255:=by rw[IntKind.wrap_u8];omega
abbrev aCG:aJ:=⟨#[108,101,102,116,111,118,101,114,32,108,101,102,116,111,118,101,114]⟩
def Ry(a:Option Addr)(len cap p:Nat)(w:ak)(hC:kU w a len)(hp:p<=3000):
  CT 110 #[O a len cap,J p] w λe w'=>∃t:aJ,t.size<=1000/\∃k:Nat,k<=p+200/\e=Z (V #[.string t,J (k:Int)])/\Gb w w':=by
 have HT:Hid (∀w',Gb w w'->TkP w' (O a len cap)):=λw' hg=>tkP (hC.gb hg);have HB:Hid (∀w',Gb w w'->∀k:Nat,k<=8000->Drw 109 #[O a len cap,J k,J 64] w' .u64 18446744073709551616 (k+10)):=λw' hg k hk=>P_ a len cap k 64 om w' (hC.gb hg) hk;clear hC;go_enter func110,ntmps110;go_upto_region 3 with(go_at_call 16;refine pW (HT _ (Gb.refl _) p 7 om om om) λn n0 n1 k hk=>?_);go_wp2;go_loopw [1,9,10] (λs1 s9 s10 wr=>∃i k:Nat,(i:Int)<=n/\s1=J (k:Int)/\k<=p+1+22*i/\s10=J (i:Int)/\IW wr w.heap.size s9 (17*i)/\Gb w wr) (λ_ _ i _=>(7-intOf i).toNat)
 case atStart=>exact⟨0,k,om,rfl,om,rfl,IW.lit _ _,kg⟩
 case round=>
  obtain⟨i,k,hi,rfl,hk,rfl,hB,hG⟩:=hrel;by_cases fJ:(i:Int)<n
  .have HY:Hid (IW wr w.heap.size _ (17*i)):=hB;have HG:Hid (Gb w wr):=hG;clear hB hG;go_upto_region 8 with(go_at_call 109;refine pW (HB _ HG.out k om) λv v0 v1 k hk=>?_);go_upto_region 10 with(go_at_call 109;refine pW (HB _ HG.out k om) λu u0 u1 k hk=>?_);go_upto_region 12 with(go_at_call 16;refine pW (HT _ HG.out k 256 om om om) λx x0 x1 k hk=>?_);go_upto_region 13 with(go_at_call 16;refine pW (HT _ HG.out k 8 om om om) λy y0 y1 k hk=>?_);go_wp2;go_loopw [9,11,15] (λs9 s11 s15 wx=>∃(j:Nat) (v:Int),j<=8/\s15=J (j:Int)/\s11=Y v/\0<=v/\aI v/\IW wx w.heap.size s9 (17*i+j)/\Gb w wx) (λ_ _ i _=>(8-intOf i).toNat)
   case atStart=>exact⟨0,v,om,rfl,rfl,v0,v1,HY.out,HG.out⟩
   case round=>
    obtain⟨j,v,hj,rfl,rfl,v0,v1,hB,hG⟩:=hrel;have qY:=hG.size;have HO:Hid (∀w2,Gb wr w2->IW w2 w.heap.size _ (17*i+j)):=λw2 hg=>hB.gb hg;by_cases hj8:(j:Int)<8
    .clear hB;obtain⟨z,hz⟩:=dP (IntKind.u8.wrap v);have Yx:0<=z/\z<=255:=by rw[<-hz];exact u8_in _
     go_wp2_with (at_builtin;refine rM rfl _ _ rfl w.heap.size (17*i+j) [z] _ wr.heap.size rfl (HO _ kg) rfl (by simp) (Sr j_ Yx) jA (by rw[dV];omega) ?_;intro v' w3 hB3 nO);exact aFG
    .obtain rfl:j=8:=om;clear hB;obtain⟨z,hz⟩:=dP (IntKind.u8.wrap x);have Yx:0<=z/\z<=255:=by rw[<-hz];exact u8_in _
     go_wp2_with (at_builtin;refine rM rfl _ _ rfl w.heap.size (17*i+8) [z] _ wr.heap.size rfl (HO _ kg) rfl (by simp) (Sr j_ Yx) jA (by rw[dV];omega) ?_;intro v' w3 hB3 nO);have HG3:Hid (Gb w w3):=(show Gb w w3 from Gb.below kg nO (dJ _));have HB3:Hid (IW w3 w.heap.size v' (17*i+9)):=hB3;clear hB3 nO HO hG qY;go_loopw [9,13,16] (λs9 s13 s16 wx=>∃(j:Nat) (v:Int),j<=8/\s16=J (j:Int)/\s13=Y v/\0<=v/\aI v/\IW wx w.heap.size s9 (17*i+9+j)/\Gb w wx) (λ_ _ i _=>(8-intOf i).toNat)
     case atStart=>exact⟨0,u,om,rfl,rfl,u0,u1,HB3.out,HG3.out⟩
     case round=>
      obtain⟨j,v,hj,rfl,rfl,v0,v1,hB,hG⟩:=hrel;have qY:=hG.size;by_cases hj8:(j:Int)<8
      .obtain⟨z0,mD⟩:=dP (IntKind.u8.wrap v);have z00:0<=z0/\z0<=255:=by rw[<-mD];exact u8_in _
       have HO:Hid (∀w2,Gb wr w2->IW w2 w.heap.size _ (17*i+9+j)):=λw2 hg=>hB.gb hg;clear hB;rcases(show((j:Int)=7/\y<4)\/((j:Int)=7/\¬y<4)\/(((j:Int)==7)=E) by simp;omega)with⟨c1,c2⟩|⟨c1,c2⟩|c1
       .go_wp2_with (at_builtin;refine rM rfl _ _ rfl w.heap.size (17*i+9+j) [z0/8] _ wr.heap.size rfl (HO _ kg) rfl (by simp) (Sr j_ om) jA (by rw[dV];omega) ?_;intro v' w3 hB3 nO);exact aFG
       all_goals
        go_wp2_with (at_builtin;refine rM rfl _ _ rfl w.heap.size (17*i+9+j) [z0] _ wr.heap.size rfl (HO _ kg) rfl (by simp) (Sr j_ z00) jA (by rw[dV];omega) ?_;intro v' w3 hB3 nO);exact aFG
      .obtain rfl:j=8:=om;have ZN:IW wr w.heap.size _ (17*(i+1)):=hB;go_wp2;go_roundw
       case rel=>exact⟨i+1,k,om,rfl,om,jS,ZN,hG⟩
       case measure=>exact qL
  .have HG:Hid (Gb w wr):=hG;obtain⟨t,ht,hq⟩:=hB.text;have HQ:Hid (∀w',Gb wr w'->(convert 24 9 _).run prog w'=.ok (.string t) w'):=hq;clear hB hG hq;go_upto_region 28 with(go_at_call 16;refine pW (HT _ HG.out k 20 om om om) λx x0 x1 k hk=>?_);by_cases hx:16<x
   .go_wp2;go_returns;exact⟨_,de,k,om,rfl,HG.out⟩
   .obtain⟨X,rfl⟩:=lq x0;have hl:aCG.size=17:=rfl;obtain⟨t1,O_⟩:=dP (aCG.extract 0 X);have qs:∀w,(Instr.slice 9 (.string aCG) none (some (J (X:Int))) none).run prog w=.ok (.string t1) w:=λw=>O_▸run_slice_string_h w 9 aCG underlying9 .i64 X om (by rw[hl];omega);have hs:t1.size<=17:=by rw[<-O_,ByteArray.size_extract];omega
    have qY:(t++t1).size <=1000:=by rw[ByteArray.size_append];omega
    have hcd:zK (t.size+t1.size):=om;clear ht O_;go_wp2;go_region_held3 (λw'=>Gb wr w'/\(convert 24 9 u9).run prog w'=.ok (.string t) w')(exact⟨kg,HQ.out _ kg⟩)(fail)
    all_goals go_wp2<;>go_returns
    all_goals exact⟨_,qY,k,om,rfl,(show Gb w _ from by have:=HG.out;exact kg)⟩
def Wz(z:Int):Prop:=0<=z/\z<18446744073709551616
abbrev Som(F:Nat)(xs:Array Value):Prop:=∀w,Calls prog F xs w λe w'=>∃z,Wz z/\e=Z (Y z)/\Gb w w'
abbrev aSq(F:Nat)(xs:Array Value):Prop:=∀w,Calls prog F xs w λe w'=>∃z fl,Wz z/\e=Z (aU z fl)/\Gb w w'
structure aJo:Prop where
 wrd:∀n:Int,-9223372036854775808<=n->n<=9223372036854775807->Som 111 #[J n]
 tms:∀x y,Wz x->Wz y->Som 112 #[Y x,Y y]
 hlf:Som 113 #[]
 dvd:∀x y,Wz x->Wz y->aSq 66 #[J 1,J 0,Y x,Y y]
 CG:∀x,Wz x->aSq 60 #[J 1,J 0,J 1,Y x]
def RF(H:aJo)(a:Option Addr)(len cap:Nat)(w:ak)(hC:kU w a len):
  CT 47 #[O a len cap] w λe w'=>∃(mu inv sc:Int) (t:aJ),Wz mu/\Wz inv/\Wz sc/\t.size<=30000/\e=Z (V #[Y mu,Y inv,Y sc,.string t])/\Gb w w':=by
 have hf:=xO;have HC:Hid (∀w',Gb w w'->kU w' a len):=λw' g=>hC.gb g;have HT0:Hid (Drw 16 #[O a len cap,J 0,J 24] w .i64 24 (0+1)):=tkP hC 0 24 om om om;have HN:KW 114 #[J 1] (Y 9221120237041090560):=λw=>yQ aCP w;have hn:Wz 9221120237041090560:=⟨de,de⟩;clear hC;go_enter func47,ntmps47;go_upto_region 2 with(go_at_call 16;refine pW HT0.out λyt aV3 aV2 k hk=>?_);go_upto_region 6 with(first|(go_at_call 109;refine pW (P_ a len cap k 44 om _ (HC _ (Gb.refl _)) om) λmm m0 m1 k hk=>?_;have hmm:Wz mm:=⟨m0,m1⟩)|(go_at_call 16;refine pW (tkP (HC _ (Gb.refl _)) k 250 om om om) λx x0 x1 k hk=>?_)|(go_at_call 110;refine(Ry a len cap k _ (HC _ (Gb.refl _)) om).mono ?_;rintro e w1 ⟨t,ht,k,hk,rfl,au⟩))
 go_upto_region 7 with(go_at_call 16;refine pW (tkP (HC _ au) k 4 om om om) λc c0 c1 k hk=>?_);go_upto_region 10 with(first|(go_at_call 60;refine(H.CG _ (by assumption) _).mono ?_;rintro e w2 ⟨zf,ff,hzf,rfl,aC⟩)|(go_at_call 111;refine(H.wrd _ om om _).mono ?_;rintro e w3 ⟨zw,hzw,rfl,aO⟩)|(go_at_call 66;refine(H.dvd _ _ (by assumption) (by assumption) _).mono ?_;rintro e w4 ⟨zd,fd,hzd,rfl,bg⟩))
 have G4:Hid (Gb w w4):=(show Gb w w4 from kg);rcases(show yt=23\/yt=18\/yt=19\/yt=20\/yt=21\/yt=22\/((yt==18)=E/\(yt==19)=E/\(yt==20)=E/\(yt==21)=E/\(yt==22)=E/\(yt==23)=E) by simp;omega)with rfl|rfl|rfl|rfl|rfl|rfl|⟨e1,e2,e3,e4,e5,e6⟩
 .clear bg;go_wp2;go_loopw [23,24] (λs23 s24 wr=>∃(i:Nat) (o:Value),o=s23/\(i:Int)<=20000+c/2/\s24=J (i:Int)/\IW wr w4.heap.size o i/\Gb w4 wr) (λ_ i _=>(20002-intOf i).toNat)
  case atStart=>exact⟨0,_,rfl,om,rfl,IW.lit _ _,kg⟩
  case round=>
   obtain⟨i,o,rfl,hi,rfl,hB,hG⟩:=hrel;have qY:=hG.size;by_cases fJ:(i:Int)<20000+c/2
   .have HO:Hid (∀w2,Gb wr w2->IW w2 w4.heap.size _ i):=λw2 hg=>hB.gb hg;clear hB;go_wp2_with (at_builtin;refine rM rfl _ _ rfl w4.heap.size i [255] _ wr.heap.size rfl (HO _ kg) rfl (by simp) (Sr j_ om) jA (by rw[dV];omega) ?_;intro v' w5 hB3 nO);go_roundw
    case rel=>exact⟨i+1,_,rfl,om,jS,hB3,Gb.below kg nO (dJ _)⟩
    case measure=>exact qL
   .obtain⟨t,ht,hq⟩:=hB.text;have HQ:Hid (∀w',Gb wr w'->(convert 24 9 _).run prog w'=.ok (.string t) w'):=hq;clear hB hq;go_wp2;go_region_held3 (λw'=>Gb wr w'/\(convert 24 9 o).run prog w'=.ok (.string t) w')(exact⟨kg,HQ.out _ kg⟩)(fail)
    all_goals go_wp2<;>go_returns
    all_goals exact⟨_,_,_,t,by assumption,by assumption,by assumption,om,rfl,G4.out.trans (hG.trans kg)⟩
 all_goals
  go_wp2_with (first|(go_at_call 113;refine(H.hlf _).mono ?_;rintro e w2 ⟨zh,hzh,rfl,aC⟩)|(go_at_call 111;refine(H.wrd _ om om _).mono ?_;rintro e w3 ⟨zw,hzw,rfl,aO⟩)|(go_at_call 112;refine(H.tms _ _ (by assumption) (by assumption) _).mono ?_;rintro e w5 ⟨zt,hzt,rfl,bT⟩)|(go_at_call 114;refine(HN _).mono ?_;rintro e w' ⟨rfl,hw⟩;subst hw)|(go_at_call 51;refine pW (zL aCP a len cap _ _ (HC _ G4.out) om) λv v0 v1 j hj=>?_;have hv:Wz v:=⟨v0,v1⟩))
  go_returns;exact⟨_,_,_,t,by assumption,by assumption,by assumption,om,rfl,kg⟩
def aCX(H:o.I)(kG:Wd a1)(sD:Wd a2)(iF:Wd b1)(mY:Wd b2)(hw:Fm w):
  QR 331 #[aS a1 a2,aS b1 b2] w (aS (o.add a1 b1) (o.add a2 b2)):=by
 have HP:Hid (∀a b,Wd a->Wd b->∀w',Gr w w'->QR 268 #[Y a,Y b] w' (Y (o.add a b))):=λa b ha hb w' hg=>UK H ha hb (hw.gr hg);clear H hw;go_enter func331,ntmps331;go_wp2;go_region_held3 (λw'=>lW w' w.heap.size 0 1 (Y a1) (Y a2)/\lW w' (w.heap.size+1) 0 1 (Y b1) (Y b2))(exact qj)(first|(go_at_call 268;with_reducible refine ku (HP.out _ _ (by assumption) (by assumption) _ kr) λw1 au=>?_;have:=au.CX w;have:=au.TQ w;have qN:=au.VT w))
 all_goals
  go_wp2;exact cO (by simp[results,results331,go_sem,qN])
def Y_(H:o.I)(kG:Wd a1)(sD:Wd a2)(iF:Wd b1)(mY:Wd b2)(hw:Fm w):
  QR 332 #[aS a1 a2,aS b1 b2] w (aS (o.sub a1 b1) (o.sub a2 b2)):=by
 have HP:Hid (∀a b,Wd a->Wd b->∀w',Gr w w'->QR 200 #[Y a,Y b] w' (Y (o.sub a b))):=λa b ha hb w' hg=>aCF H ha hb (hw.gr hg);clear H hw;go_enter func332,ntmps332;go_wp2;go_region_held3 (λw'=>lW w' w.heap.size 0 1 (Y a1) (Y a2)/\lW w' (w.heap.size+1) 0 1 (Y b1) (Y b2))(exact qj)(first|(go_at_call 200;with_reducible refine ku (HP.out _ _ (by assumption) (by assumption) _ kr) λw1 au=>?_;have:=au.CX w;have:=au.TQ w;have qN:=au.VT w))
 all_goals
  go_wp2;exact cO (by simp[results,results332,go_sem,qN])
def Tz(H:o.I)(kG:Wd a1)(sD:Wd a2)(hw:Fm w):
  QR 333 #[aS a1 a2] w (aS (o.mul a1 4602678819172646912) (o.mul a2 4602678819172646912)):=by
 have hh:=xA;have HP:Hid (∀a b,Wd a->Wd b->∀w',Gr w w'->QR 201 #[Y a,Y b] w' (Y (o.mul a b))):=λa b ha hb w' hg=>Un H ha hb (hw.gr hg);clear H hw;go_enter func333,ntmps333;go_wp2;go_region_held3 (λw'=>lW w' w.heap.size 0 1 (Y a1) (Y a2))(exact qj)(first|(go_at_call 201;with_reducible refine ku (HP.out _ _ (by assumption) (by assumption) _ kr) λw1 au=>?_;have:=au.CX w;have qN:=au.Y21 w))
 all_goals
  go_wp2;exact cO (by simp[results,results333,go_sem,qN])
def aPr(kG:Wd a1)(sD:Wd a2)(hw:Fm w):
  QR 263 #[aS a1 a2] w (aS (yD a1) (yD a2)):=by
 have HP:Hid (∀a,Wd a->∀w',Gr w w'->QR 314 #[Y a] w' (Y (yD a))):=λa ha w' hg=>EZ ha (hw.gr hg);clear hw;go_enter func263,ntmps263;go_wp2;go_region_held3 (λw'=>lW w' w.heap.size 0 1 (Y a1) (Y a2))(exact qj)(first|(go_at_call 314;with_reducible refine ku (HP.out _ (by assumption) _ kr) λw1 au=>?_;have:=au.CX w;have qN:=au.Y21 w))
 all_goals
  go_wp2;exact cO (by simp[results,results263,go_sem,qN])
def aLr(kG:Wd a1)(sD:Wd a2)(hw:Fm w):
  QR 334 #[aS a1 a2] w (aS a1 (yD a2)):=by
 have HP:Hid (∀a,Wd a->∀w',Gr w w'->QR 314 #[Y a] w' (Y (yD a))):=λa ha w' hg=>EZ ha (hw.gr hg);clear hw;go_enter func334,ntmps334;go_wp2;go_region_held3 (λw'=>lW w' w.heap.size 0 1 (Y a1) (Y a2))(exact qj)(first|(go_at_call 314;with_reducible refine ku (HP.out _ (by assumption) _ kr) λw1 au=>?_;have:=au.CX w;have qN:=au.Y21 w))
 all_goals
  go_wp2;exact cO (by simp[results,results334,go_sem,qN])
def aLj(H:o.I)(HI:o.In)(kG:Wd a1)(sD:Wd a2)(hw:Fm w):
  QR 262 #[aS a1 a2] w (aS (o.vK (a1,a2)) (o.div a2 (o.add (o.vK (a1,a2)) (o.vK (a1,a2))))):=by
 have hr:=HI.vK (show uN (a1,a2) from ⟨kG,sD⟩);have HA:Hid (∀w',Gr w w'->QR 268 #[Y 4607182418800017408,Y a1] w' (Y (o.add Q8 a1))):=λw' hg=>UK H D7 kG (hw.gr hg);have HM:Hid (∀w',Gr w w'->QR 201 #[Y (o.add Q8 a1),Y 4602678819172646912] w' (Y (o.mul (o.add Q8 a1) KG))):=λw' hg=>Un H (HI.add D7 kG) xA (hw.gr hg);have HQ:Hid (∀w',Gr w w'->QR 312 #[Y (o.mul (o.add Q8 a1) KG)] w' (Y (o.vK (a1,a2)))):=λw' hg=>aGY H (HI.mul (HI.add D7 kG) xA) (hw.gr hg);generalize o.vK (a1,a2)=r at*
 generalize o.mul (o.add Q8 a1) KG=m at*
 generalize o.add Q8 a1=s at*
 have HB:Hid (∀w',Gr w w'->QR 268 #[Y r,Y r] w' (Y (o.add r r))):=λw' hg=>UK H hr hr (hw.gr hg);have HD:Hid (∀w',Gr w w'->QR 313 #[Y a2,Y (o.add r r)] w' (Y (o.div a2 (o.add r r)))):=λw' hg=>aDj H sD (HI.add hr hr) (hw.gr hg);clear H HI hw hr;go_enter func262,ntmps262;go_wp2_with (first|(go_at_call 268;with_reducible refine ku (HA.out _ kr) λw1 au=>?_;have:=au.CX w;have qN:=au.Y21 w)|(go_at_call 201;with_reducible refine ku (HM.out _ kr) λw1 au=>?_;have:=au.CX w;have qN:=au.Y21 w)|(go_at_call 312;with_reducible refine ku (HQ.out _ kr) λw1 au=>?_;have:=au.CX w;have qN:=au.Y21 w))
 go_region_held3 (λw'=>lW w' w.heap.size 0 1 (Y a1) (Y a2))(exact qj)(first|(go_at_call 268;with_reducible refine ku (HB.out _ kr) λw1 au=>?_;have:=au.CX w;have qN:=au.Y21 w)|(go_at_call 313;with_reducible refine ku (HD.out _ kr) λw1 au=>?_;have:=au.CX w;have qN:=au.Y21 w))
 all_goals
  go_wp2;exact cO (by simp[results,results262,go_sem,qN])
def aE9(H:o.I)(HI:o.In)(hwr:Wd wr)(Vl:Wd wi)(kG:Wd a1)(sD:Wd a2)(iF:Wd b1)(mY:Wd b2)(hw:Fm w)(t:Int × Int)(ht:o.cMul (wr,wi) (b1,b2)=t):
  QR 316 #[aS wr wi,aS a1 a2,aS b1 b2] w (V #[aS (o.add a1 t.1) (o.add a2 t.2),aS (o.sub a1 t.1) (o.sub a2 t.2)]):=by
 have hT:=HI.cMul (show uN (wr,wi) from ⟨hwr,Vl⟩) (show uN (b1,b2) from ⟨iF,mY⟩);have HT:Hid (∀w',Gr w w'->QR 197 #[aS wr wi,aS b1 b2] w' (aS t.1 t.2)):=λw' hg=>by rw[<-ht];exact PW H HI hwr Vl iF mY (hw.gr hg)
 rw[ht]at hT;obtain⟨t1,t2⟩:=t;have HA:Hid (∀w',Gr w w'->QR 331 #[aS a1 a2,aS t1 t2] w' (aS (o.add a1 t1) (o.add a2 t2))):=λw' hg=>aCX H kG sD hT.1 hT.2 (hw.gr hg);have HS:Hid (∀w',Gr w w'->QR 332 #[aS a1 a2,aS t1 t2] w' (aS (o.sub a1 t1) (o.sub a2 t2))):=λw' hg=>Y_ H kG sD hT.1 hT.2 (hw.gr hg);dsimp only at HT;clear H HI hw hT ht;show Calls _ _ _ _ (λe w'=>e=Z (V #[aS (o.add a1 t1) (o.add a2 t2),aS (o.sub a1 t1) (o.sub a2 t2)])/\Gr w w');generalize o.add a1 t1=x1 at*
 generalize o.add a2 t2=x2 at*
 generalize o.sub a1 t1=y1 at*
 generalize o.sub a2 t2=y2 at*
 go_enter func316,ntmps316;go_wp2_with (first|(go_at_call 197;with_reducible refine ku (HT.out _ kr) λwt YE=>?_;have:=YE.CX w;have:=YE.TQ w;have:=YE.C22 w;have qN:=YE.Y23 w;have pq0:=YE.Y2 (w.heap.size+1+1+1+1);have hz:=aA pq0.1))
 go_region_held3 (λw'=>lW w' (w.heap.size+1) 0 1 (Y a1) (Y a2)/\lW w' wt.heap.size 0 1 (Y t1) (Y t2))(exact qj)(first|(go_at_call 331;with_reducible refine ku (HA.out _ kr) λw1 au=>?_;have:=au.TQ w;have:=au.C22 w;have qN:=au.Y23 w;have pq0:=au.Y2 (w.heap.size+1+1+1+1);have:=au.CX wt)|(go_at_call 332;with_reducible refine ku (HS.out _ kr) λw1 au=>?_;have:=au.TQ w;have:=au.C22 w;have qN:=au.Y23 w;have pq0:=au.Y2 (w.heap.size+1+1+1+1);have:=au.CX wt))
 all_goals
  go_wp2;exact cO (by simp[results,results316,go_sem,qN,pq0])
def aFd(H:o.I)(HI:o.In)(hwr:Wd wr)(Vl:Wd wi)(kG:Wd a1)(sD:Wd a2)(iF:Wd b1)(mY:Wd b2)(hw:Fm w)(x y:Int × Int)(hx:o.uJ (o.cAdd (a1,a2) (b1,b2))=x)(hy:o.uJ (o.cMul (o.cSub (a1,a2) (b1,b2)) (Zd (wr,wi)))=y):
  QR 317 #[aS wr wi,aS a1 a2,aS b1 b2] w (V #[aS x.1 x.2,aS y.1 y.2]):=by
 obtain⟨p,hp⟩:=dP (o.cAdd (a1,a2) (b1,b2));obtain⟨q,hq⟩:=dP (o.cSub (a1,a2) (b1,b2));obtain⟨r,hr⟩:=dP (o.cMul q (Zd (wr,wi)));have wp:=HI.cAdd (show uN (a1,a2) from ⟨kG,sD⟩) (show uN (b1,b2) from ⟨iF,mY⟩);have wq:=HI.cSub (show uN (a1,a2) from ⟨kG,sD⟩) (show uN (b1,b2) from ⟨iF,mY⟩);rw[hp]at wp hx;rw[hq]at wq hy;have wr':=HI.cMul wq (Zc (show uN (wr,wi) from ⟨hwr,Vl⟩));rw[hr]at wr' hy;have HA:Hid (∀w',Gr w w'->QR 331 #[aS a1 a2,aS b1 b2] w' (aS p.1 p.2)):=λw' hg=>by rw[<-hp];exact aCX H kG sD iF mY (hw.gr hg)
 have HS:Hid (∀w',Gr w w'->QR 332 #[aS a1 a2,aS b1 b2] w' (aS q.1 q.2)):=λw' hg=>by rw[<-hq];exact Y_ H kG sD iF mY (hw.gr hg)
 have HC:Hid (∀w',Gr w w'->QR 334 #[aS wr wi] w' (aS wr (yD wi))):=λw' hg=>aLr hwr Vl (hw.gr hg);have HT:Hid (∀w',Gr w w'->QR 197 #[aS q.1 q.2,aS wr (yD wi)] w' (aS r.1 r.2)):=λw' hg=>by rw[<-hr];exact PW H HI wq.1 wq.2 hwr (G_ Vl) (hw.gr hg)
 have HH:Hid (∀w',Gr w w'->QR 333 #[aS p.1 p.2] w' (aS x.1 x.2)):=λw' hg=>by rw[<-hx];exact Tz H wp.1 wp.2 (hw.gr hg)
 have HL:Hid (∀w',Gr w w'->QR 333 #[aS r.1 r.2] w' (aS y.1 y.2)):=λw' hg=>by rw[<-hy];exact Tz H wr'.1 wr'.2 (hw.gr hg)
 clear H HI hw wp wq wr' hp hq hr hx hy hwr Vl kG sD iF mY;obtain⟨x1,x2⟩:=x;obtain⟨y1,y2⟩:=y;obtain⟨p1,p2⟩:=p;obtain⟨q1,q2⟩:=q;obtain⟨r1,r2⟩:=r;generalize yD wi=wj at*
 dsimp only at*
 go_enter func317,ntmps317;go_wp2;go_region_held3 (λw'=>lW w' w.heap.size 0 1 (Y wr) (Y wi)/\lW w' (w.heap.size+1) 0 1 (Y a1) (Y a2)/\lW w' (w.heap.size+1+1) 0 1 (Y b1) (Y b2))(exact qj)(first|(go_at_call 331;with_reducible refine ku (HA.out _ kr) λw1 au=>?_;have:=au.CX w;have:=au.TQ w;have:=au.C22 w;have qN:=au.Y23 w;have pq0:=au.Y2 (w.heap.size+1+1+1+1))|(go_at_call 332;with_reducible refine ku (HS.out _ kr) λw1 au=>?_;have:=au.CX w;have:=au.TQ w;have:=au.C22 w;have qN:=au.Y23 w;have pq0:=au.Y2 (w.heap.size+1+1+1+1))|(go_at_call 334;with_reducible refine ku (HC.out _ kr) λw1 au=>?_;have:=au.CX w;have:=au.TQ w;have:=au.C22 w;have qN:=au.Y23 w;have pq0:=au.Y2 (w.heap.size+1+1+1+1))|(go_at_call 197;with_reducible refine ku (HT.out _ kr) λw1 au=>?_;have:=au.CX w;have:=au.TQ w;have:=au.C22 w;have qN:=au.Y23 w;have pq0:=au.Y2 (w.heap.size+1+1+1+1))|(go_at_call 333;first|(with_reducible refine ku (HH.out _ kr) λw1 au=>?_;have:=au.CX w;have:=au.TQ w;have:=au.C22 w;have qN:=au.Y23 w;have pq0:=au.Y2 (w.heap.size+1+1+1+1))|(with_reducible refine ku (HL.out _ kr) λw1 au=>?_;have:=au.CX w;have:=au.TQ w;have:=au.C22 w;have qN:=au.Y23 w;have pq0:=au.Y2 (w.heap.size+1+1+1+1))))
 all_goals
  go_wp2;exact cO (by simp[results,results317,go_sem,qN,pq0])
def aHZ:(prog.info? 123).map (λi=>(i.zero,i.size,i.bytes))=some (some (aS 0 0),2,16):=by kernel_rfl
def aQ9:(prog.info? 119).map (λi=>(i.zero,i.size,i.bytes))=some (some (O none 0 0),1,24):=by kernel_rfl
def RN(o:Ops)(w:ak)(base:Nat)(v:Value)(n:Nat):Prop:=
 ∃xs:List Value,w.ownsRow base 119 1 v n xs/\∀i,1<=i->i<n->∃u,xs[i]?=some u/\Ow w base 123 2 .u64 u (2^(i-1)) (flat (o.rt i))
def aN3{xs:List Value}(h:w.ownsRow base e size v n xs)(hg:Gb w w'):w'.ownsRow base e size v n xs:=by
 refine⟨h.1,?_⟩;rcases h.2 with hn|⟨b,cap,cur,rfl,hb,hh,rest⟩
 .exact .inl hn
 .refine .inr ⟨b,cap,cur,rfl,hb,?_,rest⟩;rw[Below.block hg b (Ap.1 hh).1];exact hh
def RN.gb(h:RN o w base v n)(hg:Gb w w'):RN o w' base v n:=by
 obtain⟨xs,h1,h2⟩:=h;refine⟨xs,aN3 h1 hg,λi hi hn=>?_⟩;obtain⟨u,hu,ho⟩:=h2 i hi hn;exact⟨u,hu,ho.gb hg⟩
def Wj(YD:op.guard=none)(s x:Operand)
  (ho:op.op=.call {callee:=.builtin .append,args:=#[s,x],argTypes:=#[215,215]})
  (base n:Nat) (v u:Value) (b:Nat) (hs:a.eval s=v) (iG:RN o w base v n) (hx:a.eval x=aF b 1 1) (hu:aB w b 0 u)
  (hru:Ow w base 123 2 .u64 u (2^(n-1)) (flat (o.rt n))) (hn:n<=100) (nN:base<=w.heap.size)
  (h:∀v' w',RN o w' base v' (n+1)->Below base w w'->wpList prog ops Q rest (a.put op.dst v') w'):wpList prog ops Q (op::rest) a w:=by
 obtain⟨i0,hi,mD,jB,mG⟩:=info_parts aQ9;obtain⟨xs,h1,h2⟩:=iG;have hu1:u.oneCell'=true:=by
  obtain⟨_,_,rfl,_⟩:=hru.len;rfl
 have o_:xs.length=n:=by have:=h1.1;omega
 refine wpList_append_own _ YD s x 215 ho base 119 i0 (O none 0 0) 1 24 underlying215 hi mD jB mG rfl de v n xs hs h1 ⟨b,0,none⟩ 1 1 [u] hx rfl ?_ ?_ (by unfold maxLen;omega) om nN ?_
 .intro j y hj
  match j,hj with
  |0,hj=>simp at hj;subst hj;simpa[Addr.add]using hu
 .intro y hy;simp at hy;subst hy;exact hu1
 .intro v' w' tZ lS _;have keep:∀(y:Value) (m:Nat) (g:Nat->Int),Ow w base 123 2 .u64 y m g->Ow w' base 123 2 .u64 y m g:=by
   intro y m g hy;refine World.ownsRow.kept hy lS ?_;rcases hy.2 with⟨rfl,_⟩|⟨g',cap',cur',rfl,_,hh',_⟩
   .exact .inl rfl
   .refine .inr λe=>?_;rcases h1.2 with⟨rfl,_⟩|⟨g,cap,cur,rfl,_,hh,_⟩
    .simp[Value.ownBlock]at e
    .simp only[Value.ownBlock,Option.some.injEq]at e;subst e;rw[hh]at hh';simp at hh'
  refine h v' w' ⟨xs++[u],tZ,λi hi hin=>?_⟩ ?_
  .rcases uq i n with c|c
   .obtain⟨y,hy,hoy⟩:=h2 i hi c;exact⟨y,by rw[List.getElem?_append_left (by omega)];exact hy,keep _ _ _ hoy⟩
   .obtain rfl:i=n:=om;exact⟨u,by rw[<-o_];simp,keep _ _ _ hru⟩
  .refine(Below.refl base w).grown lS nN ?_;intro q hq;exact(World.ownsRow.lt h1 q hq).1
def lenV:Value->Nat
 |O _ n _=>n
 |_=>0
def cells4(h0:aB w b 0 (.int k x0))(h1:aB w b 1 (.int k x1))(h2:aB w b 2 (.int k x2))(h3:aB w b 3 (.int k x3))
  (e0:g (m+0)=x0) (e1:g (m+1)=x1) (e2:g (m+2)=x2) (e3:g (m+3)=x3):∀j,j<2*2->aB w b j (.int k (g (m+j))):=by
 intro j hj
 match j,hj with
 |0,_=>rw[e0];exact h0
 |1,_=>rw[e1];exact h1
 |2,_=>rw[e2];exact h2
 |3,_=>rw[e3];exact h3
def aBJ(H:o.I)(HI:o.In)(k:Nat)(kF:1<=k)(hk6:k<=6)(hw:Fm w):
  CT 195 #[J k] w λe w'=>∃v,e=Z v/\RN o w' w.heap.size v (k+1)/\Gb w w':=by
 have HR:Hid (∀a1 a2,Wd a1->Wd a2->∀w',Gb w w'->QR 262 #[aS a1 a2] w' (aS ((o.root (a1,a2)).1) ((o.root (a1,a2)).2))):=λa1 a2 h1 h2 w' hg=>aLj H HI h1 h2 (hw.gb hg);have HN:Hid (∀a1 a2,Wd a1->Wd a2->∀w',Gb w w'->QR 263 #[aS a1 a2] w' (aS (yD a1) (yD a2))):=λa1 a2 h1 h2 w' hg=>aPr h1 h2 (hw.gb hg);have HW:Hid _:=HI;clear H HI hw;go_enter func195,ntmps195;go_wp2;go_loopw [3] (λv wr=>∃n g aBB,2<=n/\n<=k+1/\v=aF g n aBB/\RN o wr w.heap.size (aF g n aBB) n/\Gb w wr) (λv _=>k+1-lenV v)
 case atStart=>
  refine⟨2,w.heap.size+1,2,dJ _,om,rfl,⟨[O none 0 0,aF w.heap.size 1 1],?_,?_⟩,kg⟩
  .have:=MZ (base:=w.heap.size) (e:=119) (size:=1) (w.alloc (.cells #[Y 0,Y 4607182418800017408] 123)) #[O none 0 0,aF w.heap.size 1 1] 2 j_ de rfl
   simpa[go_sem]using this
  .intro i hi1 hi2;obtain rfl:i=1:=om;refine⟨_,rfl,Ow.alloc ?_ _⟩;have:=MZ (base:=w.heap.size) (e:=123) (size:=2) w #[Y 0,Y 4607182418800017408] 1 (dJ _) de rfl;exact this
 case round=>
  rename World=>W
  obtain⟨n,g,aBB,hn2,hnk,rfl,hc,dQ⟩:=hrel;obtain⟨n',rfl⟩:∃n',n=n'+2:=⟨n-2,om⟩;have YJ:=hc;obtain⟨xs,hx1,hx2⟩:=hc;obtain⟨u,hu,hou⟩:=hx2 (n'+1) om om;obtain⟨b,cap,rfl,t_,iF,mY,nO,hbc⟩:=hou.at (iQ de);have hcu:=(World.ownsRow.cellAt hx1 (n'+1) om).trans hu;clear hou hx2 hx1 hu;by_cases uz:n'+2<=k
  .have aH8:((n'+2:Nat):Int)<=(k:Int):=om;have hjj:((n'+2:Nat):Int)-1=((n'+1:Nat):Int):=om;obtain⟨m,hm⟩:=x_n (2^n');rw[(om:n'+1-1=n'),<-hm]at hcu;have Dp:0<m:=by rw[hm];exact iQ de
   have LY:m<=64:=by
    rw[hm];have:=pU (show 0<2 by decide) (om:n'<=6);omega
   rw[(om:n'+1-1=n'),<-hm]at hbc;have HC0:Hid _:=YJ;have HBC:Hid _:=hbc;have HM:Hid _:=hm;clear YJ hbc mY hm;go_wp2;have aId:decide ((n':Int)+2<=(k:Int))=true:=jA;have aTI:n'+2-1=n'+1:=om;simp only[aId,aTI];go_loopw [4,22] (λf i wr=>∃j:Nat,j<=m/\i=J j/\Ow wr W.heap.size 123 2 .u64 f (2*j) (flat (o.rt (n'+2)))/\Gb W wr) (λ_ i _=>m-(intOf i).toNat)
   case atStart=>exact⟨0,fV _,rfl,Ow.nil _ _ _ _ _ _,Gb.refl _⟩
   case round=>
    obtain⟨j,hj,rfl,jv,hgq⟩:=hrel;by_cases hjm:j<m
    .have FN:(j:Int)<(m:Int):=om;have HO:Hid _:=jv;obtain⟨a1,kG⟩:=x_n ((o.rt (n'+1) j).1);obtain⟨a2,sD⟩:=x_n ((o.rt (n'+1) j).2);have q0:wr.cell? ⟨b,j*2,none⟩=some (Y a1):=by rw[kG,<-fO,dM];exact hgq.old (HBC (2*j) om).1
     have q1:wr.cell? ⟨b,j*2+1,none⟩=some (Y a2):=by rw[sD,<-fP,dM];exact hgq.old (HBC (2*j+1) om).1
     have wa1:Wd a1:=by rw[kG];exact(HW.out.rt _ _).1
     have wa2:Wd a2:=by rw[sD];exact(HW.out.rt _ _).2
     have hs:=HW.out.root (show uN (a1,a2) from ⟨wa1,wa2⟩);have HR1:=HR a1 a2 wa1 wa2;obtain⟨s1,GL⟩:=dP ((o.root (a1,a2)).1);obtain⟨s2,hs2⟩:=dP ((o.root (a1,a2)).2);unfold uN at hs;rw[GL,hs2]at hs HR1;obtain⟨ws1,ws2⟩:=hs;have HN1:Hid _:=HN s1 s2 ws1 ws2;have HR2:Hid _:=HR1;have ert:(o.rt (n'+1) j)=(a1,a2):=by rw[kG,sD]
     have r0:o.rt (n'+2) (2*j)=(s1,s2):=by
      simp only[Ops.rt];rw[aQ om,(om:2*j/2=j),ert,<-GL,<-hs2]
     have r1:o.rt (n'+2) (2*j+1)=(yD s1,yD s2):=by
      simp only[Ops.rt];rw[aH om,(om:(2*j+1)/2=j),ert,<-GL,<-hs2];rfl
     have e0:Hid (flat (o.rt (n'+2)) (2*j*2+0)=s1):=by show _=_;rw[(om:2*j*2+0=2*(2*j)),fO,r0]
     have e1:Hid (flat (o.rt (n'+2)) (2*j*2+1)=s2):=by show _=_;rw[(om:2*j*2+1=2*(2*j)+1),fP,r0]
     have e2:Hid (flat (o.rt (n'+2)) (2*j*2+2)=yD s1):=by show _=_;rw[(om:2*j*2+2=2*(2*j+1)),fO,r1]
     have e3:Hid (flat (o.rt (n'+2)) (2*j*2+3)=yD s2):=by show _=_;rw[(om:2*j*2+3=2*(2*j+1)+1),fP,r1]
     have hGB:Gb w wr:=dQ.trans hgq;have hzq:=hgq.size;generalize yD s1=t1 at*
     generalize yD s2=t2 at*
     clear jv HR1 ert r0 r1 GL hs2 ws1 ws2 wa1 wa2 kG sD;go_wp2_with (first|(go_at_call 262;refine ku (HR2 _ kg) λw2 aC=>?_;have mG:=aC.size;(try simp only[dV,jg,jW]at mG)))
     go_region_held3 (λw'=>lW w' w2.heap.size 0 1 (Y s1) (Y s2))(exact qj)(first|(go_at_call 263;refine ku (HN1 _ kg) λw3 aO=>?_;have Rj:=aO.size;(try simp only[dV,jg,jW]at Rj))|(refine step_more rfl _ _ 119 rfl 123 (.agg #[Y 0,Y 0]) 2 16 .u64 underlying119 aHZ rfl de de W.heap.size (2*j) 2 (flat (o.rt (n'+2))) _ w3.heap.size rfl (Ow.gb HO.out kg) rfl (cells4 j_ j_ j_ j_ e0.out e1.out e2.out e3.out) om om (by simp[go_sem]at*;omega) ?_;intro v' w4 Dy rE wL _;have t40:aB w4 w2.heap.size 0 (Y s1):=wL _ _ _ kb (Ow.ne HO.out om);have t41:aB w4 w2.heap.size 1 (Y s2):=wL _ _ _ kb (Ow.ne HO.out om)))
     all_goals
      go_wp2;go_roundw
      case rel=>exact⟨j+1,om,jS,Dy,Gb.below kg rE (dJ _)⟩
      case measure=>exact qL
    .obtain rfl:j=m:=om;have FN:¬(j:Int)<(j:Int):=om;obtain⟨ad,fc,rfl,_,_⟩:=jv.len;have hzq:=hgq.size;have hGB:Gb w wr:=dQ.trans hgq;have hzw:=dQ.size;have e2m:2*j=2^(n'+2-1):=by have:=HM.out;rw[(om:n'+2-1=n'+1),jE];omega
     have HO:Hid (Ow wr W.heap.size 123 2 .u64 (O ad (2*j) fc) (2^(n'+2-1)) (flat (o.rt (n'+2)))):=by show Ow _ _ _ _ _ _ _ _;rw[<-e2m];exact jv
     clear jv e2m;go_wp2_with (at_builtin;refine Wj (o:=o) rfl _ _ rfl w.heap.size (n'+2) _ _ wr.heap.size rfl (RN.gb HC0.out kg) rfl j_ (Ow.alloc (Ow.mono HO.out om) _) om (by simp[go_sem];omega) ?_;intro v' w5 hc5 hb5);obtain⟨g5,cap5,rfl⟩:∃g5 cap5,v'=aF g5 (n'+3) cap5:=by
      obtain⟨_,hx1,_⟩:=hc5;rcases hx1.2 with⟨_,h⟩|⟨g,aBB,_,rfl,_⟩
      .omega
      .exact⟨g,aBB,rfl⟩
     refine⟨⟨n'+3,g5,cap5,om,om,rfl,hc5,Gb.below kg hb5 (dJ _)⟩,?_⟩;simp only[lenV];omega
  .have aH8:¬((n'+2:Nat):Int)<=(k:Int):=om;obtain rfl:k=n'+1:=om;have HC0:Hid _:=YJ;clear YJ hbc;go_wp2;go_returns;exact⟨_,rfl,HC0.out,dQ⟩
def aCI:(prog.info? 71).map (λi=>(i.zero,i.size,i.bytes))=some (some (Y 0),1,8):=by kernel_rfl
def CR(o:Ops)(w:ak)(cv:Value)(n:Nat):Prop:=
 ∃g cap,cv=aF g n cap/\∀i,1<=i->i<n->∃b cp,aB w g i (aF b (2^(i-1)) cp)/\∀q,q<2^(i-1)*2->aB w b q (Y (flat (o.rt i) q))
def RN.cr(h:RN o w base v n)(hn:0<n):CR o w v n:=by
 obtain⟨xs,h1,h2⟩:=h;obtain⟨g,cap,rfl⟩:∃g cap,v=aF g n cap:=by
  rcases h1.2 with⟨_,h⟩|⟨g,aBB,_,rfl,_⟩
  .omega
  .exact⟨g,aBB,rfl⟩
 refine⟨g,cap,rfl,λi hi hin=>?_⟩;obtain⟨u,hu,ho⟩:=h2 i hi hin;obtain⟨b,cp,rfl,_,_,_,_,hc⟩:=ho.at (iQ de);exact⟨b,cp,(World.ownsRow.cellAt h1 i om).trans hu,λq hq=>(hc q hq).1⟩
def CR.gb(h:CR o w cv n)(hg:Gb w w'):CR o w' cv n:=by
 obtain⟨g,cap,rfl,h2⟩:=h;refine⟨g,cap,rfl,λi hi hin=>?_⟩;obtain⟨b,cp,h3,h4⟩:=h2 i hi hin;exact⟨b,cp,hg.old h3,λq hq=>hg.old (h4 q hq)⟩
def aDf(hr:Rd w .u64 v 2 2 cs):
  CT 266 #[v] w λe w'=>∃v',e=Z v'/\Ow w' w.heap.size 123 2 .u64 v' 1 (flat (o.tr 1 cs))/\Gb w w':=by
 obtain⟨b,cap,rfl,h1,h2,hc⟩:=hr.at om;have c0:aB w b 0 (Y (cs 0)):=hc 0 om;have c1:aB w b 1 (Y (cs 1)):=hc 1 om;have e0:flat (o.tr 1 cs) 0=cs 0:=rfl;have e1:flat (o.tr 1 cs) 1=cs 1:=rfl;generalize flat (o.tr 1 cs)=f at*
 generalize cs 0=x at*
 generalize cs 1=y at*
 clear hr hc;go_enter func266,ntmps266;go_wp2;go_region;all_goals go_wp2<;>go_returns
 all_goals
  refine⟨_,rfl,?_,kg⟩;have:=MZ (base:=w.heap.size) (e:=123) (size:=2) w.drew #[Y x,Y y] 1 (dJ _) de rfl;refine Ow.congr (g:=λj=>if j=0 then x else y) this (λj hj=>?_)
  match j,hj with
  |0,_=>exact e0.symm
  |1,_=>exact e1.symm
def aHP(k j:Int)(w:ak):QW 265 #[J k,J j] w (.func (.func 315) #[] #[]):=by
 go_enter func265,ntmps265;go_wp2;go_returns;exact⟨rfl,rfl⟩
def aCH(x y:Int)(w:ak):QW 315 #[Y x,Y y] w (V #[Y x,Y y]):=by
 go_enter func315,ntmps315;go_wp2;go_returns;exact⟨rfl,rfl⟩
def aAk(hc:CR o w cv n)(k j:Nat)(kF:1<=k)(hk:k<n)(hn:n<=7)(hj:2*j<2^(k-1))(x y:Int)(hx:o.rt k (2*j)=(x,y)):
  QW 267 #[cv,J k,J j] w (.func (.func 316) #[aS x y] #[]):=by
 obtain⟨g,cap,rfl,h2⟩:=hc;obtain⟨b,cp,h3,h4⟩:=h2 k kF hk;obtain⟨m,hm⟩:=dP (2^(k-1));rw[hm]at h3 h4 hj;have hmm:m<=64:=by
  rw[<-hm];have:=pU (show 0<2 by decide) (om:k-1<=6);omega
 have c0:w.cell? ⟨b,2*j*2,none⟩=some (Y x):=by rw[h4 _ om,dM,fO,hx]
 have c1:w.cell? ⟨b,2*j*2+1,none⟩=some (Y y):=by rw[h4 _ om,(om:2*j*2+1=2*(2*j)+1),fP,hx]
 have EI:(k:Int)<(n:Int):=om;have hj':2*(j:Int)<(m:Int):=om;clear h2 h4 hm hx;go_enter func267,ntmps267;go_wp2;go_returns;exact⟨rfl,rfl⟩
def aLZ{P:Prop}(h:P:=by
 have iV:(j:Int)<(L:Int):=om;have HWj:Hid _:=HW j fJ;have hbj:=HB j fJ;obtain⟨bb,cap',e,_,_,_,_,Pv⟩:=jv.at om;simp only[Value.slice.injEq,Option.some.injEq,Addr.mk.injEq,and_true,true_and]at e;obtain⟨rfl,rfl⟩:=e;obtain⟨c0,z0⟩:=Pv j om;rw[aH (by omega)]at c0;have x0:aB wr b (q0+j) (J (f j)):=dQ.old (HC j om);obtain⟨z,hz⟩:=dP (o.int (f j));obtain⟨x,hx⟩:=dP (f j);rw[hz,hx]at HWj;rw[hx]at x0 hbj;have hu:IntKind.u64.wrap x=x%18446744073709551616:=iT x;have HWk:Hid _:=HWj _ rfl;generalize x%18446744073709551616=u at*
 have y0:¬x< -2047:=by have:=hbj.1;omega
 have y1:¬2047<x:=by have:=hbj.2;omega
 have Hz:Hid _:=hz;clear jv Pv hx hz hbj HWj;go_wp2_with (go_at_call 92;refine(HWk _ dQ).mono ?_;rintro e w2 ⟨fl,rfl,aC⟩;have c1:aB w2 w.heap.size j (Y 0):=aC.gb.old c0;have z1:=aC.z z0);go_roundw
 case rel=>
  refine⟨j+1,om,jS,?_,kg⟩;refine Ow.congr (Ow.store (Ow.gb HF.out aC.gb) j z) (λq hq=>?_);by_cases e1:q=j
  .rw[aQ e1,aQ om,e1,Hz.out]
  .by_cases e2:q<j
   .rw[aH e1,aQ e2,aQ (by omega)]
   .rw[aH e1,aH e2,aH (by omega)]
 case measure=>simp[intOf]<;>omega):P:=h
def aFi(o:Ops):Prop:=∀n u:Int,-2047<=n->n<=2047->u=n%18446744073709551616->Hid (∀w,Fm w->CT 92 #[J 1,J 0,J 1,Y u] w λe w'=>∃fl:Int,e=Z (aU (o.int n) fl)/\Gr w w')
def aNM(hr:jd w v L f)(n:Int)(hn:(L:Int)≠n):
  QB 194 #[J n,v] w (V #[O none 0 0,.bool E]):=by
 obtain⟨a,ca,rfl,_⟩:=hr;go_enter func194,ntmps194;go_wp2;go_returns;exact⟨rfl,Gb.refl _⟩
def ZV(HP:aFi o)(hw:Fm w)(hr:jd w v L f)(jZ:0<L)(hL:L<=2000000)(h:∀i,i<L->Wh (f i))(n:Int)(hn:(L:Int)=n):
  CT 194 #[J n,v] w λe w'=>∃v',e=Z (V #[v',.bool true])/\Ow w' w.heap.size 71 1 .u64 v' L (λj=>o.int (f j))/\Gb w w':=by
 subst hn;have hf:=xO;obtain⟨b,q0,cap,rfl,_,_,hc⟩:=hr.at jZ;have HC:Hid _:=hc;have HW:Hid (∀j,j<L->∀u,u=(f j)%18446744073709551616->∀w',Gb w w'->CT 92 #[J 1,J 0,J 1,Y u] w' λe bf=>∃fl:Int,e=Z (aU (o.int (f j)) fl)/\Gr w' bf):=λj hj u hu w' hg=>(HP (f j) u (h j hj).1 (h j hj).2 hu).out w' (hw.gb hg);have HB:Hid _:=h;have hb:=aA (hc 0 om);have hmk:∀w,(Instr.makeSlice 47 (J (L:Int)) (J (L:Int))).run prog w=.ok (aF w.heap.size L L) (w.alloc (.cells (madeCells #[Y 0] (L*1)) 71)):=λw=>tX 47 71 (Y 0) 1 8 underlying47 aCI de L om w;have HMd:Hid (Ow (w.alloc (.cells (madeCells #[Y 0] L) 71)) w.heap.size 71 1 .u64 (aF w.heap.size L L) L (λ_=>0)):=by have:=Ow.made w 71 1 #[Y 0] .u64 (z1 _) L (by omega);rw[kW]at this;exact this
 clear hr hc h HP hw;go_enter func194,ntmps194;go_wp2;go_loopw [17] (λi wr=>∃j:Nat,j<=L/\i=J j/\Ow wr w.heap.size 71 1 .u64 (aF w.heap.size L L) L (λq=>if q<j then o.int (f q)else 0)/\Gb w wr) (λi _=>L-(intOf i).toNat)
 case atStart=>exact⟨0,fV _,rfl,Ow.congr HMd.out (λq hq=>by rw[aH (by omega)]),kg⟩
 case round=>
  obtain⟨j,hj,rfl,jv,dQ⟩:=hrel;have HF:Hid _:=jv;by_cases fJ:j<L
  .exact aLZ
  .obtain rfl:j=L:=om;have FN:¬(j:Int)<(j:Int):=om;clear jv;go_wp2;go_returns;exact⟨_,rfl,Ow.congr HF.out (λq hq=>by rw[aQ (by omega)]),dQ⟩
def aPX(HP:aFi o)(hw:Fm w)(hr:jd w v L f)(jZ:0<L)(hL:L<=2000000)(m:Nat)(hm:m<L)(h:∀i,i<m->Wh (f i))(Eu:¬Wh (f m))(n:Int)(hn:(L:Int)=n):
  QB 194 #[J n,v] w (V #[O none 0 0,.bool E]):=by
 subst hn;have hf:=xO;obtain⟨b,q0,cap,rfl,_,_,hc⟩:=hr.at jZ;have HC:Hid _:=hc;have HW:Hid (∀j,j<m->∀u,u=(f j)%18446744073709551616->∀w',Gb w w'->CT 92 #[J 1,J 0,J 1,Y u] w' λe bf=>∃fl:Int,e=Z (aU (o.int (f j)) fl)/\Gr w' bf):=λj hj u hu w' hg=>(HP (f j) u (h j hj).1 (h j hj).2 hu).out w' (hw.gb hg);have HB:Hid _:=h;have HN:Hid _:=Eu;have hb:=aA (hc 0 om);have hmk:∀w,(Instr.makeSlice 47 (J (L:Int)) (J (L:Int))).run prog w=.ok (aF w.heap.size L L) (w.alloc (.cells (madeCells #[Y 0] (L*1)) 71)):=λw=>tX 47 71 (Y 0) 1 8 underlying47 aCI de L om w;have HMd:Hid (Ow (w.alloc (.cells (madeCells #[Y 0] L) 71)) w.heap.size 71 1 .u64 (aF w.heap.size L L) L (λ_=>0)):=by have:=Ow.made w 71 1 #[Y 0] .u64 (z1 _) L (by omega);rw[kW]at this;exact this
 clear hr hc h HP hw Eu;go_enter func194,ntmps194;go_wp2;go_loopw [17] (λi wr=>∃j:Nat,j<=m/\i=J j/\Ow wr w.heap.size 71 1 .u64 (aF w.heap.size L L) L (λq=>if q<j then o.int (f q)else 0)/\Gb w wr) (λi _=>L-(intOf i).toNat)
 case atStart=>exact⟨0,fV _,rfl,Ow.congr HMd.out (λq hq=>by rw[aH (by omega)]),kg⟩
 case round=>
  obtain⟨j,hj,rfl,jv,dQ⟩:=hrel;have HF:Hid _:=jv;by_cases fJ:j<m
  .exact aLZ
  .obtain rfl:j=m:=om;have iV:(j:Int)<(L:Int):=om;have x0:aB wr b (q0+j) (J (f j)):=dQ.old (HC j om);have hb:f j< -2047\/¬f j< -2047/\2047<f j:=by
    rcases(om:f j< -2047\/(¬f j< -2047/\2047<f j)\/(-2047<=f j/\f j<=2047))with h|h|h
    .exact .inl h
    .exact .inr h
    .exact bG h HN.out
   clear jv HF HW HB HN HC HMd;generalize f j=x at*
   rcases hb with x1|⟨x1,x2⟩
   .go_wp2;go_returns;exact⟨rfl,dQ⟩
   .go_wp2;go_returns;exact⟨rfl,dQ⟩
def KN(K N:Int):Prop:=K=1/\N=2\/K=2/\N=4\/K=3/\N=8\/K=4/\N=16\/K=5/\N=32\/K=6/\N=64
def aKQ(K:Int)(vf vg:Value)(w:ak)(HL:KW 193 #[J K] (.bool E)):EC 103 K vf vg w:=by
 go_enter func103,ntmps103;go_wp2_with (go_at_call 193;refine kw (HL _) ?_);go_returns;exact⟨_,rfl,Ow.nil _ _ _ _ _ _,Gb.refl w⟩
def aHW(K N:Int)(hkn:KN K N)(vf vg:Value)(w:ak)(HL:KW 193 #[J K] (.bool true))(p q:Bool)(hpq:p=E\/p=true/\q=E)
  (HF:Hid (∀w',Gb w w'->CT 194 #[J N,vf] w' λe bf=>∃v,e=Z (V #[v,.bool p])/\Gb w' bf))
  (HG:Hid (∀w',Gb w w'->CT 194 #[J N,vg] w' λe bf=>∃v,e=Z (V #[v,.bool q])/\Gb w' bf)):EC 103 K vf vg w:=by
 rcases hkn with⟨rfl,rfl⟩|⟨rfl,rfl⟩|⟨rfl,rfl⟩|⟨rfl,rfl⟩|⟨rfl,rfl⟩|⟨rfl,rfl⟩<;>rcases hpq with rfl|⟨rfl,rfl⟩
 all_goals
  go_enter func103,ntmps103;go_upto_region 4 with(first|(go_at_call 193;refine kw (HL _) ?_)|(go_at_call 194;refine(HF _ kg).mono ?_;rintro e w1 ⟨u1,rfl,au⟩))
  go_wp2_with (go_at_call 194;refine(HG _ kg).mono ?_;rintro e w2 ⟨u2,rfl,aC⟩);go_returns;exact⟨_,rfl,Ow.nil _ _ _ _ _ _,kg⟩
