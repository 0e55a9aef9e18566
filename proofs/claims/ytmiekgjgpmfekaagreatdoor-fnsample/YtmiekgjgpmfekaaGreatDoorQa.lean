import Derived.Test.YtmiekgjgpmfekaaGreatDoorRows
import Derived.Laws.Rows
import Derived.WalkSmall
import Derived.Test.YtmiekgjgpmfekaaGreatDoorK3
set_option linter.all false
open Go.Proofs.YtmiekgjgpmfekaaGreatDoor renaming vI → J, vU → Y
open Go.Ending renaming returned → Z
open Go.Proofs.Tryz
namespace Go.Proofs.YtmiekgjgpmfekaaGreatDoor
open Go.RowKit
attribute [local go_sem] aj
def DW:List Int:=[12311384997445461060,6896949616398116700,3175666228297764653,1183806766059182244,353476207714659139,83907343225073545,15749660485982248,2328616999791800,270433320942720,24618334939658,1753979576257,97691228987,4249834529,144306183,3822728,78971,1272,16]
def nY(i:Nat):Int:=DW.getD i 0
def qI:Array Value:=#[Y 12311384997445461060,Y 6896949616398116700,Y 3175666228297764653,Y 1183806766059182244,Y 353476207714659139,Y 83907343225073545,Y 15749660485982248,Y 2328616999791800,Y 270433320942720,Y 24618334939658,Y 1753979576257,Y 97691228987,Y 4249834529,Y 144306183,Y 3822728,Y 78971,Y 1272,Y 16]
theorem Lr(i:Nat)(h:i<18):qI[i]?=some (Y (nY i)):=by
 obtain rfl|rfl|rfl|rfl|rfl|rfl|rfl|rfl|rfl|rfl|rfl|rfl|rfl|rfl|rfl|rfl|rfl|rfl:i=0\/i=1\/i=2\/i=3\/i=4\/i=5\/i=6\/i=7\/i=8\/i=9\/i=10\/i=11\/i=12\/i=13\/i=14\/i=15\/i=16\/i=17:=om
 all_goals rfl
theorem Nz{P:Int->Prop}{l:List Int}(h:∀x ∈ l,P x)(h0:P 0)(i:Nat):P (l.getD i 0):=by
 rw[List.getD_eq_getElem?_getD];cases e:l[i]? with
 |none=>exact h0
 |some x=>exact h x (List.mem_of_getElem? e)
theorem XL(i:Nat):0<=nY i/\nY i<18446744073709551616:=Nz (P:=fun x=>0<=x/\x<18446744073709551616) (l:=DW) de de i
def above(f:Nat->Int)(u:Int):Nat->Nat
 |0=>0
 |k+1=>above f u k+if u<f k then 1 else 0
theorem FM(f:Nat->Int)(u:Int)(k:Nat):above f u k<=k:=by
 induction k with
 |zero=>exact Nat.le_refl _
 |succ k ih=>unfold above;split<;>omega
theorem aFJ(f:Nat->Int){u v:Int}(h:u<=v)(k:Nat):above f v k<=above f u k:=by
 induction k with
 |zero=>exact Nat.le_refl _
 |succ k ih=>unfold above;(repeat' split)<;>omega
def iO(u:Int):Nat:=above nY u 18
theorem zM(u:Int):iO u<=18:=FM _ _ _
def Tl(w:World):Prop:=∃t fr,w.heap[1]?=some (.cells qI t fr)
theorem Tl.below{w w':World}(h:Tl w)(b:Below w.heap.size w w'):Tl w':=by
 obtain⟨t,fr,h⟩:=h;refine⟨t,fr,?_⟩;have:1<w.heap.size:=by
  rcases Nat.lt_or_ge 1 w.heap.size with k|k
  ·exact k
  ·simp[k]at h
 rw[Below.block b _ this];exact h
def vw:List Int:=[9223372034707292160,9223372032559808513,9223372028264841220,9223372019674906640,9223372002495037504,9223371968135299328,9223371899415823360,9223371761976872960,9223371487098978304,9223370937343213568,9223369837831782400,9223367638809313280,9223363240765947903,9223354444685508597,9223336852549795755,9223301668379032917,9223231300440156843,9223090566172988758,9222809104080874160,9222246205664613803,9221120511896629248,9218869536560097961,9214369234215239612,9205375219083682339,9187413517043429148,9151595186215228390,9080376907458843210,8939598712059420229,8664556174609911609,8139597253909710366,7183169364861397922,5594257926288582650,3393088950634442637,1248247667004394400,168931951563480719,3094096621605846,1037953783668,116806]
def ji(i:Nat):Int:=vw.getD i 0
def lN:Array Value:=#[Y 9223372034707292160,Y 9223372032559808513,Y 9223372028264841220,Y 9223372019674906640,Y 9223372002495037504,Y 9223371968135299328,Y 9223371899415823360,Y 9223371761976872960,Y 9223371487098978304,Y 9223370937343213568,Y 9223369837831782400,Y 9223367638809313280,Y 9223363240765947903,Y 9223354444685508597,Y 9223336852549795755,Y 9223301668379032917,Y 9223231300440156843,Y 9223090566172988758,Y 9222809104080874160,Y 9222246205664613803,Y 9221120511896629248,Y 9218869536560097961,Y 9214369234215239612,Y 9205375219083682339,Y 9187413517043429148,Y 9151595186215228390,Y 9080376907458843210,Y 8939598712059420229,Y 8664556174609911609,Y 8139597253909710366,Y 7183169364861397922,Y 5594257926288582650,Y 3393088950634442637,Y 1248247667004394400,Y 168931951563480719,Y 3094096621605846,Y 1037953783668,Y 116806]
theorem Ia(i:Nat)(h:i<38):lN[i]?=some (Y (ji i)):=by
 have hs:lN=(vw.map fun n=>Value.int .u64 n).toArray :=rfl;have hl:vw.length=38:=rfl;rw[hs,List.getElem?_toArray,List.getElem?_map,List.getElem?_eq_getElem om,Option.map_some];unfold ji;rw[List.getD_eq_getElem?_getD,List.getElem?_eq_getElem om,Option.getD_some]
theorem rM(i:Nat):0<=ji i/\ji i<=9223372036854775808:=Nz (P:=fun x=>0<=x/\x<=9223372036854775808) (l:=vw) de de i
def share(a b:Int):Int:=a*b/9223372036854775808%18446744073709551616
theorem X7(a b:Int):0<=share a b/\share a b<18446744073709551616:=by unfold share;omega
theorem o9{a b:Int}(a0:0<=a)(a1:a<=9223372036854775808)(b0:0<=b)(b1:b<=9223372036854775808):share a b=a*b/9223372036854775808/\share a b<=a:=by
 have h0:0<=a*b:=Int.mul_nonneg a0 b0;have h1:a*b<=a*9223372036854775808:=Int.mul_le_mul_of_nonneg_left b1 a0;have h2:a*b/9223372036854775808<=a:=om;unfold share;constructor<;>omega
theorem Ph{a c b:Int}(a0:0<=a)(h:a<=c)(c1:c<=9223372036854775808)(b0:0<=b)(b1:b<=9223372036854775808):share a b<=share c b:=by
 rw[(o9 a0 om b0 b1).1,(o9 om c1 b0 b1).1];exact Int.ediv_le_ediv de (Int.mul_le_mul_of_nonneg_right h b0)
def dec(t:Int):Nat->Int
 |0=>9223372036854775808
 |k+1=>if t/2^k%2=1 then share (dec t k) (ji k)else dec t k
theorem Fj(t:Int)(k:Nat):0<=dec t k/\dec t k<=9223372036854775808:=by
 induction k with
 |zero=>exact⟨by unfold dec;decide,Int.le_refl _⟩
 |succ k ih=>
  unfold dec;split
  ·have:=o9 ih.1 ih.2 (rM k).1 (rM k).2;have:=X7 (dec t k) (ji k);omega
  ·exact ih
theorem aG8(t s:Int)(h:∀k:Nat,t/2^k%2=1->s/2^k%2=1)(k:Nat):dec s k<=dec t k:=by
 induction k with
 |zero=>exact Int.le_refl _
 |succ k ih=>
  have a:=Fj s k;have b:=Fj t k;have d:=rM k;have hk:=h k;unfold dec;by_cases ht:t/2^k%2=1
  ·rw[if_pos ht,if_pos (hk ht)];exact Ph a.1 ih b.2 d.1 d.2
  ·rw[if_neg ht];split
   ·exact Int.le_trans (o9 a.1 a.2 d.1 d.2).2 ih
   ·exact ih
def jO(t:Int):Int:=if t<274877906944 then dec t 38 else 0
theorem H_(t:Int):0<=jO t/\jO t<=9223372036854775808:=by
 unfold jO;split
 ·exact Fj t 38
 ·decide
def Dc(w:World):Prop:=∃t fr,w.heap[2]?=some (.cells lN t fr)
theorem Dc.below{w w':World}(h:Dc w)(b:Below w.heap.size w w'):Dc w':=by
 obtain⟨t,fr,h⟩:=h;refine⟨t,fr,?_⟩;have:2<w.heap.size:=by
  rcases Nat.lt_or_ge 2 w.heap.size with k|k
  ·exact k
  ·simp[k]at h
 rw[Below.block b _ this];exact h
set_option maxHeartbeats 40000000
theorem aCP{P:Prop}(h:P:=by
 obtain⟨t0,t1⟩:=XL k;have hs:above nY u (k+1)=n+if u<nY k then 1 else 0:=by rw[<-hn];rfl
 have HS:Hid _:=hs;clear hs;generalize nY k=t at*
 by_cases hb:u<t
 ·go_wp2;go_round
  case rel=>exact⟨k+1,om,by rw[HS.out,if_pos hb];go_num,by go_num⟩
  case measure=>simp[intOf];omega
 ·go_wp2;go_round
  case rel=>exact⟨k+1,om,by rw[HS.out,if_neg hb];go_num,by go_num⟩
  case measure=>simp[intOf];omega):P:=h
theorem X6(w:World):CT 125 #[] w fun e w'=>∃b,e=Z (aB b 18 18)/\Gr w w'/\∀i,i<18->aj w' b i (Y (nY i)):=by
 go_enter func125,ntmps125;go_wp2;go_returns;exact⟨_,rfl,kr,fun i hi=>(World.cell?_alloc_new _ _ _ _).trans (Lr i hi)⟩
theorem Hu{t:TypeId}{n:Nat}(h:Tryz.prog.underlying t=some (.array n 33)){cs:Array Value}{k:Nat}{v:Value}(hk:k<n)(hv:cs[k]?=some v)(w:World):(Instr.index t (.agg cs) (J k)).run Tryz.prog w=.ok v w:=by
 have hk':(k:Int)<n:=om;simp[Instr.index,run_underlying h,asIntOf,hk,hk',hv,go_sem]
theorem aFB(u:Int)(h0:0<=u)(h1:u<18446744073709551616)(w:World):
  QR 60 #[Y u] w (J (iO u:Nat)):=by
 go_enter func60,ntmps60;go_wp2_with (go_at_call 125;refine(X6 _).mono ?_;rintro e w1 ⟨b,rfl,hg0,hc0⟩);have hc:Hid _:=hc0;have hg:Hid (Gr w w1):=hg0;clear hc0 hg0;go_loop [4,5] (fun n i=>∃k:Nat,k<=18/\n=J (above nY u k:Nat)/\i=J k) (fun _ i=>18-(intOf i).toNat)
 case atStart=>exact⟨0,om,rfl,rfl⟩
 case round=>
  obtain⟨k,hk,rfl,rfl⟩:=hrel;have ha:=FM nY u k;obtain⟨n,hn⟩:∃n,above nY u k=n:=⟨_,rfl⟩;rw[hn]at ha⊢
  by_cases h:(k:Int)<18
  ·have q:=hc.out k om;exact aCP
  ·obtain rfl:k=18:=om;go_wp2;go_returns;exact⟨by rw[<-hn];rfl,hg.out⟩
theorem aFC(u:Int)(h0:0<=u)(h1:u<18446744073709551616){w:World}(hT:Tl w):
  QW 138 #[Y u] w (J (iO u:Nat)):=by
 obtain⟨t,fr,hg⟩:=hT;have hc:Hid (∀i,i<18->qI[i]?=some (Y (nY i))):=Lr;have hz:qI.size=18:=rfl;generalize qI=cs at*
 go_enter func138,ntmps138;go_wp2_with (refine wpList_load_row rfl 217 _ rfl 1 rfl t cs fr _ hg Tryz.underlying217 rfl (by rw[hz];kernel_rfl) ?_);go_loop [3,7] (fun n i=>∃k:Nat,k<=18/\n=J (above nY u k:Nat)/\i=J k) (fun _ i=>18-(intOf i).toNat)
 case atStart=>exact⟨0,om,rfl,rfl⟩
 case round=>
  obtain⟨k,hk,rfl,rfl⟩:=hrel;have ha:=FM nY u k;obtain⟨n,hn⟩:∃n,above nY u k=n:=⟨_,rfl⟩;rw[hn]at ha⊢
  by_cases h:(k:Int)<18
  ·have q:=Hu Tryz.underlying217 (show k<18 by omega) (hc.out k om) w;exact aCP
  ·obtain rfl:k=18:=om;go_wp2;go_returns;exact⟨by rw[<-hn];rfl,rfl⟩
theorem LD(x y:Int)(hx0:0<=x)(hx:x<18446744073709551616)(hy0:0<=y)(hy:y<18446744073709551616)(w:World):
  Calls Tryz.prog 174 #[Y x,Y y] w fun e w'=>e=Z (aG (x*y/18446744073709551616) (x*y%18446744073709551616))/\∃c:Array Value,w'=w.alloc (.cells c 131):=by
 obtain⟨x1,hx1⟩:∃v,x/4294967296=v:=⟨_,rfl⟩;obtain⟨x0,hxl⟩:∃v,x%4294967296=v:=⟨_,rfl⟩;obtain⟨y1,hy1⟩:∃v,y/4294967296=v:=⟨_,rfl⟩;obtain⟨y0,hyl⟩:∃v,y%4294967296=v:=⟨_,rfl⟩;obtain⟨eq,a0,a1,b0,b1,c0,c1,d0,d1⟩:=halves x y x1 x0 y1 y0 om om om om om om om om om om;obtain⟨a,ha⟩:∃v,x1*y1=v:=⟨_,rfl⟩;obtain⟨b,hb⟩:∃v,x1*y0=v:=⟨_,rfl⟩;obtain⟨c,hc⟩:∃v,x0*y1=v:=⟨_,rfl⟩;obtain⟨d,hd⟩:∃v,x0*y0=v:=⟨_,rfl⟩;rw[ha,hb,hc,hd]at eq;rw[ha]at a0 a1;rw[hb]at b0 b1;rw[hc]at c0 c1;rw[hd]at d0 d1;have E:Hid _:=eq;clear eq;go_enter func174,ntmps174;go_wp2;go_returns;have e:=E.out;generalize x*y=p at*
 refine⟨aED ?_ ?_,_,rfl⟩
 ·first|omega|(simp only[IntKind.wrap_u64];done)|(simp only[IntKind.wrap_u64];omega)
 ·first|omega|(simp only[IntKind.wrap_u64];done)|(simp only[IntKind.wrap_u64];omega)
theorem aCO{P:Prop}(h:P:=by
 go_wp2;go_returns;have e:(k:Int)=bnd n:=by unfold bnd;(repeat' split)<;>omega
 exact⟨Eu (HF e).1 (HF e).2.1 (HF e).2.2,_,_,rfl⟩):P:=h
theorem Hl(h l:Int)(k:Nat)(h0:0<=h)(l0:0<=l):iR h l (k+1)=(iR h l k||decide ((h*18446744073709551616+l)/2^k%2=1)):=by
 obtain⟨H,rfl⟩:=Int.eq_ofNat_of_zero_le h0;obtain⟨L,rfl⟩:=Int.eq_ofNat_of_zero_le l0;unfold iR;rw[show(H:Int)*18446744073709551616+L=((H*18446744073709551616+L:Nat):Int) by omega];generalize H*18446744073709551616+L=V;have c1:(V:Int)%2^(k+1)=((V%2^(k+1):Nat):Int):=by push_cast;rfl
 have c2:(V:Int)%2^k=((V%2^k:Nat):Int):=by push_cast;rfl
 have c3:(V:Int)/2^k=((V/2^k:Nat):Int):=by push_cast;rfl
 rw[c1,c2,c3,Nat.pow_succ,Nat.mod_mul];have hp:0<2^k:=Nat.pow_pos de;generalize 2^k=P at*
 generalize V%P=A at*
 generalize V/P=B at*
 rcases Nat.mod_two_eq_zero_or_one B with e|e
 ·rw[e,Nat.mul_zero,Nat.add_zero];have:¬((B:Nat):Int)%2=1:=om;simp[this]
 ·rw[e,Nat.mul_one];have:((B:Nat):Int)%2=1:=om;simp only[this,decide_true,Bool.or_true,decide_eq_true_eq];omega
theorem Vx(h l:Int):iR h l 0=false:=by
 unfold iR;rw[Int.pow_zero];simp[Int.emod_one]
theorem LC(h l n:Int)(hh0:0<=h)(hl0:0<=l)(hh1:h<18446744073709551616)(hl1:l<18446744073709551616)(w:World):
  CT 173 #[aG h l,J n] w fun e w'=>e=Z (.tuple #[aG (je h l (bnd n).toNat) (iF h l (bnd n).toNat),.bool (iR h l (bnd n).toNat)])/\∃c1 c2:Array Value,w'=(w.alloc (.cells c1 131)).alloc (.cells c2 131):=by
 go_enter func173,ntmps173;go_wp2;go_loopw [6,7] (fun b i wr=>∃(k:Nat) (X:Int) (L:Bool),k<=128/\((k:Int)<=n\/k=0)/\i=J k/\b=.bool L/\Hid (L=iR h l k)/\Hid (X=(h*18446744073709551616+l)/2^k)/\0<=X/\X<340282366920938463463374607431768211456/\wr=(w.alloc (.cells #[Y (X/18446744073709551616),Y (X%18446744073709551616)] 131)).alloc (.cells #[Y 0,Y 0] 131)) (fun _ i _=>128-(intOf i).toNat)
 case atStart=>exact⟨0,h*18446744073709551616+l,false,om,om,rfl,rfl,(Vx h l).symm,by show _=_;rw[Int.pow_zero];omega,om,om,Iw om om⟩
 case round=>
  obtain⟨k,X,L,hk,hkn,rfl,rfl,HL,HX,x0,x1,rfl⟩:=hrel;have fin:∀(h2:(k:Int)=bnd n),X/18446744073709551616=je h l (bnd n).toNat /\X%18446744073709551616=iF h l (bnd n).toNat /\L=iR h l (bnd n).toNat :=by
   intro h2;have:(bnd n).toNat =k:=om;unfold je iF;rw[this,<-HX.out];exact⟨rfl,rfl,HL.out⟩
  have HF:Hid (_->_):=fin;clear fin;by_cases h1:(k:Int)<n
  ·by_cases h2:(k:Int)<128
   ·have hx2:0<=X/2/\X/2<340282366920938463463374607431768211456:=om;by_cases h3:X%18446744073709551616%2=1
    ·have hl:Hid (true=iR h l (k+1)):=by show _=_;rw[Hl h l k hh0 hl0,<-HX.out,show decide (X%2=1)=true from decide_eq_true om,Bool.or_true]
     go_wp2;go_roundw
     case rel=>exact⟨k+1,X/2,true,om,om,by go_num,rfl,hl,by show _=_;rw[HX.out,LK],hx2.1,hx2.2,Iw (by first|omega|(simp only[IntKind.wrap_u64];omega)) (by first|omega|(simp only[IntKind.wrap_u64];omega))⟩
     case measure=>simp[intOf];omega
    ·have hl:Hid (L=iR h l (k+1)):=by show _=_;rw[Hl h l k hh0 hl0,<-HX.out,show decide (X%2=1)=false from decide_eq_false om,Bool.or_false,HL.out]
     have h3':X%18446744073709551616%2=0:=om;clear h3;go_wp2;go_roundw
     case rel=>exact⟨k+1,X/2,L,om,om,by go_num,rfl,hl,by show _=_;rw[HX.out,LK],hx2.1,hx2.2,Iw (by first|omega|(simp only[IntKind.wrap_u64];omega)) (by first|omega|(simp only[IntKind.wrap_u64];omega))⟩
     case measure=>simp[intOf];omega
   ·exact aCO
  ·exact aCO
set_option maxRecDepth 1000000
def j_(s:ByteArray)(i:Nat):Int:=if h:i<s.size then(s[i].toNat :Int)else 0
theorem yw(s:ByteArray)(i:Nat):0<=j_ s i/\j_ s i<=255:=by
 unfold j_;split
 ·have:=(s[i]).toNat_lt;omega
 ·omega
theorem Dt(s:ByteArray)(i:Nat)(h:i<s.size)(w:World):(Instr.index 9 (.string s) (J i)).run Tryz.prog w=.ok (.int .u8 (j_ s i)) w:=by
 rw[run_index_string w 9 s .i64 i Tryz.underlying9,dif_pos ⟨om,om⟩];unfold j_;rw[dif_pos h];rfl
def num(s:ByteArray)(p:Nat):Nat->Int
 |0=>0
 |k+1=>j_ s p+256*num s (p+1) k
theorem Qs(s:ByteArray)(k:Nat):∀p,0<=num s p k/\num s p k<256^k:=by
 induction k with
 |zero=>intro p;exact⟨Int.le_refl _,by unfold num;decide⟩
 |succ k ih=>
  intro p;have a:=ih (p+1);have b:=yw s p;show 0<=j_ s p+256*num s (p+1) k/\j_ s p+256*num s (p+1) k<256^(k+1);rw[Int.pow_succ];omega
theorem aBA(s:ByteArray)(k:Nat):∀p,num s p (k+1)=num s p k+256^k*j_ s (p+k):=by
 induction k with
 |zero=>intro p;simp[num]
 |succ k ih=>
  intro p;show j_ s p+256*num s (p+1) (k+1)=j_ s p+256*num s (p+1) k+256^(k+1)*j_ s (p+(k+1));rw[ih (p+1),Int.pow_succ,show p+1+k=p+(k+1) by omega,Int.mul_add];have:256*(256^k*j_ s (p+(k+1)))=256^k*256*j_ s (p+(k+1)):=by rw[<-Int.mul_assoc,Int.mul_comm 256]
  omega
theorem GY(s:ByteArray)(p:Nat):0<=num s p 8/\num s p 8<18446744073709551616:=Qs s 8 p
theorem ZU(s:ByteArray)(p:Nat)(h:p+8<=s.size)(hs:s.size<=1048576)(w:World):
  QW 61 #[.string s,J p] w (Y (num s p 8)):=by
 go_enter func61,ntmps61;go_wp2;go_loop [5,6] (fun v i=>∃k:Nat,k<=8/\v=Y (num s (p+k) (8-k))/\i=J ((k:Int)-1)) (fun _ i=>(intOf i+1).toNat)
 case atStart=>exact⟨8,om,rfl,rfl⟩
 case round=>
  obtain⟨k,hk,rfl,rfl⟩:=hrel;by_cases h0:0<=(k:Int)-1
  ·obtain⟨j,rfl⟩:∃j,k=j+1:=⟨k-1,om⟩;have q:=Dt s (p+j) om w;have hb:=yw s (p+j);have hn:=Qs s (8-(j+1)) (p+(j+1));have hm:num s (p+(j+1)) (8-(j+1))<72057594037927936:=Int.lt_of_lt_of_le hn.2 (by
    have:=Nat.pow_le_pow_right (show 0<256 by decide) (show 8-(j+1)<=7 by omega);have e:((256^(8-(j+1)):Nat):Int)=(256:Int)^(8-(j+1)):=Int.natCast_pow _ _;omega)
   have HS:Hid (num s (p+j) (8-j)=num s (p+(j+1)) (8-(j+1))*256+j_ s (p+j)):=by
    show _=_;rw[show 8-j=8-(j+1)+1 by omega];show j_ s (p+j)+256*num s (p+j+1) (8-(j+1))=_;rw[show p+j+1=p+(j+1) by omega];omega
   have e1:((p+j:Nat):Int)=(p:Int)+j:=om;have e2:((j+1:Nat):Int)-1=j:=om;rw[e2];rw[e1]at q;have hn0:=hn.1;clear hn e1 e2;generalize num s (p+(j+1)) (8-(j+1))=v at*
   generalize j_ s (p+j)=b at*
   go_wp2;go_round
   case rel=>exact⟨j,om,by rw[HS.out],by go_num⟩
   case measure=>first|(simp[intOf];done)|(simp[intOf];omega)
  ·obtain rfl:k=0:=om;go_wp2;go_returns;exact⟨rfl,rfl⟩
theorem aBy(v b:Int)(k:Nat)(hk:k<8)(v0:0<=v)(v1:v<256^k)(b0:0<=b)(b1:b<=255):bits .or .u64 v (b*256^k)=v+256^k*b/\b*256^k<18446744073709551616/\v+256^k*b<18446744073709551616:=by
 obtain⟨x,rfl⟩:=Int.eq_ofNat_of_zero_le v0;obtain⟨y,rfl⟩:=Int.eq_ofNat_of_zero_le b0;have e:((2^(8*k):Nat):Int)=(256:Int)^k:=by rw[Nat.pow_mul];exact Int.natCast_pow _ _
 rw[<-e]at v1⊢
 have hx:x<2^(8*k):=om;have hy:y<2^8:=om;have hp:2^(8*k)*2^8<=2^64:=by rw[<-Nat.pow_add];exact Nat.pow_le_pow_right de om
 have h1:2^(8*k)*y+x<2^(8*k)*2^8:=by
  have:2^(8*k)*(y+1)<=2^(8*k)*2^8:=Nat.mul_le_mul_left _ om;rw[Nat.mul_add]at this;omega
 have h2:x|||y*2^(8*k)=2^(8*k)*y+x:=by
  rw[Nat.mul_comm y,Nat.or_comm,Nat.two_pow_add_eq_or_of_lt hx]
 have h3:=bits_or_u64_nat x (y*2^(8*k)) om (by rw[Nat.mul_comm];omega);rw[h2]at h3;have h4:((y*2^(8*k):Nat):Int)=(y:Int)*((2^(8*k):Nat):Int):=by rw[Int.natCast_mul]
 have h5:((2^(8*k)*y+x:Nat):Int)=(x:Int)+((2^(8*k):Nat):Int)*(y:Int):=by rw[Int.natCast_add,Int.natCast_mul];omega
 rw[h4,h5]at h3;refine⟨h3,?_,?_⟩
 ·rw[<-h4];rw[Nat.mul_comm];omega
 ·rw[<-h5];omega
theorem ZV(s:ByteArray)(h:8<=s.size)(hs:s.size<=1048576)(w:World):
  QW 137 #[.string s] w (Y (num s 0 8)):=by
 go_enter func137,ntmps137;go_wp2;go_loop [3,5] (fun v i=>∃k:Nat,k<=8/\v=Y (num s 0 k)/\i=J k) (fun _ i=>8-(intOf i).toNat)
 case atStart=>exact⟨0,om,rfl,rfl⟩
 case round=>
  obtain⟨k,hk,rfl,rfl⟩:=hrel;by_cases h0:(k:Int)<8
  ·have q:=Dt s k om w;have hb:=yw s k;have hn:=Qs s k 0;obtain⟨o1,o2,o3⟩:=aBy (num s 0 k) (j_ s k) k om hn.1 hn.2 hb.1 hb.2;have HS:Hid (num s 0 (k+1)=num s 0 k+256^k*j_ s k):=by show _=_;rw[aBA,Nat.zero_add]
   have hn0:=hn.1;have HW:Hid (IntKind.u64.wrap (j_ s k*2^(8*k))=j_ s k*256^k):=by
    show _=_;have e:(2:Int)^(8*k)=256^k:=by rw[Int.pow_mul];rfl
    have hp:(0:Int)<=j_ s k*256^k:=Int.mul_nonneg hb.1 (Int.pow_nonneg de);rw[e,IntKind.wrap_u64];exact Int.emod_eq_of_lt hp o2
   clear hn;generalize num s 0 k=v at*
   generalize j_ s k=b at*
   go_wp2;go_round
   case rel=>exact⟨k+1,om,by rw[HS.out,<-o1,HW.out],by go_num⟩
   case measure=>first|(simp[intOf];done)|(simp[intOf];omega)
  ·obtain rfl:k=8:=om;go_wp2;go_returns;exact⟨rfl,rfl⟩
theorem BH(a b:Int):iF (a*b/18446744073709551616) (a*b%18446744073709551616) (bnd 63).toNat =share a b:=by
 have e:(bnd 63).toNat =63:=de;rw[e];unfold iF share;rw[show a*b/18446744073709551616*18446744073709551616+a*b%18446744073709551616=a*b by omega];rfl
theorem YL(a b:Int)(a0:0<=a)(a1:a<18446744073709551616)(b0:0<=b)(b1:b<18446744073709551616)(w:World):
  QR 126 #[Y a,Y b] w (Y (share a b)):=by
 obtain⟨p0,p1⟩:=xZ a b a0 a1 b0 b1;have e0:=BH a b;generalize share a b=s at*
 have H1:KR 174 #[Y a,Y b] (aG (a*b/18446744073709551616) (a*b%18446744073709551616)):=fun w=>(LD a b a0 a1 b0 b1 w).mono fun e w' ⟨h,c,hw⟩=>⟨h,by subst hw;exact kr⟩;have H2:Hid (∀w,CT 173 #[aG (a*b/18446744073709551616) (a*b%18446744073709551616),J 63] w fun e w'=>∃x y,e=Z (.tuple #[aG x s,.bool y])/\Gr w w'):=fun w=>(LC _ _ 63 om om om om w).mono fun e w' ⟨h,c1,c2,hw⟩=>⟨_,_,h.trans (by rw[e0]),by subst hw;exact kr⟩;clear e0;generalize a*b/18446744073709551616=x at*
 generalize a*b%18446744073709551616=y at*
 go_enter func126,ntmps126;go_wp2_with (first
  |(go_at_call 174;refine(H1 _).mono ?_;rintro e w1 ⟨rfl,ak⟩)
  |(go_at_call 173;refine(H2 _).mono ?_;rintro e w2 ⟨x2,y2,rfl,aA⟩))
 go_returns;exact⟨rfl,kr⟩
theorem SQ(a b:Int)(a0:0<=a)(a1:a<18446744073709551616)(b0:0<=b)(b1:b<18446744073709551616)(w:World):
  QR 141 #[Y a,Y b] w (Y (share a b)):=by
 obtain⟨p0,p1⟩:=xZ a b a0 a1 b0 b1;have e0:=BH a b;generalize share a b=s at*
 have H1:KR 183 #[Y a,Y b] (aG (a*b/18446744073709551616) (a*b%18446744073709551616)):=BN a b a0 a1 b0 b1;have H2:Hid (∀w,CT 182 #[aG (a*b/18446744073709551616) (a*b%18446744073709551616),J 63] w fun e w'=>∃x y,e=Z (.tuple #[aG x s,.bool y])/\Gr w w'):=fun w=>(uH _ _ 63 om om om om w).mono fun e w' ⟨h,hw⟩=>⟨_,_,h.trans (by rw[e0]),hw⟩;clear e0;generalize a*b/18446744073709551616=x at*
 generalize a*b%18446744073709551616=y at*
 go_enter func141,ntmps141;go_wp2_with (first
  |(go_at_call 183;refine(H1 _).mono ?_;rintro e w1 ⟨rfl,ak⟩)
  |(go_at_call 182;refine(H2 _).mono ?_;rintro e w2 ⟨x2,y2,rfl,aA⟩))
 go_returns;exact⟨rfl,kr⟩
theorem Z5(w:World):CT 175 #[] w fun e w'=>∃b,e=Z (aB b 38 38)/\Gr w w'/\∀i,i<38->aj w' b i (Y (ji i)):=by
 go_enter func175,ntmps175;go_wp2;go_returns;exact⟨_,rfl,kr,fun i hi=>(World.cell?_alloc_new _ _ _ _).trans (Ia i hi)⟩
theorem aCt(w:World):QW 120 #[J 38] w (Y 274877906944):=gU 38 _ om de w
theorem two63(w:World):QW 120 #[J 63] w (Y 9223372036854775808):=gU 63 _ om de w
theorem V8(t:Int)(k:Nat):t/2^k/2=t/2^(k+1):=by
 rw[Int.pow_succ,Int.ediv_ediv_of_nonneg (Int.pow_nonneg de)]
theorem MH{t:Int}(h0:0<=t)(h1:t<18446744073709551616)(k:Nat):0<=t/2^k/\t/2^k<18446744073709551616:=
 ⟨Int.ediv_nonneg h0 (Int.pow_nonneg de),Int.lt_of_le_of_lt (Int.ediv_le_self _ h0) h1⟩
theorem aB9(t:Int)(h0:0<=t)(h1:t<18446744073709551616)(w:World):
  QR 127 #[Y t] w (Y (jO t)):=by
 by_cases hb:t<274877906944
 ·have hn:jO t=dec t 38:=if_pos hb;rw[hn];have hb':¬274877906944<=t:=om;clear hn;go_enter func127,ntmps127;go_upto_region 3 with(go_at_call 120;refine kw (aCt _) ?_);go_upto_region 4 with(go_at_call 175;refine(Z5 _).mono ?_;rintro e w1 ⟨b,rfl,hg0,hc0⟩);go_wp2_with (go_at_call 120;refine kw (two63 _) ?_);have hc:Hid _:=hc0;have hg:Hid (Gr w w1):=hg0;clear hc0 hg0;go_loopw [0,4,5] (fun x y i wr=>∃k:Nat,k<=38/\x=Y (t/2^k)/\y=Y (dec t k)/\i=J k/\Hid (Gr w1 wr)) (fun _ _ i _=>38-(intOf i).toNat)
  case atStart=>exact⟨0,om,by rw[Int.pow_zero,Int.ediv_one],rfl,rfl,Gr.refl _⟩
  case round=>
   obtain⟨k,hk,rfl,rfl,rfl,hr⟩:=hrel
   rename_i wr
   by_cases h:(k:Int)<38
   ·have q:=hr.out.old (hc.out k om);obtain⟨t0,t1⟩:=rM k;obtain⟨d0,d1⟩:=Fj t k;obtain⟨x0,x1⟩:=MH h0 h1 k;have HS:Hid (dec t (k+1)=if t/2^k%2=1 then share (dec t k) (ji k)else dec t k):=rfl;have HX:Hid (t/2^k/2=t/2^(k+1)):=V8 t k;have HY:KR 126 #[Y (dec t k),Y (ji k)] (Y (share (dec t k) (ji k))):=YL _ _ d0 om t0 om;generalize t/2^k=x at*
    generalize share (dec t k) (ji k)=z at*
    generalize dec t k=y at*
    generalize ji k=f at*
    by_cases hb:x%2=1
    ·go_wp2_with (go_at_call 126;refine(HY _).mono ?_;rintro e w2 ⟨rfl,aA⟩);go_roundw
     case rel=>exact⟨k+1,om,by rw[<-HX.out],by rw[HS.out,if_pos hb],by go_num,hr.out.trans aA⟩
     case measure=>simp[intOf];omega
    ·have hb2:x%2=0:=om;have HB:Hid (¬x%2=1):=hb;clear hb;go_wp2;go_roundw
     case rel=>exact⟨k+1,om,by rw[<-HX.out],by rw[HS.out,if_neg HB.out],by go_num,hr⟩
     case measure=>simp[intOf];omega
   ·obtain rfl:k=38:=om;go_wp2;go_returns;exact⟨rfl,hg.out.trans hr.out⟩
 ·have hn:jO t=0:=if_neg hb;rw[hn];have hb':274877906944<=t:=om;clear hn hb;go_enter func127,ntmps127;go_wp2_with (go_at_call 120;refine kw (aCt _) ?_);go_returns;exact⟨rfl,Gr.refl _⟩
theorem aCa(t:Int)(h0:0<=t)(h1:t<18446744073709551616){w:World}(hT:Dc w):
  QR 140 #[Y t] w (Y (jO t)):=by
 have hsh:t/2^38=t/274877906944:=rfl;by_cases hb:t<274877906944
 ·have hn:jO t=dec t 38:=if_pos hb;rw[hn];have hb':t/274877906944=0:=om;clear hn;obtain⟨tt,fr,hg⟩:=hT;have hc:Hid (∀i,i<38->lN[i]?=some (Y (ji i))):=Ia;have hz:lN.size=38:=rfl;generalize lN=cs at*
  go_enter func140,ntmps140;go_wp2_with (refine wpList_load_row rfl 218 _ rfl 2 rfl tt cs fr _ hg Tryz.underlying218 rfl (by rw[hz];kernel_rfl) ?_);go_loopw [3,10] (fun y i wr=>∃k:Nat,k<=38/\y=Y (dec t k)/\i=J k/\Hid (Gr w wr)) (fun _ i _=>38-(intOf i).toNat)
  case atStart=>exact⟨0,om,rfl,rfl,Gr.refl _⟩
  case round=>
   obtain⟨k,hk,rfl,rfl,hr⟩:=hrel
   rename_i wr
   by_cases h:(k:Int)<38
   ·have q:=Hu Tryz.underlying218 (show k<38 by omega) (hc.out k om) wr;obtain⟨t0,t1⟩:=rM k;obtain⟨d0,d1⟩:=Fj t k;obtain⟨x0,x1⟩:=MH h0 h1 k;have hand:=and_one_u64 (t/2^k) x0 om;have HS:Hid (dec t (k+1)=if t/2^k%2=1 then share (dec t k) (ji k)else dec t k):=rfl;have HY:KR 141 #[Y (dec t k),Y (ji k)] (Y (share (dec t k) (ji k))):=SQ _ _ d0 om t0 om;generalize share (dec t k) (ji k)=z at*
    generalize dec t k=y at*
    generalize ji k=f at*
    by_cases hb:t/2^k%2=1
    ·go_wp2_with (go_at_call 141;refine(HY _).mono ?_;rintro e w2 ⟨rfl,aA⟩);go_roundw
     case rel=>exact⟨k+1,om,by rw[HS.out,if_pos hb],by go_num,hr.out.trans aA⟩
     case measure=>simp[intOf];omega
    ·have hb2:t/2^k%2=0:=om;have HB:Hid (¬t/2^k%2=1):=hb;clear hb;go_wp2;go_roundw
     case rel=>exact⟨k+1,om,by rw[HS.out,if_neg HB.out],by go_num,hr⟩
     case measure=>simp[intOf];omega
   ·obtain rfl:k=38:=om;go_wp2;go_returns;exact⟨rfl,hr.out⟩
 ·have hn:jO t=0:=if_neg hb;rw[hn];have hb':(t/274877906944==0)=false:=by simp;omega
  clear hn;go_enter func140,ntmps140;go_wp2;go_returns;exact⟨rfl,Gr.refl _⟩
def Wo(a:Int):Prop:=0<=a/\a<18446744073709551616
abbrev qo:Int:=4602678819172646912
abbrev c32:Int:=4751297606875873280
abbrev c63:Int:=4890909195324358656
structure O7 where
 int:Int->Int
 sub:Int->Int->Int
 mul:Int->Int->Int
 iT:Int->Int
 fix:Int->Int
 whole:Int->Int
structure O7.In (o:O7):Prop where
 int:∀n,Wo (o.int n)
 sub:∀{a b},Wo a->Wo b->Wo (o.sub a b)
 aF8:∀{a b},Wo a->Wo b->9223372036854775808<=o.sub a b->o.sub a b%9223372036854775808<=9218868437227405312
 mul:∀{a b},Wo a->Wo b->Wo (o.mul a b)
 iT:∀{a},Wo a->Wo (o.iT a)
 fix:∀{a},Wo a->Wo (o.fix a)
 whole:∀{a},Wo a->Wo (o.whole a)
def tZ(a b:Int):Int:=if a.tmod 9223372036854775808=0/\b.tmod 9223372036854775808=0 then 0 else if decide (9223372036854775808<=a)≠decide (9223372036854775808<=b)then(if 9223372036854775808<=a then-1 else 1)else if a.tmod 9223372036854775808=b.tmod 9223372036854775808 then 0 else if decide (a.tmod 9223372036854775808<b.tmod 9223372036854775808)=decide (a<9223372036854775808)then-1 else 1
def Unp(a c s:Int):Prop:=(s=0\/s=1)/\(1<c↔9218868437227405312<=a%9223372036854775808)/\(c=0↔a%9223372036854775808=0)/\(s=1->9223372036854775808<=a)
structure O7.S (o:O7):Prop where
 word:Hid (∀n,-9223372036854775808<=n->n<=9223372036854775807->∀w,QB 40 #[J n] w (Y (o.int n)))
 minus:Hid (∀a b,Wo a->Wo b->∀w,QB 59 #[Y a,Y b] w (Y (o.sub a b)))
 times:Hid (∀a b,Wo a->Wo b->∀w,QB 42 #[Y a,Y b] w (Y (o.mul a b)))
 half:KB 44 #[] (Y qo)
 ZP:Hid (∀w,CT 36 #[J 1,J 0,J 3,Y 4294967296] w fun e w'=>∃fl:Int,e=Z (aK c32 fl)/\Gb w w')
 ZO:Hid (∀w,CT 36 #[J 1,J 0,J 3,Y 9223372036854775808] w fun e w'=>∃fl:Int,e=Z (aK c63 fl)/\Gb w w')
 unp:∀{a},Wo a->∃c s x g:Int,Unp a c s/\bC 1 a c s x g
 order:Hid (∀a b,Wo a->Wo b->∀w,QW 116 #[J 1,Y a,Y b] w (J (tZ a b)))
 iT:Hid (∀a,Wo a->∀w,CT 58 #[J 1,J 4,Y a,.bool false] w fun e w'=>∃fl:Int,e=Z (aK (o.iT a) fl)/\Gb w w')
 fix:Hid (∀a,Wo a->∀w,CT 63 #[J 1,J 2,J 3,Y a] w fun e w'=>∃fl:Int,e=Z (aK (o.fix a) fl)/\Gb w w')
 whole:Hid (∀a,Wo a->∀w,CT 63 #[J 1,J 0,J 1,Y a] w fun e w'=>∃fl:Int,e=Z (aK (o.whole a) fl)/\Gb w w')
 k1:o.mul (o.int (-2199023255552)) qo=14010698440749613056
 k2:o.mul (o.int 2199023255552) qo=4787326403894837248
 k3:o.mul (o.int 1) qo=qo
 k4:o.mul (o.int 2) qo=4607182418800017408
 k5:o.mul (o.int 0) qo=0
 k6:o.mul qo qo=4598175219545276416
 k7:o.mul 4598175219545276416 qo=4593671619917905920
 neg:∀{x},Wo x->9223372036854775808<=x->x%9223372036854775808<=9218868437227405312->o.fix (o.mul x c32)=0
structure O7.I (o:O7):Prop where
 word:Hid (∀n,-9223372036854775808<=n->n<=9223372036854775807->∀w,Fm w->QR 139 #[J n] w (Y (o.int n)))
 minus:Hid (∀a b,Wo a->Wo b->∀w,Fm w->QR 66 #[Y a,Y b] w (Y (o.sub a b)))
 times:Hid (∀a b,Wo a->Wo b->∀w,Fm w->QR 67 #[Y a,Y b] w (Y (o.mul a b)))
 fix:Hid (∀a,Wo a->∀w,Fm w->QR 68 #[Y a] w (Y (o.fix a)))
 iT:Hid (∀a,Wo a->∀w,Fm w->CT 65 #[J 1,J 4,Y a,.bool false] w fun e w'=>∃fl:Int,e=Z (aK (o.iT a) fl)/\Gr w w')
 whole:Hid (∀a,Wo a->a%9223372036854775808<=4787326403894837248->∀w,Fm w->CT 37 #[J 1,J 2,J 1,Y (o.iT a)] w fun e w'=>∃fl:Int,e=Z (aK (o.whole (o.iT a)) fl)/\Gr w w')
def isC(mu inv scale:Int):Bool:=decide (mu%9223372036854775808<=4787326403894837248)&&(decide (qo<=inv)&&decide (inv<=4607182418800017408))&&(decide (0<scale)&&decide (scale<=4607182418800017408))
namespace O7
variable (o:O7)
def above(mu:Int):Int:=o.sub mu (o.iT mu)
def narrow(inv:Int):Int:=o.mul (o.mul inv inv) qo
def shr(scale:Int):Int:=o.fix (o.mul scale c63)
def C_(z:Int)(n:Nat)(r h:Int):Int:=o.sub (o.mul (o.mul (o.sub (o.int z) r) (o.sub (o.int z) r)) h) (o.mul (o.int ((n:Int)*n)) 4593671619917905920)
def leaves(z:Int)(n:Nat)(r h e:Int):Int:=share (jO (o.fix (o.mul (o.C_ z n r h) c32))) e
def acc(z:Int)(n:Nat)(r h e v:Int):Bool:=decide (v/2<o.leaves z n r h e)
end O7
def OG(n:Nat)(c:Int):Int:=if c%2=1 then(n:Int)+1 else-(n:Int)
theorem OM(n:Nat)(c:Int)(hn:n<=18):-18<=OG n c/\OG n c<=19:=by unfold OG;split<;>omega
theorem Wo.c(x:Int)(h0:0<=x:=by first|decide)(h1:x<18446744073709551616:=by first|decide):Wo x:=⟨h0,h1⟩
set_option maxRecDepth 1000000
def aJ9(s v t u:Int):Int:=if v=0/\u=0 then 0 else if s≠t then t-s else if s=1 then-qB v u else qB v u
theorem Jr(f a b v u sg r:Int)(HS:KW 118 #[J f] (Y sg))(s0:¬sg=0)(hv:a.tmod sg=v)(hu:b.tmod sg=u)
  (hr:Hid (r=if v=0/\u=0 then 0 else if decide (sg<=a)≠decide (sg<=b)then(if sg<=a then-1 else 1)else if v=u then 0 else if decide (v<u)=decide (a<sg)then-1 else 1)) (w:World):
  QW 116 #[J f,Y a,Y b] w (J r):=by
 go_enter func116,ntmps116;go_wp2_with (go_at_call 118;refine kw (HS _) ?_);all_goals go_returns
 all_goals exact⟨bJ (congrArg (Value.int .i64) (by rw[hr.out];simp_all)),rfl⟩
