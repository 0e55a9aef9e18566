import Derived.Test.YtmiekgjgpmfekaaGreatDoorRows
import Derived.Test.YtmiekgjgpmfekaaGreatDoorN3
set_option linter.all false
set_option maxHeartbeats 40000000
open Bool renaming false → Y
open Go.Proofs.YtmiekgjgpmfekaaGreatDoor renaming vI → J
open Go.Proofs.Tryz
namespace Go.Proofs.YtmiekgjgpmfekaaGreatDoor
open Go.RowKit
variable{w w':World}{len:Nat}{c:Nat->Int}{ops:Array Oper}{rest:List Oper}{o:Oper}{a:Act}{Q:Exit->Act->World->Prop}
theorem aDP{P:Prop}(h:P:=by
 obtain⟨N,rfl⟩:=Int.eq_ofNat_of_zero_le X0;have:((N:Int)/64)=((N/64:Nat):Int):=om;rw[this];exact aAG N (N/64) om om):P:=h
attribute [local go_sem] aj bK
structure dM (w:World) (a:Option Addr) (len:Nat):Prop where
 few:len<=1048576
 cells:len=0\/∃b off,a=some ⟨b,off,none⟩/\∀i,i<len->∃z:Int,0<=z/\z<=255/\aj w b (off+i) (.int .u8 z)
theorem dM.gr{a:Option Addr}(h:dM w a len)(g:Gr w w'):dM w' a len:=by
 refine⟨h.few,?_⟩;rcases h.cells with e|⟨b,off,e,c⟩
 ·exact .inl e
 ·refine .inr ⟨b,off,e,fun i hi=>?_⟩;obtain⟨z,z0,z1,hz⟩:=c i hi;exact⟨z,z0,z1,g.old hz⟩
theorem DU(x n:Int)(hx:0<=x)(hn:0<n):0<=Int.tmod x n/\Int.tmod x n<n:=by
 rw[Int.tmod_eq_emod_of_nonneg hx];exact⟨Int.emod_nonneg _ om,Int.emod_lt_of_pos _ hn⟩
theorem take_zero(a:Option Addr)(cap:Nat)(p n:Int)(hp0:0<=p)(hp1:p<=1000)(hn0:0<n)(hn1:n<=256)(w:World):
  QW 75 #[.slice a 0 cap,J p,J n] w (.tuple #[J 0,J (p+1)]):=by
 go_enter func75,ntmps75;go_wp2;go_returns;exact⟨rfl,rfl⟩
theorem SI(b off len cap:Nat)(k:Nat)(n z:Int)(hlen:len<=1048576)(hk:k<len)(hk1:k<=1000)(hn0:0<n)(hn1:n<=256)(w:World)(z0:0<=z)(z1:z<=255)(hz:aj w b (off+k) (.int .u8 z)):
  QW 75 #[.slice (some ⟨b,off,none⟩) len cap,J k,J n] w (.tuple #[J (z%n),J (k+1)]):=by
 have e0:((len:Int)==0)=Y:=by simp;omega
 have e1:(k:Int)<(len:Int):=om;go_enter func75,ntmps75;go_wp2;go_returns;exact⟨rfl,rfl⟩
theorem aAG(a b:Nat)(ha:a<4294967296)(hb:b<4294967296):0<=bits .xor .i64 (a:Int) (b:Int):=by
 have hx:a^^^b<2^32:=Nat.xor_lt_two_pow om om;show 0<=IntKind.i64.wrap ((BitVec.ofInt 64 (a:Int)^^^BitVec.ofInt 64 (b:Int)).toNat :Int);rw[BitVec.toNat_xor,ofInt_u64 a om,ofInt_u64 b om,IntKind.wrap_i64];omega
theorem XJ(b off len cap:Nat)(k:Nat)(n z y:Int)(hlen:len<=1048576)(hl:0<len)(hk:len<=k)(hk1:k<=1000)(hn0:0<n)(hn1:n<=256)(w:World)(z0:0<=z)(z1:z<=255)(y0:0<=y)(y1:y<=255)
  (hz:aj w b (off+k%len) (.int .u8 z)) (hy:aj w b (off+(k*7+3)%len) (.int .u8 y)):
  CT 75 #[.slice (some ⟨b,off,none⟩) len cap,J k,J n] w fun e w'=>∃x:Int,0<=x/\x<n/\e=.returned (.tuple #[J x,J (k+1)])/\w=w':=by
 have e0:((len:Int)==0)=Y:=by simp;omega
 have e1:¬(k:Int)<(len:Int):=om;have m1:(k:Int).tmod (len:Int)=((k%len:Nat):Int):=by rw[Int.tmod_eq_emod_of_nonneg (by omega)];rfl
 have m2:((k:Int)*7+3).tmod (len:Int)=(((k*7+3)%len:Nat):Int):=by rw[Int.tmod_eq_emod_of_nonneg (by omega)];rfl
 have b1:=Nat.mod_lt k hl;have b2:=Nat.mod_lt (k*7+3) hl;have m3:=Int.emod_nonneg ((k:Int)*7+3) (show(len:Int)≠0 by omega);have m4:=Int.emod_lt_of_pos ((k:Int)*7+3) (show(0:Int)<len by omega);have d0:0<=(k:Int)/(len:Int):=Int.ediv_nonneg om om;have d1:(k:Int)/(len:Int)<=1000:=by have:=Int.ediv_le_self (len:Int) (show(0:Int)<=k by omega);omega
 obtain⟨X,hX⟩:∃X,z*131+y*1117+(k:Int)*29+(k:Int)/(len:Int)*53=X:=⟨_,rfl⟩;have X0:0<=X:=om;have X1:X<4294967296:=om;have HB:Hid (0<=bits .xor .i64 X (X/64)):=by
  exact aDP
 go_enter func75,ntmps75;go_wp2;go_returns;obtain⟨t0,t1⟩:=DU _ n HB.out hn0;exact⟨_,t0,t1,rfl,rfl⟩
theorem take_any(a:Option Addr)(len cap k:Nat)(n:Int)(w:World)(hC:dM w a len)(hk1:k<=1000)(hn0:0<n)(hn1:n<=256):
  CT 75 #[.slice a len cap,J k,J n] w fun e w'=>∃x:Int,0<=x/\x<n/\e=.returned (.tuple #[J x,J ((k+1:Nat):Int)])/\w=w':=by
 have ek:((k+1:Nat):Int)=(k:Int)+1:=om;rw[ek];rcases(show len=0\/0<len by omega)with rfl|hl
 ·refine(take_zero a cap k n om om hn0 hn1 w).mono ?_;rintro e w' ⟨rfl,rfl⟩;exact⟨0,om,hn0,rfl,rfl⟩
 ·rcases hC.cells with e|⟨b,off,rfl,hc⟩
  ·omega
  ·rcases Nat.lt_or_ge k len with h|h
   ·obtain⟨z,z0,z1,hz⟩:=hc k h;refine(SI b off len cap k n z hC.few h hk1 hn0 hn1 w z0 z1 hz).mono ?_;rintro e w' ⟨rfl,rfl⟩;exact⟨_,Int.emod_nonneg _ om,Int.emod_lt_of_pos _ hn0,rfl,rfl⟩
   ·obtain⟨z,z0,z1,hz⟩:=hc (k%len) (Nat.mod_lt _ hl);obtain⟨y,y0,y1,hy⟩:=hc ((k*7+3)%len) (Nat.mod_lt _ hl);exact XJ b off len cap k n z y hC.few hl h hk1 hn0 hn1 w z0 z1 y0 y1 hz hy
structure vM (w:World) (a:Option Addr) (len:Nat) (c:Nat->Int):Prop where
 few:len<=1048576
 cells:len=0\/∃b off,a=some ⟨b,off,none⟩/\∀i,i<len->0<=c i/\c i<=255/\aj w b (off+i) (.int .u8 (c i))
theorem dM.is{a:Option Addr}(h:dM w a len):∃c,vM w a len c:=by
 rcases h.cells with e|⟨b,off,e,k⟩
 ·exact⟨fun _=>0,h.few,.inl e⟩
 ·refine⟨fun i=>if hi:i<len then Classical.choose (k i hi)else 0,h.few,.inr ⟨b,off,e,fun i hi=>?_⟩⟩;rw[dif_pos hi];exact Classical.choose_spec (k i hi)
theorem vM.gb{a:Option Addr}(h:vM w a len c)(g:Gb w w'):vM w' a len c:=by
 refine⟨h.few,?_⟩;rcases h.cells with e|⟨b,off,e,k⟩
 ·exact .inl e
 ·exact .inr ⟨b,off,e,fun i hi=>⟨(k i hi).1,(k i hi).2.1,g.old (k i hi).2.2⟩⟩
def tkX(c:Nat->Int)(len k:Nat):Int:=c (k%len)*131+c ((k*7+3)%len)*1117+(k:Int)*29+(k:Int)/(len:Int)*53
def tk(c:Nat->Int)(len k:Nat)(n:Int):Int:=if len=0 then 0 else if k<len then c k%n else Int.tmod (bits .xor .i64 (tkX c len k) (tkX c len k/64)) n
theorem XK(b off len cap:Nat)(k:Nat)(n z y T:Int)(hlen:len<=1048576)(hl:0<len)(hk:len<=k)(hk1:k<=1000)(hn0:0<n)(hn1:n<=256)(w:World)(z0:0<=z)(z1:z<=255)(y0:0<=y)(y1:y<=255)
  (hz:aj w b (off+k%len) (.int .u8 z)) (hy:aj w b (off+(k*7+3)%len) (.int .u8 y))
  (hT:Int.tmod (bits .xor .i64 (z*131+y*1117+(k:Int)*29+(k:Int)/(len:Int)*53) ((z*131+y*1117+(k:Int)*29+(k:Int)/(len:Int)*53)/64)) n=T):
  (0<=T/\T<n)/\QW 75 #[.slice (some ⟨b,off,none⟩) len cap,J k,J n] w (.tuple #[J T,J (k+1)]):=by
 have e0:((len:Int)==0)=Y:=by simp;omega
 have e1:¬(k:Int)<(len:Int):=om;have m1:(k:Int).tmod (len:Int)=((k%len:Nat):Int):=by rw[Int.tmod_eq_emod_of_nonneg (by omega)];rfl
 have m2:((k:Int)*7+3).tmod (len:Int)=(((k*7+3)%len:Nat):Int):=by rw[Int.tmod_eq_emod_of_nonneg (by omega)];rfl
 have b1:=Nat.mod_lt k hl;have b2:=Nat.mod_lt (k*7+3) hl;have m3:=Int.emod_nonneg ((k:Int)*7+3) (show(len:Int)≠0 by omega);have m4:=Int.emod_lt_of_pos ((k:Int)*7+3) (show(0:Int)<len by omega);have d0:0<=(k:Int)/(len:Int):=Int.ediv_nonneg om om;have d1:(k:Int)/(len:Int)<=1000:=by have:=Int.ediv_le_self (len:Int) (show(0:Int)<=k by omega);omega
 obtain⟨X,hX⟩:∃X,z*131+y*1117+(k:Int)*29+(k:Int)/(len:Int)*53=X:=⟨_,rfl⟩;have X0:0<=X:=om;have X1:X<4294967296:=om;have HB:Hid (0<=bits .xor .i64 X (X/64)):=by
  exact aDP
 have HT:Hid _:=hT;clear hT;constructor
 ·have:=DU _ n HB.out hn0;rw[<-hX,HT.out]at this;exact this
 ·go_enter func75,ntmps75;go_wp2;go_returns;have hT:=HT.out;rw[hX]at hT;subst hT;exact⟨rfl,rfl⟩
theorem o8{a:Option Addr}(cap k:Nat)(n:Int)(hC:vM w a len c)(hk1:k<=1000)(hn0:0<n)(hn1:n<=256):
  (0<=tk c len k n/\tk c len k n<n)/\QW 75 #[.slice a len cap,J k,J n] w (.tuple #[J (tk c len k n),J ((k+1:Nat):Int)]):=by
 have ek:((k+1:Nat):Int)=(k:Int)+1:=om;rw[ek];unfold tk;by_cases hl:len=0
 ·subst hl;rw[if_pos rfl];exact⟨⟨om,hn0⟩,take_zero a cap k n om om hn0 hn1 w⟩
 ·rw[if_neg hl];rcases hC.cells with e|⟨b,off,rfl,hc⟩
  ·omega
  ·by_cases h:k<len
   ·rw[if_pos h];obtain⟨z0,z1,hz⟩:=hc k h;exact⟨⟨Int.emod_nonneg _ om,Int.emod_lt_of_pos _ hn0⟩,SI b off len cap k n _ hC.few h hk1 hn0 hn1 w z0 z1 hz⟩
   ·rw[if_neg h];obtain⟨z0,z1,hz⟩:=hc (k%len) (Nat.mod_lt _ om);obtain⟨y0,y1,hy⟩:=hc ((k*7+3)%len) (Nat.mod_lt _ om);exact XK b off len cap k n _ _ _ hC.few om om hk1 hn0 hn1 w z0 z1 y0 y1 hz hy rfl
theorem La{P:Prop}(h:P:=by
 go_enter func74,ntmps74;go_wp2_with (go_at_call 75;refine(HT.out).mono ?_;rintro e w' ⟨rfl,hw⟩;subst hw);go_returns;exact⟨rfl,kg⟩):P:=h
def WU(a:Int):Nat:=if a=38 then 0 else if a=39 then 7 else if 36<=a then(a-31).toNat else[1,2,2,3,3,3,4,4,4,2].getD (a%10).toNat 0
theorem Ro(a:Int)(h:a<40):WU a<=7:=by
 unfold WU;split
 ·omega
 ·split
  ·omega
  ·split
   ·omega
   ·obtain⟨m,hm,hm'⟩:∃m:Nat,(a%10).toNat =m/\m<10:=⟨_,rfl,om⟩;rw[hm];rcases(show m=0\/m=1\/m=2\/m=3\/m=4\/m=5\/m=6\/m=7\/m=8\/m=9 by omega)with rfl|rfl|rfl|rfl|rfl|rfl|rfl|rfl|rfl|rfl<;>decide
theorem ZW{a:Option Addr}(cap:Nat)(hC:vM w a len c):
  QB 74 #[.slice a len cap,J 0] w (.tuple #[J ((WU (tk c len 0 40):Nat):Int),J 1]):=by
 obtain⟨⟨t0,t1⟩,ht⟩:=o8 cap 0 40 hC om om om;generalize tk c len 0 40=t at*
 have HT:Hid (QW 75 #[.slice a len cap,J 0,J 40] w (.tuple #[J t,J 1])):=ht;clear ht hC;rcases(show t=38\/t=39\/t=36\/t=37\/(((t==38)=Y)/\((t==39)=Y)/\¬36<=t) by simp;omega)with rfl|rfl|rfl|rfl|⟨c1,c2,c3⟩
 ·exact La
 ·exact La
 ·exact La
 ·exact La
 ·obtain⟨m,hm,hm'⟩:∃m:Nat,Int.tmod t 10=(m:Int)/\m<10:=⟨(t%10).toNat,by rw[Int.tmod_eq_emod_of_nonneg t0];omega,om⟩;have hd:WU t=[1,2,2,3,3,3,4,4,4,2].getD m 0:=by
   unfold WU;rw[if_neg (by simp at c1;omega),if_neg (by simp at c2;omega),if_neg c3]
   congr 1
   rw[Int.tmod_eq_emod_of_nonneg t0]at hm;omega
  rw[hd];clear hd;rcases(show m=0\/m=1\/m=2\/m=3\/m=4\/m=5\/m=6\/m=7\/m=8\/m=9 by omega)with rfl|rfl|rfl|rfl|rfl|rfl|rfl|rfl|rfl|rfl
  all_goals
   exact La
set_option maxRecDepth 1000000
theorem aDQ{P:Prop}(h:P:=by
 by_cases h1:b%16=15
 · by_cases h2:how=2
   · exact .inl ⟨h1,h2,by rw[if_pos h2,if_pos h1]⟩
   · exact .inr (.inl ⟨h1,h2,by rw[if_neg h2,if_pos (.inl h1)]⟩)
 · by_cases h2:how=2
   · exact .inr (.inr (.inr (.inl ⟨h1,h2,by rw[if_pos h2,if_neg h1]⟩)))
   · by_cases h3:how=1
     · exact .inr (.inr (.inl ⟨h1,h3,by rw[if_neg h2,if_pos (.inr h3)]⟩))
     · exact .inr (.inr (.inr (.inr ⟨h1,h3,h2,by rw[if_neg h2,if_neg (by omega)]⟩)))):P:=h
theorem kE(hgd:o.guard=none)(s x:Operand)(ty:TypeId)
  (ho:o.op=.call {callee:=.builtin .append,args:=#[s,x],argTypes:=#[ty,ty]}) (t:TypeId) (z:Value) (size bytes:Nat) (k:IntKind) (hty:Tryz.prog.underlying ty=some (.slice t)) (oP:(Tryz.prog.info? t).map (fun i=>(i.zero,i.size,i.bytes))=some (some z,size,bytes)) (hzs:z.cells.size=size) (hs0:0<size) (hby:bytes<=1000)
  (base n r:Nat) (g:Nat->Int) (v:Value) (b:Nat) (hs:a.eval s=v) (hown:Ow w base t size k v n g) (hx:a.eval x=aB b r r)
  (hc:∀j,j<r*size->aj w b j (.int k (g (n*size+j)))) (hr0:0<r) (hn:n+r<=100000000) (hbase:base<=w.heap.size) (u:Value) (n2:Nat) (g2:Nat->Int) (hu:Ow w base t size k u n2 g2) (hd:∀p,v.ownBlock=some p->u.ownBlock≠some p)
  (h:∀v' w',Ow w' base t size k v' (n+r) g->Ow w' base t size k u n2 g2->(∀p,v'.ownBlock=some p->u.ownBlock≠some p)->Below base w w'->wpList Tryz.prog ops Q rest (a.put o.dst v') w'):wpList Tryz.prog ops Q (o::rest) a w:=
 wpList_plain hgd fun _ hK=>Kz s x ty ho t z size bytes k hty oP hzs hs0 hby base n r g v b hs hown hx hc hr0 hn hbase fun v' w' h1 h2 h3 h4=>hK _ _ (h v' w' h1 (Ow.Zh h3 hu fun p e e'=>hd p e' e) (fun p e=>by
  rcases h4 with k|k
  ·rw[k]at e;exact hd p e
  ·rw[k]at e;obtain rfl:=Option.some.inj e;exact hu.ne (Nat.le_refl _)) h2)
theorem Zl:(Tryz.prog.info? 3).map (fun i=>(i.zero,i.size,i.bytes))=some (some (J 0),1,8):=by kernel_rfl
def cfF(how a b:Int):Int:=
 if how=2 then(if b%16=15 then(if 16<=b then-3 else 3)else if 16<=b then Int.tmod (-(a*8+b%8)) 4 else Int.tmod (a*8+b%8) 4)
 else if b%16=15\/how=1 then(if 16<=b then-2047 else 2047)else if 16<=b then-(a*8+b%8)else a*8+b%8
theorem aCg(how a b:Int)(a0:0<=a)(a1:a<256)(b0:0<=b)(b1:b<32):
    ∃r8 r16 d c0 c1 y0 y1 x:Int,(Int.tmod b 8=r8/\b%8=r8)/\(Int.tmod b 16=r16/\b%16=r16)/\(Int.tdiv b 16=d/\b/16=d)/\a*8+r8=c0/\-c0=c1/\(Int.tmod c0 4=y0/\c0%4=y0)/\Int.tmod c1 4=y1/\(0<=r8/\r8<8)/\(0<=c0/\c0<=2047)/\cfF how a b=x/\
      (16<=b/\d=1/\(r16=15/\how=2/\x=-3\/r16=15/\(how==2)=Y/\x=-2047\/(r16==15)=Y/\how=1/\x=-2047\/(r16==15)=Y/\how=2/\x=y1\/(r16==15)=Y/\(how==1)=Y/\(how==2)=Y/\x=c1)\/
       ¬16<=b/\d=0/\(r16=15/\how=2/\x=3\/r16=15/\(how==2)=Y/\x=2047\/(r16==15)=Y/\how=1/\x=2047\/(r16==15)=Y/\how=2/\x=y0\/(r16==15)=Y/\(how==1)=Y/\(how==2)=Y/\x=c0)):=by
  have t8:Int.tmod b 8=b%8:=Int.tmod_eq_emod_of_nonneg b0;have t16:Int.tmod b 16=b%16:=Int.tmod_eq_emod_of_nonneg b0;have d16:Int.tdiv b 16=b/16:=Int.tdiv_eq_ediv_of_nonneg b0;have t4:Int.tmod (a*8+b%8) 4=(a*8+b%8)%4:=Int.tmod_eq_emod_of_nonneg om;refine⟨b%8,b%16,b/16,a*8+b%8,-(a*8+b%8),Int.tmod (a*8+b%8) 4,Int.tmod (-(a*8+b%8)) 4,cfF how a b,⟨t8,rfl⟩,⟨t16,rfl⟩,⟨d16,rfl⟩,rfl,rfl,⟨rfl,t4.symm⟩,rfl,om,om,rfl,?_⟩;by_cases h:16<=b
  · refine .inl ⟨h,om,?_⟩
    unfold cfF;simp only[if_pos h,beq_eq_false_iff_ne,ne_eq];exact aDQ
  · refine .inr ⟨h,om,?_⟩
    unfold cfF;simp only[if_neg h,beq_eq_false_iff_ne,ne_eq];exact aDQ
def co(c:Nat->Int)(len i:Nat):Int:=cfF (tk c len 1 20) (tk c len (2+2*i) 256) (tk c len (2+2*i+1) 32)
def dN(c:Nat->Int)(len:Nat):Nat:=2^WU (tk c len 0 40)
def dF(c:Nat->Int)(len j:Nat):Int:=if j<dN c len then co c len j else 1
def dG(c:Nat->Int)(len j:Nat):Int:=if tk c len 1 20=18/\j=0 then 2048 else co c len (dN c len+j)
def dL(c:Nat->Int)(len:Nat):Nat:=if tk c len 1 20=19 then dN c len+1 else dN c len
theorem vk{a:Option Addr}(cap:Nat)(hC:vM w a len c):
  CT 29 #[.slice a len cap] w fun e w'=>∃vf vg,e=.returned (.tuple #[J ((WU (tk c len 0 40):Nat):Int),vf,vg])/\Ow w' w.heap.size 3 1 .i64 vf (dL c len) (dF c len)/\Ow w' w.heap.size 3 1 .i64 vg (dN c len) (dG c len)/\Gb w w':=by
 have HC:Hid (∀w',Gb w w'->vM w' a len c):=fun w' g=>hC.gb g;obtain⟨⟨k0,k1⟩,_⟩:=o8 cap 0 40 hC om om om;obtain⟨⟨h0,h1⟩,_⟩:=o8 cap 1 20 hC om om om;have hK:=Ro _ k1;have HD:Hid (∀w',Gb w w'->QB 74 #[.slice a len cap,J 0] w' (.tuple #[J ((WU (tk c len 0 40):Nat):Int),J 1])):=fun w' g=>ZW cap (HC w' g);have HH:Hid (∀w',Gb w w'->QW 75 #[.slice a len cap,J 1,J 20] w' (.tuple #[J (tk c len 1 20),J 2])):=fun w' g=>(o8 cap 1 20 (HC w' g) om om om).2;have HS:KW 50 #[J ((WU (tk c len 0 40):Nat):Int)] (J ((dN c len:Nat):Int)):=fun w'=>XW _ om w';have n1:1<=dN c len:=Nat.pow_pos de;have n2:dN c len<=128:=Nat.le_trans (Nat.pow_le_pow_right de hK) de;have HF:Hid (∀j,j<dN c len->dF c len j=co c len j):=fun j hj=>by unfold dF;rw[if_pos hj]
 have HF1:Hid (dF c len (dN c len)=1):=by show _=_;unfold dF;rw[if_neg (by omega)]
 have HG1:Hid (∀h,h=tk c len 1 20->h=18->∀j,(if j=0 then 2048 else co c len (dN c len+j))=dG c len j):=fun h' h0 h j=>by subst h0;unfold dG;by_cases e:j=0<;>simp[h,e]
 have HG0:Hid (¬tk c len 1 20=18->∀j,co c len (dN c len+j)=dG c len j):=fun h j=>by unfold dG;rw[if_neg (by omega)]
 have HL1:Hid (∀h,h=tk c len 1 20->h=19->dL c len=dN c len+1):=fun h' h0 h=>by subst h0;unfold dL;rw[if_pos h]
 have HL0:Hid (¬tk c len 1 20=19->dL c len=dN c len):=fun h=>by unfold dL;rw[if_neg h]
 have HCO:Hid (∀i,co c len i=cfF (tk c len 1 20) (tk c len (2+2*i) 256) (tk c len (2+2*i+1) 32)):=fun i=>rfl;generalize dN c len=N at*
 generalize dL c len=L at*
 generalize dF c len=F at*
 generalize dG c len=G at*
 generalize(WU (tk c len 0 40))=K at*
 generalize tk c len 1 20=how at*
 generalize hCo:co c len=C at*
 clear hCo hC;have g1:Hid (how=1\/how=2\/True):=.inr (.inr trivial);go_enter func29,ntmps29;go_upto_region 2 with(go_at_call 74;refine ku (HD _ kg) fun w1 ak=>?_);go_upto_region 3 with(go_at_call 75;refine(HH _ kg).mono ?_;rintro e w' ⟨rfl,hw⟩;subst hw);go_upto_region 6 with(go_at_call 50;refine(HS _).mono ?_;rintro e w' ⟨rfl,hw⟩;subst hw);have hs1:=ak.size;have aJy:Hid (Gb w w1):=ak;go_wp2;go_loopw [8,9,10,12] (fun s8 s9 s10 s12 wr=>∃(i nf ng:Nat) (q:Int) (vf vg:Value),vf=s9/\vg=s10/\i<=2*N/\s12=J i/\s8=J q/\q=2+2*(i:Int)/\nf=min i N/\ng=i-N/\Ow wr w.heap.size 3 1 .i64 s9 nf F/\Ow wr w.heap.size 3 1 .i64 s10 ng (fun j=>C (N+j))/\(∀p,s9.ownBlock=some p->s10.ownBlock≠some p)/\Gb w wr) (fun _ _ _ i _=>(300-intOf i).toNat)
 case atStart=>
  have oA:=((Ow.lit w1 3 1 .i64 F).alloc (.cells #[] 3)).mono (show w.heap.size<=w1.heap.size by omega);have oB:=(Ow.lit (w1.alloc (.cells #[] 3)) 3 1 .i64 (fun j=>C (N+j))).mono (show w.heap.size<=(w1.alloc (.cells #[] 3)).heap.size by rw[World.size_alloc];omega);rw[World.size_alloc]at oB;refine⟨0,0,0,2,_,_,rfl,rfl,om,rfl,rfl,om,om,om,oA,oB,?_,by have:=aJy.out;exact kg⟩;intro p h h';simp[Value.ownBlock]at h h';omega
 case round=>
  obtain⟨i,nf,ng,q,vf,vg,rfl,rfl,hi,rfl,rfl,hq,hnf,hng,hOf,FV,hdis,hG⟩:=hrel;have HOf:Hid (∀w2,Gb wr w2->Ow w2 w.heap.size 3 1 .i64 vf nf F):=fun w2 hg=>hOf.gb hg;have Kv:Hid (∀w2,Gb wr w2->Ow w2 w.heap.size 3 1 .i64 vg ng (fun j=>C (N+j))):=fun w2 hg=>FV.gb hg;have Uf:Hid (∀p,vf.ownBlock=some p->vg.ownBlock≠some p):=hdis;have Kw:Hid (Gb w wr):=hG;have hsz:=hG.size;clear hOf FV hdis hG;by_cases hlt:(i:Int)<2*(N:Int)
  ·have hlt2:(i:Int)<260:=om;obtain⟨⟨a0,a1⟩,ht1⟩:=o8 cap (2+2*i) 256 (HC _ Kw.out) om om om;obtain⟨⟨b0,b1⟩,ht2⟩:=o8 cap (2+2*i+1) 32 (HC _ Kw.out) om om om;have hco:=HCO i;generalize tk c len (2+2*i) 256=ka at*
   generalize tk c len (2+2*i+1) 32=kb at*
   rw[show((2+2*i+1:Nat):Int)=q+1 by omega,show((2+2*i:Nat):Int)=q by omega]at ht1;rw[show((2+2*i+1+1:Nat):Int)=q+1+1 by omega,show((2+2*i+1:Nat):Int)=q+1 by omega]at ht2;have HT1:Hid (CT 75 #[.slice a len cap,J q,J 256] wr fun e w'=>e=.returned (.tuple #[J ka,J (q+1)])/\wr=w'):=ht1;have HT2:Hid (CT 75 #[.slice a len cap,J (q+1),J 32] wr fun e w'=>e=.returned (.tuple #[J kb,J (q+1+1)])/\wr=w'):=ht2;have HQ:Hid (q=2+2*(i:Int)):=hq;clear ht1 ht2 hq;go_upto_region 11 with(go_at_call 75;refine(HT1.out).mono ?_;rintro e w' ⟨rfl,hw⟩;subst hw);go_upto_region 12 with(go_at_call 75;refine(HT2.out).mono ?_;rintro e w' ⟨rfl,hw⟩;subst hw);obtain⟨r8,r16,d,c0,c1,y0,y1,x,⟨m8,m8'⟩,⟨m16,aKe⟩,⟨dd,dd'⟩,hc0,hc1,⟨q0,q0'⟩,q1,hr8,hc0',hx,hw⟩:=aCg how ka kb a0 a1 b0 b1;have HX:Hid (C i=x):=hco.trans hx;clear hco hx;have t1:Int.tmod (-2047) 4=-3:=de;have t2:Int.tmod 2047 4=3:=de;have w8:IntKind.i64.wrap (ka*8)=ka*8:=wi;have wc:IntKind.i64.wrap (ka*8+r8)=c0:=wi;have wn:IntKind.i64.wrap (-c0)=c1:=wi;by_cases hin:(i:Int)<(N:Int)
   ·obtain rfl:nf=i:=om;obtain rfl:ng=0:=om;have HE:Hid (F (nf*1+0)=F nf):=by show _=_;rw[Nat.mul_one,Nat.add_zero]
    clear hnf hng;rcases hw with⟨p16,rfl,(⟨rfl,rfl,rfl⟩|⟨rfl,e2,rfl⟩|⟨e15,rfl,rfl⟩|⟨e15,rfl,rfl⟩|⟨e15,e1,e2,rfl⟩)⟩|⟨p16,rfl,(⟨rfl,rfl,rfl⟩|⟨rfl,e2,rfl⟩|⟨e15,rfl,rfl⟩|⟨e15,rfl,rfl⟩|⟨e15,e1,e2,rfl⟩)⟩
    all_goals
     have HX':=(HE.out.trans (HF nf om)).trans HX.out;go_upto_region 13 with(fail);go_upto_region 15 with(fail);go_upto_region 17 with(fail);go_upto_region 19 with(fail);go_wp2_with (at_builtin;refine kE rfl _ _ 45 rfl 3 (J 0) 1 8 .i64 Tryz.underlying45 Zl rfl de de w.heap.size nf 1 F _ wr.heap.size rfl (HOf _ kg) rfl (nM (g:=F) (m:=nf*1) (by simp[go_sem]) HX') om om (by rw[World.size_alloc];omega) vg 0 _ (Kv _ kg) Uf.out ?_;intro v3 w3 Zw Zv hd3 hb3);have hg3:Gb w w3:=Gb.below (by have:=Kw.out;exact kg) hb3 (Nat.le_refl _);clear hb3;go_roundw
     case rel=>exact⟨nf+1,nf+1,0,q+1+1,_,_,rfl,rfl,om,by go_num,rfl,by have:=HQ.out;omega,om,om,Zw,Zv,hd3,hg3⟩
     case measure=>simp[intOf];omega
   ·obtain rfl:nf=N:=om;have HN:Hid (ng=i-nf):=hng;have HE:Hid ((fun j=>C (nf+j)) (ng*1+0)=C i):=by show C _=C _;congr 1;omega
    clear hnf hng;rcases hw with⟨p16,rfl,(⟨rfl,rfl,rfl⟩|⟨rfl,e2,rfl⟩|⟨e15,rfl,rfl⟩|⟨e15,rfl,rfl⟩|⟨e15,e1,e2,rfl⟩)⟩|⟨p16,rfl,(⟨rfl,rfl,rfl⟩|⟨rfl,e2,rfl⟩|⟨e15,rfl,rfl⟩|⟨e15,rfl,rfl⟩|⟨e15,e1,e2,rfl⟩)⟩
    all_goals
     have HX':=HE.out.trans HX.out;go_upto_region 13 with(fail);go_upto_region 15 with(fail);go_upto_region 17 with(fail);go_upto_region 19 with(fail);go_wp2_with (at_builtin;refine kE rfl _ _ 45 rfl 3 (J 0) 1 8 .i64 Tryz.underlying45 Zl rfl de de w.heap.size ng 1 (fun j=>C (nf+j)) _ wr.heap.size rfl (Kv _ kg) rfl (nM (g:=fun j=>C (nf+j)) (m:=ng*1) (by simp[go_sem]) HX') om (by have:=HN.out;omega) (by rw[World.size_alloc];omega) vf nf F (HOf _ kg) (fun p e e'=>Uf p e' e) ?_;intro v3 w3 Zv Zw hd3 hb3);have hg3:Gb w w3:=Gb.below (by have:=Kw.out;exact kg) hb3 (Nat.le_refl _);clear hb3;go_roundw
     case rel=>exact⟨i+1,nf,ng+1,q+1+1,_,_,rfl,rfl,om,by go_num,rfl,by have:=HQ.out;omega,om,by have:=HN.out;omega,Zw,Zv,fun p e e'=>hd3 p e' e,hg3⟩
     case measure=>simp[intOf];omega
  ·obtain rfl:i=2*N:=om;obtain rfl:nf=N:=om;obtain rfl:ng=nf:=om;have hno:¬((2*ng:Nat):Int)<2*(ng:Int):=om;clear hq hnf hng;have hpos:(0:Int)<(ng:Int):=om;rcases(show how=18\/how=19\/((how==18)=Y/\(how==19)=Y) by simp;omega)with rfl|rfl|⟨e1,e2⟩
   ·obtain⟨bg,cg,hvg,hb0,hb1,_,_,hcell⟩:=(Kv _ (Gb.refl _)).at om;subst hvg;obtain⟨bf,cf,hvf,hb2,_,_,_,_⟩:=(HOf _ (Gb.refl _)).at om;subst hvf;have hne:bg≠bf:=fun e=>Uf bf rfl (by rw[e];rfl);obtain⟨x,hx⟩:∃x,C (ng+0)=x:=⟨_,rfl⟩;have c0:wr.cell? ⟨bg,0,none⟩=some (J x):=by rw[<-hx];exact(hcell 0 om).1
    have z0:bK wr bg 0:=(hcell 0 om).2;clear hcell hx;go_wp2;go_returns;refine⟨_,_,rfl,?_,?_,?_⟩
    ·rw[HL0.out (by omega)];exact(HOf _ (Gb.refl _)).other hne _
    ·exact((Kv _ (Gb.refl _)).store 0 2048).congr fun j _=>HG1 18 rfl rfl j
    ·have:=Kw.out;exact Gb.below this ((Below.refl w.heap.size wr).setCell hb0 _) (Nat.le_refl _)
   ·have HX':F (ng*1+0)=1:=by rw[Nat.mul_one,Nat.add_zero];exact HF1.out
    go_wp2_with (at_builtin;refine kE rfl _ _ 45 rfl 3 (J 0) 1 8 .i64 Tryz.underlying45 Zl rfl de de w.heap.size ng 1 F _ wr.heap.size rfl (HOf _ kg) rfl (nM (g:=F) (m:=ng*1) (by simp[go_sem]) HX') om om (by rw[World.size_alloc];omega) vg ng _ (Kv _ kg) Uf.out ?_;intro v3 w3 Zw Zv hd3 hb3);go_returns;refine⟨_,_,rfl,?_,?_,Gb.below (by have:=Kw.out;exact kg) hb3 (Nat.le_refl _)⟩
    ·rw[HL1.out 19 rfl rfl];exact Zw
    ·exact Zv.congr fun j _=>HG0 om j
   ·go_wp2;go_returns;refine⟨_,_,rfl,?_,?_,Kw.out⟩
    ·rw[HL0.out (by simp at e2;omega)];exact HOf _ (Gb.refl _)
    ·exact(Kv _ (Gb.refl _)).congr fun j _=>HG0 (by simp at e1;omega) j
