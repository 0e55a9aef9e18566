import Derived.Lib.ItoaNum
import Derived.Test.YthoelefkjpjhfaaGreatDoorN2
set_option linter.all false
set_option maxRecDepth 1000000
open Bool renaming false → X
open Go.Value renaming int → J
open Go.IntKind renaming i64 → Y
open Go.Ending renaming returned → O
open Go.Proofs.Tryz
namespace Go.Proofs.YthoelefkjpjhfaaGreatDoor
open Go.RowKit
variable {w w':ak}{s a b:aJ}{k n f:Nat}{v v':Value}{D l:List UInt8}{base r acc x d m:Int}{e:Ending}{ps:List aJ}{t:TypeId}{us:List Value}{W:Nat->Int}{ops:Array Oper}{rest:List Oper}{o:Oper}{Q:Exit->Act->ak->Prop}{ok:Bool}
def aL7{P:Prop}(h:P:=by
 go_wp2;go_round
 case rel=>exact⟨k+1,om,jS,H2.out⟩
 case measure=>first|(simp[intOf];done)|(simp[intOf];omega)):P:=h
attribute [local go_sem] aB
def hexD:aJ:=⟨#[48,49,50,51,52,53,54,55,56,57,97,98,99,100,101,102]⟩
def oW(b:Int):Int:=if 48<=b/\b<=57 then b-48 else if 97<=b/\b<=102 then b-87 else-1
def IB(b:Int):-1<=oW b/\oW b<=15:=by unfold oW;split<;>(try split)<;>omega
def aLf:∀k,k<16->oW (iJ hexD k)=k:=de
def aPn{b:Int}(h:∀k,k<16->iJ hexD k≠b):oW b=-1:=by
 have e:∀k,k<16->iJ hexD k=if k<10 then 48+(k:Int)else 87+k:=de
 unfold oW;split
 .have:=h (b-48).toNat om;rw[e _ om,aQ (by omega)]at this;omega
 .split
  .have:=h (b-87).toNat om;rw[e _ om,aH (by omega)]at this;omega
  .rfl
def VG(b:Int)(w:ak):QW 124 #[J .u8 b] w (J Y (oW b)):=by
 go_enter func124,ntmps124;go_wp2;go_loop [3] (λi=>∃k:Nat,k<=16/\i=J Y k/\Hid (∀j,j<k->iJ hexD j≠b)) (λi=>16-(intOf i).toNat)
 case atStart=>exact⟨0,om,rfl,λj hj=>bG hj om⟩
 case round=>
  obtain⟨k,hk,rfl,HB⟩:=hrel;by_cases h0:(k:Int)<16
  .have q:=jR hexD k (om:k<16) w;unfold hexD at q;have HD:Hid (oW (iJ hexD k)=k):=aLf k om;by_cases e:iJ hexD k=b
   .have c:(iJ hexD k==b)=true:=by simp[e]
    unfold hexD at c;have H2:Hid (oW b=k):=by show _=_;rw[<-e];exact HD.out
    clear HD e;go_wp2;go_returns;exact⟨b_ (lu _ H2.out.symm),rfl⟩
   .have c:(iJ hexD k==b)=X:=by simp[e]
    have H2:Hid (∀j,j<k+1->iJ hexD j≠b):=λj hj=>by
     rcases Nat.lt_succ_iff_lt_or_eq.1 hj with h|rfl
     .exact HB j h
     .exact e
    unfold hexD at c;clear HD e;exact aL7
  .obtain rfl:k=16:=om;have H2:Hid (oW b=-1):=aPn HB.out;go_wp2;go_returns;exact⟨b_ (lu _ H2.out.symm),rfl⟩
def pq(w:ak)(v:Value)(n:Nat)(g:Nat->aJ):Prop:=
 ∃a cap,v=.slice a n cap/\n<=cap/\cap<=maxLen/\(0<n->∃b o,a=some ⟨b,o,none⟩/\∀j,j<n->aB w b (o+j) (.string (g j)))
def pq.gb{g:Nat->aJ}(h:pq w v n g)(hg:Gb w w'):pq w' v n g:=by
 obtain⟨a,cap,h1,h2,h3,h4⟩:=h;refine⟨a,cap,h1,h2,h3,λhn=>?_⟩;obtain⟨b,o,hb,hc⟩:=h4 hn;exact⟨b,o,hb,λj hj=>hg.old (hc j hj)⟩
def Qm(g:Nat->aJ)(n:Nat)(s:aJ)(r:Int):Prop:=(r=-1/\∀j,j<n->g j≠s)\/∃k:Nat,k<n/\r=k/\g k=s/\∀j,j<k->g j≠s
def aOk(g:Nat->aJ)(n:Nat)(s:aJ):∃r,Qm g n s r/\-1<=r/\r<n:=by
 induction n with
 |zero=>exact⟨-1,.inl ⟨rfl,λj hj=>bG hj om⟩,om,om⟩
 |succ n ih=>
  obtain⟨r,⟨rfl,h⟩|⟨k,h1,h2,h3,h4⟩,r0,r1⟩:=ih
  .by_cases e:g n=s
   .exact⟨n,.inr ⟨n,om,rfl,e,h⟩,om,om⟩
   .refine⟨-1,.inl ⟨rfl,λj hj=>?_⟩,om,om⟩;rcases Nat.lt_succ_iff_lt_or_eq.1 hj with c|rfl
    .exact h j c
    .exact e
  .exact⟨r,.inr ⟨k,om,h2,h3,h4⟩,r0,om⟩
def zJ(h:a≠b):(a.toList==b.toList)=X:=by
 rw[ByteArray.toList_eq,ByteArray.toList_eq];refine Am λe=>h ?_;cases a;cases b;exact lu _ (Array.toList_inj.1 e)
def str_eq(h:a=b):(a.toList==b.toList)=true:=by subst h;exact beq_self_eq_true _
def aKk{g:Nat->aJ}(hr:pq w v n g)(hp:Qm g n s r):QW 57 #[v,.string s] w (J Y r):=by
 obtain⟨a,cap,rfl,h1,h2,aW⟩:=hr;have HC:Hid _:=aW;have HP:Hid (Qm g n s r):=hp;have hn9:n<=9223372036854775807:=by unfold maxLen at h2;omega
 clear aW hp h2 h1;go_enter func57,ntmps57;go_wp2;go_loop [5] (λi=>∃k:Nat,k<=n/\i=J Y k/\Hid (∀j,j<k->g j≠s)) (λi=>n-(intOf i).toNat)
 case atStart=>exact⟨0,om,rfl,λj hj=>bG hj om⟩
 case round=>
  obtain⟨k,hk,rfl,HB⟩:=hrel;by_cases h0:(k:Int)<(n:Int)
  .obtain⟨b,o,rfl,hc⟩:=HC om;have q:=hc k om;clear hc;by_cases e:g k=s
   .have H2:Hid (r=k):=by
     rcases HP.out with⟨_,h⟩|⟨k',h1,h2,h3,h4⟩
     .exact bG e (h k om)
     .show r=k;have:k'=k:=by
       rcases Oz k k' with c|c|c
       .exact bG e (h4 k c)
       .exact c.symm
       .exact bG h3 (HB k' c)
      omega
    have c:=str_eq e;clear e;go_wp2;go_returns;exact⟨b_ (lu _ H2.out.symm),rfl⟩
   .have H2:Hid (∀j,j<k+1->g j≠s):=λj hj=>by
     rcases Nat.lt_succ_iff_lt_or_eq.1 hj with h|rfl
     .exact HB j h
     .exact e
    have c:=zJ e;clear e;exact aL7
  .obtain rfl:k=n:=om;have H2:Hid (r=-1):=by
    rcases HP.out with⟨h,_⟩|⟨k',h1,h2,h3,h4⟩
    .exact h
    .exact bG h3 (HB k' h1)
   go_wp2;go_returns;exact⟨b_ (lu _ H2.out.symm),rfl⟩
def aL6{P:Prop}(h:P:=by
 go_enter func45,ntmps45;go_wp2_with (go_at_call 108;refine ku (H _) λw1 au=>?_);go_returns;exact⟨rfl,kr⟩):P:=h
def Ew(d:Nat):aJ:=hexD.extract d (d+1)
def sF(d:Nat):(Ew d).size <=1:=by unfold Ew;rw[ByteArray.size_extract];omega
def yX(d:Nat)(hd:d<16)(k:IntKind)(w:ak):(Instr.slice 9 (.string hexD) (some (J Y (d:Int))) (some (J Y ((d:Int)+1))) none).run prog w=.ok (.string (Ew d)) w:=by
 have h:hexD.size=16:=rfl;have:=run_slice_string (P:=prog) w 9 hexD Y Y (d:Int) ((d:Int)+1) underlying9 om om (by rw[h];omega);rw[this];rfl
def pV(n:Nat):aJ:=if n<16 then Ew n else pV (n/16)++Ew (n%16)
def yV(k:Nat):∀n,n<16^(k+1)->(pV n).size <=k+1:=by
 induction k with
 |zero=>intro n hn;unfold pV;rw[aQ (by omega)];exact sF n
 |succ k ih=>
  intro n hn;unfold pV;split
  .have:=sF n;omega
  .rw[ByteArray.size_append];have:=ih (n/16) (by rw[jE]at hn;omega);have:=sF (n%16);omega
def aNs(n:Nat):aI n->∀w,QR 48 #[J .u64 (n:Int)] w (.string (pV n)):=by
 induction n using Nat.strongRecOn with
 |ind n ih=>
  intro hn w;by_cases h:n<16
  .have h':(n:Int)<16:=om;have q:=yX n h Y;unfold hexD at q;have e:pV n=Ew n:=by unfold pV;rw[aQ h]
   rw[e];have u1:IntKind.i64.wrap (n:Int)=n:=by rw[dI];omega
   have u2:IntKind.i64.wrap ((n:Int)+1)=(n:Int)+1:=by rw[dI];omega
   generalize Ew n=t at*
   clear ih e;go_enter func48,ntmps48;go_wp2;go_returns;exact⟨rfl,kr⟩
  .have h':¬(n:Int)<16:=om;have q:=yX (n%16) om Y;unfold hexD at q;have e:pV n=pV (n/16)++Ew (n%16):=by rw[pV,aH h]
   rw[e];have H:Hid _:=ih (n/16) om om;have z1:=yV 15 (n/16) om;have z2:=sF (n%16);have hq:((n/16:Nat):Int)=(n:Int)/16:=om;have hd:((n%16:Nat):Int)=(n:Int)%16:=om;obtain⟨Q,hQ⟩:=dP ((n:Int)/16:Int);obtain⟨D,hD⟩:=dP ((n:Int)%16:Int);have D0:0<=D:=om;have D1:D<16:=om;rw[hd,hD]at q;rw[hq,hQ]at H;have u1:(n:Int).tmod 16=D:=by rw[Int.tmod_eq_emod_of_nonneg (by omega)];exact hD
   have u2:(n:Int).tdiv 16=Q:=by rw[Int.tdiv_eq_ediv_of_nonneg (by omega)];exact hQ
   have u3:IntKind.i64.wrap D=D:=by rw[dI];omega
   have u4:IntKind.i64.wrap (D+1)=D+1:=by rw[dI];omega
   have u5:IntKind.u64.wrap D=D:=by rw[iT];omega
   have u6:IntKind.u64.wrap Q=Q:=by rw[iT];omega
   generalize pV (n/16)=t at*
   generalize Ew (n%16)=t2 at*
   have hcd:zK (t.size+t2.size):=om;clear ih e hq hd h hQ hD;go_enter func48,ntmps48;go_wp2;go_region_held3 (λw'=>True)(trivial)(first|(go_at_call 48;refine ku (H _) λw1 au=>?_))
   all_goals go_wp2<;>go_returns
   all_goals exact⟨rfl,kr⟩
abbrev tx(l:List UInt8):aJ:=⟨l.toArray⟩
abbrev jO:aJ:=tx [114,101,106,101,99,116,101,100]
def dZ(l:List UInt8):(tx l).size =l.length:=by simp[ByteArray.size]
def aLe:∀d,d<10->Ew d=tx [UInt8.ofNat (48+d)]:=de
def CP(k:Nat):∀n,n<10^(k+1)->(Lib.decDigits n).length <=k+1:=by
 induction k with
 |zero=>intro n hn;unfold Lib.decDigits;rw[dif_pos (by omega)];simp
 |succ k ih=>
  intro n hn;unfold Lib.decDigits;split
  .simp
  .have:=ih (n/10) (by rw[jE]at hn;omega);simp;omega
def aID(n:Nat):n<=9223372036854775808->∀w,QR 108 #[J Y (-(n:Int))] w (.string (tx (Lib.decDigits n))):=by
 induction n using Nat.strongRecOn with
 |ind n ih=>
  intro hn w;have hm:(-(n:Int)).tmod 10=-((n:Int)%10):=by rw[Int.neg_tmod,Int.tmod_eq_emod_of_nonneg (by omega)]
  have hv:(-(n:Int)).tdiv 10=-((n:Int)/10):=by rw[Int.neg_tdiv,Int.tdiv_eq_ediv_of_nonneg (by omega)]
  have hq:((n/10:Nat):Int)=(n:Int)/10:=om;have hd:((n%10:Nat):Int)=(n:Int)%10:=om;have q:=yX (n%10) om Y;unfold hexD at q;obtain⟨Q,hQ⟩:=dP (-((n:Int)/10):Int);obtain⟨D,hD⟩:=dP ((n:Int)%10:Int);have D0:0<=D:=om;have D1:D<10:=om;obtain⟨N,hN⟩:=dP (-(n:Int));rw[hd,hD]at q;rw[hD,hN]at hm;rw[hQ,hN]at hv;have u1:IntKind.i64.wrap (-D)=-D:=by rw[dI];omega
  have u2:IntKind.i64.wrap D=D:=by rw[dI];omega
  have u3:IntKind.i64.wrap (D+1)=D+1:=by rw[dI];omega
  have u4:IntKind.i64.wrap Q=Q:=by rw[dI];omega
  rw[aLe _ (by omega)]at q;rw[hN];by_cases h:n<10
  .have h':-10<N:=om;have e:Lib.decDigits n=[UInt8.ofNat (48+n%10)]:=by unfold Lib.decDigits;rw[dif_pos h,lQ h]
   rw[e];generalize tx [UInt8.ofNat (48+n%10)]=t at*
   clear ih e hq hd hQ hD hN h;go_enter func108,ntmps108;go_wp2;go_returns;exact⟨rfl,kr⟩
  .have h':¬ -10<N:=om;have e:Lib.decDigits n=Lib.decDigits (n/10)++[UInt8.ofNat (48+n%10)]:=by rw[Lib.decDigits,dif_neg h]
   rw[e];have H:Hid _:=ih (n/10) om om;rw[hq,hQ]at H;have z1:=CP 18 (n/10) om;have z2:[UInt8.ofNat (48+n%10)].length <=1:=dJ 1;rw[show tx (Lib.decDigits (n/10)++[UInt8.ofNat (48+n%10)])=tx (Lib.decDigits (n/10))++tx [UInt8.ofNat (48+n%10)] from (ByteArray.mk_append_mk ..).symm];rw[<-dZ]at z1 z2;generalize tx (Lib.decDigits (n/10))=t at*
   generalize tx [UInt8.ofNat (48+n%10)]=t2 at*
   have hcd:zK (t.size+t2.size):=om;clear ih e hq hd hQ hD hN h;go_enter func108,ntmps108;go_wp2;go_region_held3 (λw'=>True)(trivial)(first|(go_at_call 108;refine ku (H _) λw1 au=>?_))
   all_goals go_wp2<;>go_returns
   all_goals exact⟨rfl,kr⟩
def iU(n:Int)(h0:-9223372036854775808<=n)(h1:n<=9223372036854775807):(Lib.itoa n).length <=20:=by
 unfold Lib.itoa;split
 .have:=CP 18 n.natAbs om;simp;omega
 .have:=CP 18 n.toNat om;omega
def vJ(n:Int)(h0:-9223372036854775808<=n)(h1:n<=9223372036854775807)(w:ak):QR 45 #[J Y n] w (.string (tx (Lib.itoa n))):=by
 by_cases h:n<0
 .have H:Hid _:=aID n.natAbs om;rw[(om:-((n.natAbs:Nat):Int)=n)]at H;have z:=CP 18 n.natAbs om;rw[show tx (Lib.itoa n)=tx [45]++tx (Lib.decDigits n.natAbs) by unfold Lib.itoa;rw[aQ h];exact(ByteArray.mk_append_mk [45] _).symm];rw[<-dZ]at z;generalize tx (Lib.decDigits n.natAbs)=t at*
  have hcd:zK (1+t.size):=om;exact aL6
 .have H:Hid _:=aID n.toNat om;rw[(om:((n.toNat:Nat):Int)=n)]at H;have e:Lib.itoa n=Lib.decDigits n.toNat:=by unfold Lib.itoa;rw[aH h]
  rw[e];generalize tx (Lib.decDigits n.toNat)=t at*
  have u:IntKind.i64.wrap (-n)=-n:=by rw[dI];omega
  clear e;exact aL6
abbrev xP(z:Nat)(fl:Int):aJ:=pV z++tx [32]++tx (Lib.itoa fl)
def aG4(z:Nat)(fl:Int)(hz:aI z)(h0:-9223372036854775808<=fl)(h1:fl<=9223372036854775807)(w:ak):QR 59 #[aU (z:Int) fl] w (.string (xP z fl)):=by
 have H1:Hid _:=aNs z hz;have H2:Hid _:=vJ fl h0 h1;have z1:=yV 15 z om;have z2:=iU fl h0 h1;rw[<-dZ]at z2;obtain⟨Z,hZ⟩:=dP (z:Int);rw[hZ]at H1⊢
 unfold xP;generalize pV z=t at*
 generalize tx (Lib.itoa fl)=t2 at*
 have c1:zK (t.size+1):=om;have c3:zK (t.size+1+t2.size):=om;clear hZ hz h0 h1;go_enter func59,ntmps59;go_wp2;go_region_held3 (λw'=>lW w' w.heap.size 0 1 (J .u64 Z) (J Y fl))(exact qX)(first|(go_at_call 48;refine ku (H1 _) λw1 au=>?_;have:=au.CX w)|(go_at_call 45;refine ku (H2 _) λw2 aC=>?_;have:=aC.CX w))
 all_goals go_wp2<;>go_returns
 all_goals exact⟨rfl,kr⟩
def sG(c:UInt8):List UInt8->List (List UInt8)
 |[]=>[[]]
 |b::l=>if b=c then[]::sG c l else(b::(sG c l).head!)::(sG c l).tail
def F8(c:UInt8):∀l,sG c l≠[]
 |[]=>by simp[sG]
 |b::l=>by unfold sG;split<;>simp
def VI(c:UInt8):∀l,c ∉ l->sG c l=[l]
 |[],_=>rfl
 |b::l,h=>by
  have:=VI c l (λe=>h (List.mem_cons_of_mem _ e));unfold sG;rw[aH (λe=>h (by rw[e];exact List.mem_cons_self)),this];rfl
def MO(c:UInt8):∀(a l:List UInt8),c ∉ a->sG c (a++c::l)=a::sG c l
 |[],l,_=>by simp[sG]
 |b::a,l,h=>by
  have:=MO c a l (λe=>h (List.mem_cons_of_mem _ e));rw[List.cons_append,sG,aH (λe=>h (by rw[e];exact List.mem_cons_self)),this];rfl
def F7(c:UInt8):∀l,(sG c l).length <=l.length+1
 |[]=>by simp[sG]
 |b::l=>by
  have:=F7 c l;unfold sG;split
  .simp;omega
  .simp;omega
def gW(c:UInt8)(s:aJ):List aJ:=(sG c s.data.toList).map tx
def Lr(w:ak)(base:Nat)(t:TypeId)(v:Value)(us:List Value):Prop:=w.ownsRow base t 1 v us.length us
abbrev Os(w:ak)(base:Nat)(v:Value)(ps:List aJ):Prop:=Lr w base 9 v (ps.map Value.string)
abbrev By(w:ak)(base:Nat)(v:Value)(l:List UInt8):Prop:=Lr w base 5 v (l.map λb=>Value.int .u8 (b.toNat:Int))
def Lr.at{base:Nat}(h:Lr w base t v us):∃a cap,v=.slice a us.length cap/\us.length<=cap/\cap<=maxLen/\(0<us.length->∃b,a=some ⟨b,0,none⟩/\∀j,j<us.length->w.cell? ⟨b,j,none⟩=us[j]?):=by
 have h0:=h;rcases h.2 with⟨e1,e2⟩|⟨b,cap,cur,rfl,hb,hh,hc,hm,_⟩
 .rw[e2];exact⟨none,0,e1.symm▸rfl,om,fV _,λhn=>om⟩
 .exact⟨_,cap,rfl,hc,hm,λ_=>⟨b,rfl,λj hj=>World.ownsRow.cellAt h0 j om⟩⟩
def Os.rs{base:Nat}(h:Os w base v ps):pq w v ps.length (λj=>ps.getD j default):=by
 obtain⟨a,cap,h1,h2,h3,h4⟩:=Lr.at h;rw[List.length_map]at h1 h2 h4;refine⟨a,cap,h1,h2,h3,λhn=>?_⟩;obtain⟨b,hb,hc⟩:=h4 hn;refine⟨b,0,hb,λj hj=>?_⟩;have e:=hc j hj;rw[List.getElem?_map,Dj hj]at e;rw[Nat.zero_add];exact e.trans (by simp[qF,hj])
def Lr.gb{base:Nat}(h:Lr w base t v us)(hg:Gb w w'):Lr w' base t v us:=by
 refine⟨h.1,?_⟩;rcases h.2 with hn|⟨b,cap,cur,rfl,hb,hh,rest⟩
 .exact .inl hn
 .refine .inr ⟨b,cap,cur,rfl,hb,?_,rest⟩;rw[Below.block hg b (Ap.1 hh).1];exact hh
def Lr.lit(w:ak)(t:TypeId):Lr (w.alloc (.cells #[] t)) w.heap.size t (aF w.heap.size 0 0) []:=by
 have:=MZ (base:=w.heap.size) (e:=t) (size:=1) w #[] 0 (dJ _) (fV _) (by simp)
 simpa[Lr]using this
def infoSt:(prog.info? 9).map (λi=>(i.zero,i.size,i.bytes))=some (some (.string ByteArray.empty),1,16):=by kernel_rfl
def Vh:(prog.info? 5).map (λi=>(i.zero,i.size,i.bytes))=some (some (J .u8 0),1,1):=by kernel_rfl
def rJ{a:Act}(YD:o.guard=none)(s x:Operand)(ty:TypeId)
  (ho:o.op=.call {callee:=.builtin .append,args:=#[s,x],argTypes:=#[ty,ty]}) (t:TypeId) (z:Value) (bytes:Nat) (LW:prog.underlying ty=some (.slice t)) (xY:(prog.info? t).map (λi=>(i.zero,i.size,i.bytes))=some (some z,1,bytes)) (hzs:z.cells.size=1) (EL:bytes<=16)
  (base:Nat) (us:List Value) (u:Value) (v:Value) (b:Nat) (hs:a.eval s=v) (iG:Lr w base t v us) (hx:a.eval x=aF b 1 1)
  (c0:aB w b 0 u) (h1:u.oneCell'=true) (hn:us.length<=100000000) (nN:base<=w.heap.size)
  (h:∀v' w',Lr w' base t v' (us++[u])->Below base w w'->wpList prog ops Q rest (a.put o.dst v') w'):wpList prog ops Q (o::rest) a w:=by
 refine wpList_plain YD λ_ hK=>?_;obtain⟨i0,hi,mD,jB,mG⟩:=info_parts xY;refine wp_append_lies _ s x ty ho base t i0 z 1 bytes LW hi mD jB mG hzs de v us.length us hs iG ⟨b,0,none⟩ 1 1 [u] hx rfl ?_ ?_ de (by unfold maxLen;omega) (by have:=Nat.mul_le_mul (om:us.length+1<=100000001) EL;omega) nN w.heap.size rfl ?_
 .intro j u' hj;have e:(⟨b,0,none⟩:Addr).add j=⟨b,j,none⟩:=by unfold Addr.add;split<;>simp_all
  rw[e];rcases j with _|j
  .simp at hj;subst hj;exact c0
  .simp at hj
 .intro u' hu;simp at hu;subst hu;exact h1
 .intro gb cap' w' tZ lS hat _;refine hK _ _ (h _ w' ?_ ?_)
  .show World.ownsRow _ _ _ _ _ _ _;rw[List.length_append];exact tZ
  .refine(Below.refl base w).grown lS nN ?_;intro q hq;exact(World.ownsRow.lt iG q hq).1
def By.text{base:Nat}(h:By w base v l)(w':ak)(hg:Gb w w'):(convert 24 9 v).run prog w'=.ok (.string (tx l)) w':=by
 obtain⟨a,cap,h1,h2,h3,h4⟩:=Lr.at h;rw[List.length_map]at h1 h2 h4;subst h1;rcases jL l.length with hl|hl
 .obtain rfl:=List.length_eq_zero_iff.1 hl;cases a with
  |none=>
   rw[run_convert_bytes_string w' 24 9 5 none _ cap underlying24 underlying5 underlying9];simp[Conv.bytesToString];rfl
  |some a=>exact run_convert_bytes_back w' 24 9 5 a cap [] underlying24 underlying5 underlying9 (λj hj=>bG hj (by simp))
 .obtain⟨b,rfl,hc⟩:=h4 hl;refine run_convert_bytes_back w' 24 9 5 ⟨b,0,none⟩ cap l underlying24 underlying5 underlying9 (λj hj=>?_);have e:(⟨b,0,none⟩:Addr).add j=⟨b,j,none⟩:=by unfold Addr.add;split<;>simp_all
  rw[e];have:=hc j hj;rw[List.getElem?_map,Dj hj]at this;exact hg.old this
def dN(s:aJ):s.data.toList.length=s.size:=Array.length_toList
def aTT{c:UInt8}(hf:f<=k)(hk:k<D.length)(e:D[k]=c):D.drop f=(D.drop f).take (k-f)++c::D.drop (k+1):=by
 have h:(D.drop f).drop (k-f)=c::D.drop (k+1):=by
  rw[List.drop_drop,(om:f+(k-f)=k),List.drop_eq_getElem_cons hk,e]
 rw[<-h,List.take_append_drop]
def nextL(hf:f<=k)(hk:k<D.length):(D.drop f).take (k+1-f)=(D.drop f).take (k-f)++[D[k]]:=by
 rw[(om:k+1-f=k-f+1),List.take_succ_eq_append_getElem (by simp;omega)]
 congr 2
 rw[List.getElem_drop]
 congr 1
 omega
def Rw(s:aJ)(f k:Nat):s.extract f k=tx ((s.data.toList.drop f).take (k-f)):=by
 cases s with
 |mk d=>
  refine lu ByteArray.mk ?_;apply Array.toList_inj.1;simp[ByteArray.extract,ByteArray.copySlice,Array.toList_extract,List.extract]
def xC(s:aJ)(k:Nat)(h:k<s.data.toList.length):iJ s k=((s.data.toList[k]).toNat :Int):=by
 have h':k<s.size:=by rw[<-dN];exact h
 unfold iJ;rw[dif_pos h'];rfl
def wI(c:UInt8)(s:aJ)(f k:Nat)(ps:List aJ):Prop:=f<=k/\ps.length<=k/\ps++(sG c (s.data.toList.drop f)).map tx=gW c s/\c ∉ (s.data.toList.drop f).take (k-f)
def wI.hit{c:UInt8}(h:wI c s f k ps)(hk:k<s.data.toList.length)(e:s.data.toList[k]=c):wI c s (k+1) (k+1) (ps++[s.extract f k]):=by
 obtain⟨h1,h4,h2,h3⟩:=h;refine⟨dJ _,jA,?_,by simp⟩;rw[<-h2]
 conv=>rhs;rw[aTT h1 hk e,MO c _ _ h3]
 rw[Rw];simp
def wI.next{c:UInt8}(h:wI c s f k ps)(hk:k<s.data.toList.length)(e:s.data.toList[k]≠c):wI c s f (k+1) ps:=by
 obtain⟨h1,h4,h2,h3⟩:=h;refine⟨om,om,h2,?_⟩;rw[nextL h1 hk];intro hm;rcases List.mem_append.1 hm with m|m
 .exact h3 m
 .exact e (List.mem_singleton.1 m).symm
def wI.last{c:UInt8}(h:wI c s f s.size ps):ps++[s.extract f s.size]=gW c s:=by
 obtain⟨h1,h4,h2,h3⟩:=h;have hl:=dN s;have e:(s.data.toList.drop f).take (s.size-f)=s.data.toList.drop f:=List.take_of_length_le (by simp[hl]);rw[e]at h3;rw[<-h2,VI c _ h3,Rw,e];rfl
def aIN(c:UInt8)(s:aJ)(hs:s.size<=1048576)(w:ak):CT 9 #[.string s,J .u8 (c.toNat:Int)] w λe w'=>∃v,e=O v/\Os w' w.heap.size v (gW c s)/\Gb w w':=by
 obtain⟨C,hC⟩:=dP (c.toNat:Int);rw[hC];have HCc:Hid ((c.toNat:Int)=C):=hC;clear hC;have hs9:s.size<=9223372036854775807:=om;go_enter func9,ntmps9;go_wp2;go_loopw [5,6,7] (λo f i wr=>∃(F k:Nat) (ps:List aJ),k<=s.size/\i=J Y (k:Int)/\f=J Y (F:Int)/\Os wr w.heap.size o ps/\Gb w wr/\Hid (wI c s F k ps)) (λ_ _ i _=>s.size-(intOf i).toNat)
 case atStart=>exact⟨0,0,[],fV _,rfl,rfl,Lr.lit w _,kg,⟨dJ _,fV _,rfl,by simp⟩⟩
 case round=>
  obtain⟨F,k,ps,hk,rfl,rfl,jv,dQ,HA⟩:=hrel;have hF:F<=k:=HA.out.1;have hps:=HA.out.2.1;have qY:=dQ.size;have Au:Hid (∀w2,Gb wr w2->Os w2 w.heap.size _ ps):=λw2 hg=>Lr.gb jv hg;clear jv;by_cases fJ:(k:Int)<(s.size:Int)
  .have iV:k<s.data.toList.length:=by rw[dN];omega
   have q:=jR s k om;by_cases e:s.data.toList[k]=c
   .have cb:(iJ s k==C)=true:=by rw[xC s k iV,e,HCc.out];simp
    have q2:∀w,(Instr.slice 9 (.string s) (some (J Y (F:Int))) (some (J Y (k:Int))) none).run prog w=.ok (.string (s.extract F k)) w:=λw=>run_slice_string (P:=prog) w 9 s Y Y (F:Int) (k:Int) underlying9 om om om;have H2:Hid _:=HA.out.hit iV e;have u:IntKind.i64.wrap ((k:Int)+1)=(k:Int)+1:=by rw[dI];omega
    clear e iV;go_wp2_with (at_builtin;refine rJ rfl _ _ 26 rfl 9 _ 16 underlying26 infoSt rfl de w.heap.size _ (.string (s.extract F k)) _ wr.heap.size rfl (Au _ kg) rfl j_ rfl (by rw[List.length_map];omega) (by rw[dV];omega) ?_;intro v3 w3 nM nO);go_roundw
    case rel=>exact⟨k+1,k+1,_,om,jS,jS,by rw[Os,List.map_append];exact nM,Gb.below kg nO (dJ _),H2.out⟩
    case measure=>exact qL
   .have cb:(iJ s k==C)=X:=by
     rw[xC s k iV,<-HCc.out];refine Am λe'=>e ?_;exact UInt8.toNat_inj.1 om
    have H2:Hid _:=HA.out.next iV e;clear e iV;go_wp2;go_roundw
    case rel=>exact⟨F,k+1,ps,om,jS,rfl,Au.out _ (Below.refl _ _),dQ,H2.out⟩
    case measure=>exact qL
  .obtain rfl:k=s.size:=om;have q2:∀w,(Instr.slice 9 (.string s) (some (J Y (F:Int))) none none).run prog w=.ok (.string (s.extract F s.size)) w:=λw=>run_slice_string_l w 9 s underlying9 Y (F:Int) om om;have H2:Hid _:=HA.out.last;go_wp2_with (at_builtin;refine rJ rfl _ _ 26 rfl 9 _ 16 underlying26 infoSt rfl de w.heap.size _ (.string (s.extract F s.size)) _ wr.heap.size rfl (Au _ kg) rfl j_ rfl (by rw[List.length_map];omega) (by rw[dV];omega) ?_;intro v3 w3 nM nO);go_returns;refine⟨_,rfl,?_,Gb.below kg nO (dJ _)⟩;rw[<-H2.out,Os,List.map_append];exact nM
set_option maxHeartbeats 40000000
def lZ(base:Int):Int->List UInt8->Option Int
 |acc,[]=>some acc
 |acc,b::l=>if oW b.toNat<0\/base<=oW b.toNat then none else lZ base (acc*base+oW b.toNat) l
def aV(base:Int)(s:aJ):Option Int:=if s.size<1\/16<s.size then none else lZ base 0 s.data.toList
def MI(hk:k<D.length):lZ base acc (D.drop k)=if oW (D[k]).toNat <0\/base<=oW (D[k]).toNat then none else lZ base (acc*base+oW (D[k]).toNat) (D.drop (k+1)):=by
 rw[List.drop_eq_getElem_cons hk,lZ]
def Fg:lZ base acc (D.drop D.length)=some acc:=by rw[List.drop_length,lZ]
def MH(b0:2<=base):∀(l:List UInt8) (acc x:Int),0<=acc->lZ base acc l=some x->0<=x/\x<(acc+1)*base^l.length
 |[],acc,x,h0,h=>by
  simp only[lZ,Option.some.injEq]at h;subst h;simp;omega
 |b::l,acc,x,h0,h=>by
  rw[lZ]at h;split at h
  .cases h
  .rename_i hd
   have hm:=Bj h0 (om:0<=base);have:=MH b0 l _ x om h;refine⟨this.1,Int.lt_of_lt_of_le this.2 ?_⟩;rw[List.length_cons,Int.pow_succ,Int.mul_comm (base^l.length),<-Int.mul_assoc];refine Int.mul_le_mul_of_nonneg_right ?_ (Int.pow_nonneg om);rw[Int.add_mul];omega
def Ox(b0:2<=base)(b1:base<=16)(h:aV base s=some x):0<=x/\aI x:=by
 unfold aV at h;split at h
 .cases h
 .rename_i hs
  have:=MH b0 _ 0 x (Int.le_refl _) h;refine⟨this.1,Int.lt_of_lt_of_le this.2 ?_⟩;rw[dN,Int.zero_add,Int.one_mul];have h1:base^s.size<=16^s.size:=by
   obtain⟨b,rfl⟩:=lq (om:0<=base);have:=Nat.pow_le_pow_left (om:b<=16) s.size
   exact_mod_cast this
  have h2:(16:Int)^s.size<=16^16:=by
   have:=pU (show 0<16 by decide) (om:s.size<=16)
   exact_mod_cast this
  exact Int.le_trans h1 h2
def Fe(b0:2<=base){D:List UInt8}(a0:0<=acc)(a1:acc<base^k)(hd:0<=d)(uT:d<base):0<=acc*base+d/\acc*base+d<base^(k+1):=by
 have hm:=Bj a0 (om:0<=base);refine⟨om,?_⟩;rw[Int.pow_succ];have:(acc+1)*base<=base^k*base:=Int.mul_le_mul_of_nonneg_right om om;rw[Int.add_mul]at this;omega
def XJ(hk:k<=16):(16:Int)^k<=18446744073709551616:=by
 have h:=pU (show 0<16 by decide) hk;have e:((16^k:Nat):Int)=(16:Int)^k:=FH _ _;rw[<-e];exact Int.ofNat_le.2 h
def FZ(s:aJ)(k:Nat)(h:k<s.data.toList.length):oW (iJ s k)=oW ((s.data.toList[k]).toNat :Int):=by rw[xC s k h]
def sJ(w:ak)(n:Nat)(g:Nat->aJ)(W:Nat->Int)(e:Ending)(w':ak):Prop:=
 Gb w w'/\((∃v',e=O (.tuple #[v',.bool true])/\(∀j,j<n->aV 16 (g j)≠none)/\Ow w' w.heap.size 71 1 .u64 v' n W)\/(∃a l c,e=O (.tuple #[.slice a l c,.bool X]))/\∃j,j<n/\aV 16 (g j)=none)
def sJ.no{g:Nat->aJ}(ho:Ow w' w.heap.size 71 1 .u64 v' k W)(hg:Gb w w')(he:e=O (.tuple #[v',.bool X]))(h:∃j,j<n/\aV 16 (g j)=none):sJ w n g W e w':=by
 obtain⟨a,c,rfl,_⟩:=ho.len;exact⟨hg,.inr ⟨⟨a,k,c,he⟩,h⟩⟩
def sJ.yes{g:Nat->aJ}(hg:Gb w w')(he:e=O (.tuple #[v',.bool true]))(h:∀j,j<n->aV 16 (g j)≠none)(ho:Ow w' w.heap.size 71 1 .u64 v' n W):sJ w n g W e w':=⟨hg,.inl ⟨v',he,h,ho⟩⟩
def ZT{g:Nat->aJ}(hr:pq w v n g)(hn:n<=1000000):
  CT 54 #[v] w λe w'=>sJ w n g (λj=>(aV 16 (g j)).getD 0) e w':=by
 obtain⟨W,hW⟩:∃W:Nat->Int,(λj=>(aV 16 (g j)).getD 0)=W:=⟨_,rfl⟩;rw[hW];have HW:Hid (∀j x,aV 16 (g j)=some x->W j=x):=λj x h=>by rw[<-hW];simp[h]
 obtain⟨a,cap,rfl,h1,h2,aW⟩:=hr;have HC:Hid _:=aW;have hn9:n<=9223372036854775807:=om;clear aW h1 h2 hW;go_enter func54,ntmps54;go_wp2;go_loopw [4,5] (λo i wr=>∃k:Nat,k<=n/\i=J Y (k:Int)/\Ow wr w.heap.size 71 1 .u64 o k W/\Gb w wr/\Hid (∀j,j<k->aV 16 (g j)≠none)) (λ_ i _=>n-(intOf i).toNat)
 case atStart=>exact⟨0,fV _,rfl,Ow.lit w _ _ _ _,kg,λj hj=>bG hj om⟩
 case round=>
  obtain⟨i,hi,rfl,jv,dQ,HB⟩:=hrel;have qY:=dQ.size;have Au:Hid (∀w2,Gb wr w2->Ow w2 w.heap.size 71 1 .u64 _ i W):=λw2 hg=>jv.gb hg;clear jv;by_cases fJ:(i:Int)<(n:Int)
  .obtain⟨b,of,rfl,hc⟩:=HC om;have q:=dQ.old (hc i om);have HX:Hid (∀x,aV 16 (g i)=some x->W i=x):=HW i;have HE:Hid (aV 16 (g i)=none->∃j,j<n/\aV 16 (g j)=none):=λh=>⟨i,om,h⟩;have HB2:Hid (aV 16 (g i)≠none->∀j,j<i+1->aV 16 (g j)≠none):=λh j hj=>by
    rcases Nat.lt_succ_iff_lt_or_eq.1 hj with c|rfl
    .exact HB j c
    .exact h
   obtain⟨t,ht⟩:=dP (g i);rw[ht]at q HE HX HB2;clear hc ht;by_cases o_:t.size<1\/16<t.size
   .have Cc:Hid (aV 16 t=none):=by show _=_;unfold aV;rw[aQ o_]
    rcases o_ with c|c
    .have l0:(t.size:Int)<1:=om;go_wp2;go_returns;exact .no (Au _ (Below.refl _ _)) dQ rfl (HE Cc.out)
    .have l0:¬((t.size:Int)<1):=om;have l1:(16:Int)<(t.size:Int):=om;go_wp2;go_returns;exact .no (Au _ (Below.refl _ _)) dQ rfl (HE Cc.out)
   have HV:Hid (aV 16 t=lZ 16 0 t.data.toList):=by show _=_;unfold aV;rw[aH o_]
   have l0:¬((t.size:Int)<1):=om;have l1:¬((16:Int)<(t.size:Int)):=om;go_wp2;go_loop [6,7] (λa j=>∃(k:Nat) (A:Int),k<=t.size/\j=J Y (k:Int)/\a=J .u64 A/\0<=A/\Hid (A<16^k)/\Hid (aV 16 t=lZ 16 A (t.data.toList.drop k))) (λ_ j=>t.size-(intOf j).toNat)
   case atStart=>exact⟨0,0,fV _,rfl,rfl,Int.le_refl _,show(0:Int)<16^0 by decide,HV.out⟩
   case round=>
    obtain⟨k,A,hk,rfl,rfl,A0,HA1,HN⟩:=hrel;by_cases EI:(k:Int)<(t.size:Int)
    .have m_:k<t.data.toList.length:=by rw[dN];omega
     have hN:=HN.out;rw[MI m_,<-FZ t k m_]at hN;have q2:=jR t k om;obtain⟨d,hdd⟩:=dP (oW (iJ t k));have HD:Hid _:=VG (iJ t k);have d15:=IB (iJ t k);rw[hdd]at hN HD d15;by_cases d0:d<0
     .rw[aQ (.inl d0)]at hN;have RG:Hid _:=hN;clear hN hdd m_ HN HA1 HV d15;go_wp2_with (go_at_call 124;refine kw (HD _) ?_);go_returns;exact .no (Au _ (Below.refl _ _)) dQ rfl (HE RG.out)
     .rw[aH (by omega)]at hN;have hp:=Fe (D:=[]) (show(2:Int)<=16 by decide) A0 HA1.out (om:0<=d) om;have Rk:=XJ (om:k+1<=16);have hp3:=hp.2;have hp4:A*16+d<18446744073709551616:=om;have u1:IntKind.u64.wrap (A*16)=A*16:=by rw[iT];omega
      have u2:IntKind.u64.wrap d=d:=by rw[iT];omega
      have u3:IntKind.u64.wrap (A*16+d)=A*16+d:=by rw[iT];omega
      have RG:Hid _:=hN;have HP:Hid _:=hp3;clear hN hdd m_ HN HA1 hp Rk hp3 HV d15;go_wp2_with (go_at_call 124;refine kw (HD _) ?_);go_round
      case rel=>exact⟨k+1,_,om,jS,rfl,om,HP.out,RG.out⟩
      case measure=>first|(simp[intOf];done)|(simp[intOf];omega)
    .obtain rfl:k=t.size:=om;have hN:=HN.out;rw[<-dN,Fg]at hN;have e0:Hid (W (i*1+0)=A):=by show _=_;rw[kW,Nat.add_zero];exact HX _ hN
     have HB3:Hid _:=HB2 (by rw[hN];exact Option.some_ne_none _);clear hN HN HA1 HV;go_wp2_with (at_builtin;refine nC rfl _ _ 47 rfl 71 (J .u64 0) 1 8 .u64 underlying47 Vg rfl de de w.heap.size i 1 W _ wr.heap.size rfl (Au _ kg) rfl (CS (g:=W) (m:=i*1) j_ e0.out) om om (by rw[dV];omega) ?_;intro v3 w3 nM nO zu ho3);go_roundw
     case rel=>exact⟨i+1,om,jS,nM,Gb.below kg nO (dJ _),HB3.out⟩
     case measure=>exact qL
  .obtain rfl:i=n:=om;go_wp2;go_returns;exact .yes dQ rfl HB.out (Au _ (Below.refl _ _))
def aL8{P:Prop}(h:P:=by
 go_wp2_with (go_at_call 124;first|(with_reducible refine kw (HD1.out _) ?_)|(with_reducible refine kw (HD2.out _) ?_));all_goals go_returns
 all_goals exact .no dQ rfl HN.out):P:=h
def wQ:List UInt8->Option (List UInt8)
 |a::b::l=>if oW a.toNat<0\/oW b.toNat<0 then none else(wQ l).map (UInt8.ofNat (oW a.toNat*16+oW b.toNat).toNat ::·)
 |_=>some []
def aLu(hk:k+1<D.length):wQ (D.drop k)=if oW (D[k]).toNat <0\/oW (D[k+1]).toNat <0 then none else(wQ (D.drop (k+2))).map (UInt8.ofNat (oW (D[k]).toNat *16+oW (D[k+1]).toNat).toNat ::·):=by
 rw[List.drop_eq_getElem_cons (om:k<D.length),List.drop_eq_getElem_cons hk,wQ]
def aIW(hk:¬k+1<D.length):wQ (D.drop k)=some []:=by
 have h:(D.drop k).length <=1:=by rw[List.length_drop];omega
 match D.drop k,h with
 |[],_=>rfl
 |[_],_=>rfl
def zV(w:ak)(s:aJ)(e:Ending)(w':ak):Prop:=
 Gb w w'/\∃t ok,e=O (.tuple #[.string t,.bool ok])/\(ok=true↔s.size%2=0/\0<s.size/\wQ s.data.toList≠none)/\(ok=true->∃l,wQ s.data.toList=some l/\t=tx l)
def zV.no{t:aJ}(hg:Gb w w')(he:e=O (.tuple #[.string t,.bool X]))(h:wQ s.data.toList=none):zV w s e w':=⟨hg,t,X,he,⟨λh=>(by cases h),λh'=>bG h h'.2.2⟩,λh=>by cases h⟩
def zV.yes(hg:Gb w w')(he:e=O (.tuple #[.string (tx l),.bool ok]))(h:wQ s.data.toList=some l)(ho:ok=true↔s.size%2=0/\0<s.size):zV w s e w':=⟨hg,_,ok,he,⟨λh'=>⟨(ho.1 h').1,(ho.1 h').2,by rw[h];exact Option.some_ne_none _⟩,λh'=>ho.2 ⟨h'.1,h'.2.1⟩⟩,λ_=>⟨l,h,rfl⟩⟩
def aIV(s:aJ)(hs:s.size<=1048576)(w:ak):CT 55 #[.string s] w λe w'=>zV w s e w':=by
 have hs9:s.size<=9223372036854775807:=om;go_enter func55,ntmps55;go_wp2;go_loopw [4,5] (λo i wr=>∃(k:Nat) (l:List UInt8),k<=s.size/\i=J Y (k:Int)/\l.length<=k/\By wr w.heap.size o l/\Gb w wr/\Hid (wQ s.data.toList=(wQ (s.data.toList.drop k)).map (l++·))/\Hid (k%2=0)) (λ_ i _=>s.size+1-(intOf i).toNat)
 case atStart=>exact⟨0,[],fV _,rfl,fV _,Lr.lit w _,kg,by show _=_;simp,rfl⟩
 case round=>
  obtain⟨k,l,hk,rfl,hl,jv,dQ,HA,HP⟩:=hrel;have qY:=dQ.size;have Au:Hid (∀w2,Gb wr w2->By w2 w.heap.size _ l):=λw2 hg=>Lr.gb jv hg;clear jv;have u0:IntKind.i64.wrap ((k:Int)+1)=(k:Int)+1:=by rw[dI];omega
  by_cases fJ:(k:Int)+1<(s.size:Int)
  .have iV:k+1<s.data.toList.length:=by rw[dN];omega
   have hA:=HA.out;rw[aLu iV,<-FZ s k om,<-FZ s (k+1) iV]at hA;have q:=jR s k om;have q2:=jR s (k+1) om;rw[(om:(((k+1:Nat)):Int)=(k:Int)+1)]at q2;have HD1:Hid _:=VG (iJ s k);have HD2:Hid _:=VG (iJ s (k+1));have b1:=IB (iJ s k);have b2:=IB (iJ s (k+1));generalize oW (iJ s k)=x at*
   generalize oW (iJ s (k+1))=y at*
   generalize iJ s k=bx at*
   generalize iJ s (k+1)=y0 at*
   by_cases c:x<0\/y<0
   .rw[aQ c]at hA;have HN:Hid _:=hA;clear hA iV HA;by_cases cx:x<0
    .exact aL8
    .have cy:y<0:=om;exact aL8
   .rw[aH c]at hA;have cx:¬x<0:=om;have cy:¬y<0:=om;obtain⟨z,hz⟩:=dP (x*16+y:Int);have z0:0<=z:=om;have z1:z<=255:=om;rw[hz]at hA;have u1:IntKind.i64.wrap (x*16)=x*16:=by rw[dI];omega
    have u2:IntKind.i64.wrap (x*16+y)=z:=by rw[dI];omega
    have u3:IntKind.u8.wrap z=z:=by rw[IntKind.wrap_u8];omega
    have u4:IntKind.i64.wrap ((k:Int)+2)=(k:Int)+2:=by rw[dI];omega
    have HN:Hid (wQ s.data.toList=(wQ (s.data.toList.drop (k+2))).map (l++[UInt8.ofNat z.toNat]++·)):=by
     show _=_;rw[hA,Option.map_map]
     congr 1
     funext t
     simp
    have HP2:Hid ((k+2)%2=0):=by have:=HP.out;show _=_;omega
    have HZ:Hid (z=((UInt8.ofNat z.toNat).toNat :Int)):=by
     show _=_;rw[UInt8.toNat_ofNat',lQ (by omega)];omega
    clear hA iV HA hz HP c;go_wp2_with (first|(go_at_call 124;first|(with_reducible refine kw (HD1.out _) ?_)|(with_reducible refine kw (HD2.out _) ?_))|(at_builtin;refine rJ rfl _ _ 24 rfl 5 _ 1 underlying24 Vh rfl de w.heap.size _ (J .u8 z) _ wr.heap.size rfl (Au _ kg) rfl j_ rfl (by rw[List.length_map];omega) (by rw[dV];omega) ?_;intro v3 w3 nM nO))
    go_roundw
    case rel=>exact⟨k+2,l++[UInt8.ofNat z.toNat],om,jS,jA,by rw[By,List.map_append,List.map_cons,List.map_nil,<-HZ.out];exact nM,Gb.below kg nO (dJ _),HN.out,HP2.out⟩
    case measure=>exact qL
  .have hA:=HA.out;rw[aIW (by rw[dN];omega)]at hA;have HN:Hid (wQ s.data.toList=some l):=by show _=_;rw[hA];simp
   have HQ:Hid (∀w2,Gb wr w2->(convert 24 9 _).run prog w2=.ok (.string (tx l)) w2):=λw2 hg=>By.text (Au wr (Below.refl _ _)) w2 hg;have q:=HQ wr (Below.refl _ _);have hm:(s.size:Int).tmod 2=((s.size%2:Nat):Int):=by rw[Int.tmod_eq_emod_of_nonneg (by omega)];omega
   clear hA HA;by_cases c1:s.size%2=0
   .have KD:(s.size:Int).tmod 2=0:=by rw[hm,c1];rfl
    clear hm;by_cases c2:0<s.size
    .have c2':(0:Int)<(s.size:Int):=om;go_wp2;go_returns;exact .yes dQ rfl HN.out ⟨λ_=>⟨c1,c2⟩,λ_=>rfl⟩
    .have c2':¬(0:Int)<(s.size:Int):=om;go_wp2;go_returns;exact .yes (ok:=X) dQ rfl HN.out ⟨λh=>(by cases h),λh=>bG h.2 c2⟩
   .have KD:((s.size:Int).tmod 2==0)=X:=by rw[hm];simp;omega
    clear hm;go_wp2;go_returns;exact .yes (ok:=X) dQ rfl HN.out ⟨λh=>(by cases h),λh=>bG h.1 c1⟩
def aFK{P:Prop}(h:P:=by
 go_enter func52,ntmps52;go_wp2;go_returns;exact .no (Gr.refl _) rfl HN.out):P:=h
def aL9{P:Prop}(h:P:=by
 have HNo:Hid (s.size<=5->∀m,s≠tx (Lib.itoa m)):=λ_ m h=>by
  have:=(canon h).1;rw[HF.out,Cc]at this;cases this
 clear Cc hN hd m_ HN HA1 hp5;by_cases c1:b<48
 .go_wp2;go_returns;exact .no (Gr.refl _) rfl HNo.out
 .have c2:57<b:=om;go_wp2;go_returns;exact .no (Gr.refl _) rfl HNo.out):P:=h
def aMa{P:Prop}(h:P:=by
 obtain⟨d,DI⟩:=dP (b-48);rw[DI]at hN hp;have u1:IntKind.u8.wrap (b-48)=d:=by rw[IntKind.wrap_u8];omega
 have u2:IntKind.i64.wrap d=d:=by rw[dI];omega
 have u3:IntKind.i64.wrap (A*10)=A*10:=by rw[dI];omega
 have u4:IntKind.i64.wrap (A*10+d)=A*10+d:=by rw[dI];omega
 have hp0:=hp.1;have HP:Hid _:=hp.2;have RG:Hid _:=hN;clear hd hN m_ HN HA1 hp DI c hp5;go_wp2;go_round
 case rel=>exact⟨k+1,_,om,om,jS,rfl,hp0,HP.out,RG.out⟩
 case measure=>first|(simp[intOf];done)|(simp[intOf];omega)):P:=h
def Pq(h:l≠[])(b:UInt8):(l++[b]).head? =l.head?:=by cases l<;>simp at h⊢
def Ib(base:Int)(b:UInt8):∀(l:List UInt8) (acc:Int),lZ base acc (l++[b])=(lZ base acc l).bind λx=>if oW b.toNat<0\/base<=oW b.toNat then none else some (x*base+oW b.toNat)
 |[],acc=>by simp[lZ]
 |c::l,acc=>by
  rw[List.cons_append,lZ,lZ];split
  .rfl
  .exact Ib base b l _
def aNv:∀d,d<10->oW ((UInt8.ofNat (48+d)).toNat :Int)=d:=de
def aPm(b:UInt8)(h0:0<=oW b.toNat)(h1:oW b.toNat<10):b=UInt8.ofNat (48+(oW b.toNat).toNat):=by
 apply UInt8.toNat_inj.1;have hb:=b.toNat_lt;have e:b.toNat=48+(oW b.toNat).toNat :=by
  unfold oW at h0 h1⊢
  split at h0
  .rw[aQ (by assumption)];omega
  .split at h0
   .rename_i h _;rw[aH h,aQ (by assumption)]at h1;omega
   .omega
 rw[UInt8.toNat_ofNat',lQ (by omega)];exact e
def X4(n:Nat):lZ 10 0 (Lib.decDigits n)=some (n:Int):=by
 induction n using Nat.strongRecOn with
 |ind n ih=>
  unfold Lib.decDigits;split
  .rename_i h
   have:=aNv n h;rw[lZ,this,aH om,lZ];simp
  .rename_i h
   rw[Ib,ih (n/10) (by omega)];have:=aNv (n%10) om;rw[Option.bind_some,this,aH (by omega)]
   congr 1
   omega
def PS(n:Nat):Lib.decDigits n≠[]:=by unfold Lib.decDigits;split<;>simp
def aIJ(n:Nat)(h:0<n):(Lib.decDigits n).head? ≠some 48:=by
 induction n using Nat.strongRecOn with
 |ind n ih=>
  unfold Lib.decDigits;split
  .rename_i h'
   have:∀d,d<10->0<d->UInt8.ofNat (48+d)≠48:=de
   simpa using this n h' h
  .rw[Pq (PS _)];exact ih (n/10) om om
def aIK:∀(l:List UInt8) (x:Int),l.length≠0->lZ 10 0 l=some x->l.head?≠some 48->0<x/\Lib.decDigits x.toNat=l:=by
 intro l;induction h:l.length generalizing l with
 |zero=>intro x h0;exact bG rfl h0
 |succ k ih=>
  intro x _ hn hh;obtain⟨l',b,rfl⟩:∃l' b,l=l'++[b]:=⟨l.dropLast,l.getLast (by intro e;simp[e]at h),(List.dropLast_concat_getLast _).symm⟩;have hl:l'.length=k:=by simpa using h
  rw[Ib]at hn;cases hy:lZ 10 0 l' with
  |none=>rw[hy]at hn;cases hn
  |some y=>
   rw[hy,Option.bind_some]at hn;split at hn
   .cases hn
   .rename_i hd
    have hx:=Option.some.inj hn;have hb:=aPm b om om;generalize oW (b.toNat:Int)=d at*
    by_cases hk:k=0
    .obtain rfl:=List.length_eq_zero_iff.1 (hl.trans hk);simp only[lZ,Option.some.injEq]at hy;have:d≠0:=λe=>hh (by rw[hb,e];rfl);refine⟨om,?_⟩;unfold Lib.decDigits;rw[dif_pos om,hb];rw[(om:x.toNat=d.toNat)];rfl
    .have h1:=ih l' hl y om hy (by rwa [Pq (by intro e;simp[e]at hl;omega)]at hh);refine⟨om,?_⟩;rw[Lib.decDigits,dif_neg om,(om:x.toNat/10=y.toNat),h1.2,(om:x.toNat%10=d.toNat),<-hb]
def aII(n:Nat):(Lib.decDigits n).head? ≠some 45:=by
 induction n using Nat.strongRecOn with
 |ind n ih=>
  unfold Lib.decDigits;split
  .rename_i h'
   have:∀d,d<10->UInt8.ofNat (48+d)≠45:=de
   simpa using this n h'
  .rw[Pq (PS _)];exact ih (n/10) om
def CG(s:aJ):Nat:=if s.data.toList.head?=some 45 then 1 else 0
def canon(h:s=tx (Lib.itoa m)):lZ 10 0 (s.data.toList.drop (CG s))=some (m.natAbs:Int)/\(CG s=1↔m<0)/\CG s<s.size:=by
 subst h;have e:(tx (Lib.itoa m)).data.toList =Lib.itoa m:=by simp
 have z:(tx (Lib.itoa m)).size =(Lib.itoa m).length :=dZ _;unfold CG;rw[e,z];unfold Lib.itoa;split
 .rename_i h
  have:=List.length_pos_iff.2 (PS m.natAbs);refine⟨by simpa using X4 m.natAbs,by simp[h],jA⟩
 .rename_i h
  have:=List.length_pos_iff.2 (PS m.toNat);rw[aH (aII _)];refine⟨?_,om,om⟩;rw[List.drop_zero,X4]
  congr 1
  omega
def aBV(w:ak)(s:aJ)(e:Ending)(w':ak):Prop:=
 Gr w w'/\∃(n:Int) (ok:Bool),e=O (.tuple #[J Y n,.bool ok])/\(ok=true↔s.size<=5/\∃m,s=tx (Lib.itoa m))/\(ok=true->s=tx (Lib.itoa n))/\-100000<n/\n<100000
def aBV.no(hg:Gr w w')(he:e=O (.tuple #[J Y 0,.bool X]))(h:s.size<=5->∀m,s≠tx (Lib.itoa m)):aBV w s e w':=
 ⟨hg,0,X,he,⟨λh=>(by cases h),λ⟨h1,m,h2⟩=>bG h2 (h h1 m)⟩,λh=>(by cases h),de,de⟩
def aBV.end{w w':ak}{s:aJ}{e:Ending}{n A:Int}(hg:Gr w w')(he:e=O (.tuple #[J Y n,.bool ((tx (Lib.itoa n)).toList ==s.toList)]))(h5:s.size<=5)(hA:lZ 10 0 (s.data.toList.drop (CG s))=some A)(hn:CG s=1/\n=-A\/CG s=0/\n=A)(b0:-100000<n)(b1:n<100000):aBV w s e w':=by
 refine⟨hg,n,_,he,⟨λh=>⟨h5,n,?_⟩,λ⟨_,m,h⟩=>?_⟩,λh=>?_,b0,b1⟩
 .rcases Decidable.em (tx (Lib.itoa n)=s)with c|c
  .exact c.symm
  .rw[zJ c]at h;cases h
 .obtain⟨h1,h2,_⟩:=canon h;rw[hA]at h1;have hm:=Option.some.inj h1;have:n=m:=om;rw[this];exact str_eq h.symm
 .rcases Decidable.em (tx (Lib.itoa n)=s)with c|c
  .exact c.symm
  .rw[zJ c]at h;cases h
def XK(hk:k<=5):(10:Int)^k<=100000:=by
 have h:=pU (show 0<10 by decide) hk;have e:((10^k:Nat):Int)=(10:Int)^k:=FH _ _;rw[<-e];exact Int.ofNat_le.2 h
def aKr(s:aJ)(hs:s.size<=1048576)(w:ak):CT 52 #[.string s] w λe w'=>aBV w s e w':=by
 rcases jL s.size with h0|hp
 .have h0':(s.size:Int)=0:=om;have HN:Hid (s.size<=5->∀m,s≠tx (Lib.itoa m)):=λ_ m h=>by have:=(canon h).2.2;omega
  clear h0 hs;exact aFK
 have SY:(0:Int)<(s.size:Int):=om;have q0:=jR s 0 hp;have hb:CG s=1/\(iJ s 0==45)=true\/CG s=0/\(iJ s 0==45)=X:=by
  have hl:0<s.data.toList.length:=by rw[dN];omega
  rw[xC s 0 hl];unfold CG;rw[List.head?_eq_getElem?,Dj hl];generalize s.data.toList[0]=b;by_cases c:b=45
  .left;subst c;decide
  .right;rw[aH (by simpa using c)];refine⟨rfl,Am λe=>c (UInt8.toNat_inj.1 ?_)⟩;have:b.toNat=45:=om;rw[this];rfl
 obtain⟨F,hF⟩:=dP (CG s);have HFs:Hid (CG s=F):=hF;rw[hF]at hb;clear hF;have q0':∀w,(Instr.index 9 (.string s) (J Y 0)).run prog w=.ok (J .u8 (iJ s 0)) w:=q0;clear q0;by_cases h5:s.size<=5
 case neg=>
  have h5':(5:Int)<(s.size:Int):=om;have h6:((s.size:Int)==0)=X:=Am om;have h7:((s.size:Int)==1)=X:=Am om;have HN:Hid (s.size<=5->∀m,s≠tx (Lib.itoa m)):=λh=>bG h h5;rcases hb with⟨_,hb⟩|⟨_,hb⟩
  all_goals
   exact aFK
 case pos=>
  have h5':¬(5:Int)<(s.size:Int):=om;by_cases o_:s.size=F
  .have HN:Hid (s.size<=5->∀m,s≠tx (Lib.itoa m)):=λ_ m h=>by have:=(canon h).2.2;have:=HFs.out;omega
   rcases hb with⟨hf,hb⟩|⟨hf,hb⟩
   .have h6:(s.size:Int)=1:=om;clear hf o_ hp h5 hs HFs;exact aFK
   .omega
  rcases hb with⟨rfl,hb⟩|⟨rfl,hb⟩
  .have HF:Hid (CG s=1):=HFs.out;have h6:((s.size:Int)==1)=X:=Am om;clear o_ hp HFs;go_enter func52,ntmps52;go_wp2;go_loop [4,6] (λa i=>∃(k:Nat) (A:Int),1<=k/\k<=s.size/\i=J Y (k:Int)/\a=J Y A/\0<=A/\Hid (A<10^(k-1))/\Hid (lZ 10 0 (s.data.toList.drop 1)=lZ 10 A (s.data.toList.drop k))) (λ_ i=>s.size-(intOf i).toNat)
   case atStart=>exact⟨1,0,dJ _,om,rfl,rfl,Int.le_refl _,show(0:Int)<10^0 by decide,rfl⟩
   case round=>
    obtain⟨k,A,hk0,hk,rfl,rfl,A0,HA1,HN⟩:=hrel;have hp5:=XK (om:k-1<=5);have hA5:A<100000:=Int.lt_of_lt_of_le HA1.out hp5;by_cases EI:(k:Int)<(s.size:Int)
    .have m_:k<s.data.toList.length:=by rw[dN];omega
     have hN:=HN.out;rw[MI m_,<-FZ s k m_]at hN;have q2:=jR s k om;have hb8:=wG s k;have hd:oW (iJ s k)=if 48<=iJ s k/\iJ s k<=57 then iJ s k-48 else if 97<=iJ s k/\iJ s k<=102 then iJ s k-87 else-1:=rfl
     generalize iJ s k=b at*
     by_cases c:48<=b/\b<=57
     .rw[aQ c]at hd;rw[hd,aH (by omega)]at hN;have c1:¬b<48:=om;have c2:¬57<b:=om;have hp:=Fe (D:=[]) (show(2:Int)<=10 by decide) A0 HA1.out (om:0<=b-48) om;rw[(om:k-1+1=k+1-1)]at hp;exact aMa
     .have Cc:lZ 10 0 (s.data.toList.drop 1)=none:=by
       rw[hN,aQ];rw[hd,aH c];split<;>omega
      exact aL9
    .obtain rfl:k=s.size:=om;have hN:=HN.out;rw[<-dN,Fg]at hN;have RG:Hid (lZ 10 0 (s.data.toList.drop (CG s))=some A):=by show _=_;rw[HF.out];exact hN
     obtain⟨N,BD⟩:=dP (-A);have u1:IntKind.i64.wrap (-A)=N:=by rw[dI];omega
     have HS:Hid _:=vJ N om om;have HE:Hid _:=@aBV.end w;clear hN HN HA1 hp5;obtain⟨t,ht⟩:=dP (tx (Lib.itoa N));rw[ht]at HS;have HT:Hid (tx (Lib.itoa N)=t):=ht;clear ht;go_wp2_with (go_at_call 45;refine ku (HS _) λw1 au=>?_);go_returns;refine HE au ?_ h5 RG.out (.inl ⟨HF.out,BD.symm⟩) om om;rw[HT.out];rfl
  .have HF:Hid (CG s=0):=HFs.out;have h6:((s.size:Int)==0)=X:=Am om;clear o_ hp HFs;go_enter func52,ntmps52;go_wp2;go_loop [4,6] (λa i=>∃(k:Nat) (A:Int),0<=k/\k<=s.size/\i=J Y (k:Int)/\a=J Y A/\0<=A/\Hid (A<10^(k-0))/\Hid (lZ 10 0 (s.data.toList.drop 0)=lZ 10 A (s.data.toList.drop k))) (λ_ i=>s.size-(intOf i).toNat)
   case atStart=>exact⟨0,0,dJ _,om,rfl,rfl,Int.le_refl _,show(0:Int)<10^0 by decide,rfl⟩
   case round=>
    obtain⟨k,A,hk0,hk,rfl,rfl,A0,HA1,HN⟩:=hrel;have hp5:=XK (om:k-0<=5);have hA5:A<100000:=Int.lt_of_lt_of_le HA1.out hp5;by_cases EI:(k:Int)<(s.size:Int)
    .have m_:k<s.data.toList.length:=by rw[dN];omega
     have hN:=HN.out;rw[MI m_,<-FZ s k m_]at hN;have q2:=jR s k om;have hb8:=wG s k;have hd:oW (iJ s k)=if 48<=iJ s k/\iJ s k<=57 then iJ s k-48 else if 97<=iJ s k/\iJ s k<=102 then iJ s k-87 else-1:=rfl
     generalize iJ s k=b at*
     by_cases c:48<=b/\b<=57
     .rw[aQ c]at hd;rw[hd,aH (by omega)]at hN;have c1:¬b<48:=om;have c2:¬57<b:=om;have hp:=Fe (D:=[]) (show(2:Int)<=10 by decide) A0 HA1.out (om:0<=b-48) om;rw[(om:k-0+1=k+1-0)]at hp;exact aMa
     .have Cc:lZ 10 0 (s.data.toList.drop 0)=none:=by
       rw[hN,aQ];rw[hd,aH c];split<;>omega
      exact aL9
    .obtain rfl:k=s.size:=om;have hN:=HN.out;rw[<-dN,Fg]at hN;have RG:Hid (lZ 10 0 (s.data.toList.drop (CG s))=some A):=by show _=_;rw[HF.out];exact hN
     have HS:Hid _:=vJ A om om;have HE:Hid _:=@aBV.end w;clear hN HN HA1 hp5;obtain⟨t,ht⟩:=dP (tx (Lib.itoa A));rw[ht]at HS;have HT:Hid (tx (Lib.itoa A)=t):=ht;clear ht;go_wp2_with (go_at_call 45;refine ku (HS _) λw1 au=>?_);go_returns;refine HE au ?_ h5 RG.out (.inr ⟨HF.out,rfl⟩) om om;rw[HT.out];rfl
abbrev jw:List aJ:=[tx [97,100,100],tx [115,117,98],tx [109,117,108],tx [102,109,97],tx [100,105,118],tx [115,113,114,116],tx [114,101,109],tx [105,110,116],tx [116,111,105,110,116],tx [99,111,110,118,101,114,116],tx [114,111,117,110,100],tx [109,105,110],tx [109,97,120],tx [99,111,109,112,97,114,101],tx [115,105,103,110,97,108]]
abbrev aJP:List aJ:=[tx [102,109,119,119],tx [102,109,119,119],tx [102,109,119,119],tx [102,109,119,119,119],tx [102,109,119,119],tx [102,109,119],tx [102,119,119],tx [102,109,107,119],tx [102,109,107,119],tx [102,102,109,119],tx [102,109,119],tx [102,119,119],tx [102,119,119],tx [102,119,119],tx [102,119,119]]
abbrev dK:List aJ:=[tx [102,51,50],tx [102,54,52]]
abbrev gB:List aJ:=[tx [101,118,101,110],tx [97,119,97,121],tx [122,101,114,111],tx [117,112],tx [100,111,119,110]]
abbrev jh:List aJ:=[tx [105,51,50],tx [105,54,52],tx [117,51,50],tx [117,54,52]]
def InL(l:List aJ)(s:aJ)(r:Int):Prop:=Qm (λj=>l.getD j default) l.length s r
def aON(l:List aJ)(s:aJ):∃r,InL l s r/\-1<=r/\r<l.length:=aOk _ _ _
def pq.lit(w:ak)(l:List aJ)(hl:l.length<=100):pq (w.alloc (.cells (l.map Value.string).toArray 9)) (aF w.heap.size l.length l.length) l.length (λj=>l.getD j default):=by
 refine⟨_,_,rfl,dJ _,by unfold maxLen;omega,λ_=>⟨w.heap.size,0,rfl,λj hj=>?_⟩⟩;have e:(l.map Value.string).toArray[0+j]?=some (.string (l.getD j default)):=by simp[qF,hj]
 simpa[go_sem]using e
def Ot{l:List aJ}(h:InL l s r)(hl:l.length<=100)(hg:Gb (w.alloc (.cells (l.map Value.string).toArray 9)) w'):QW 57 #[aF w.heap.size l.length l.length,.string s] w' (J Y r):=aKk ((pq.lit w l hl).gb hg) h
def shapeOf(r:Int):aJ:=if r<0 then tx []else aJP.getD r.toNat default
def aCm(h:InL jw s r)(r0:-1<=r)(r1:r<15)(w:ak):QR 21 #[.string s] w (.string (shapeOf r)):=by
 have HP:Hid _:=λw' hg=>Ot h de (w:=w) (w':=w') hg;clear h;rcases(om:r=-1\/r=0\/r=1\/r=2\/r=3\/r=4\/r=5\/r=6\/r=7\/r=8\/r=9\/r=10\/r=11\/r=12\/r=13\/r=14)with rfl|rfl|rfl|rfl|rfl|rfl|rfl|rfl|rfl|rfl|rfl|rfl|rfl|rfl|rfl|rfl
 all_goals
  go_enter func21,ntmps21;go_wp2_with (go_at_call 57;refine(HP _ (Gb.alloc (Gb.refl _) _)).mono ?_;rintro e w1 ⟨rfl,hw⟩;subst hw);go_returns;exact⟨rfl,kr⟩
