import Derived.Test.YtnbbfeknbfohhaaGreatDoorA6
import Derived.Test.YtnbbfeknbfohhaaGreatDoorB0
import Derived.Test.YtnbbfeknbfohhaaGreatDoorH4
import Derived.Test.YtnbbfeknbfohhaaGreatDoorA7
import Derived.Deep.AppendLies
import Derived.Test.YtnbbfeknbfohhaaGreatDoorA1
import Derived.Test.YtnbbfeknbfohhaaGreatDoorRows
import Derived.Laws.StructEq
import Derived.WalkLawsBesides
import Derived.Test.YtnbbfeknbfohhaaGreatDoorDa
import Derived.Test.YtnbbfeknbfohhaaGreatDoorC0
set_option linter.unusedVariables false
set_option linter.unusedSimpArgs false
open Go.Value renaming int → J
open Go.IntKind renaming i64 → Y
open Go.Proofs.Tryz
namespace Go.Proofs.YtnbbfeknbfohhaaGreatDoor
theorem aHx{P:Prop}(h:P:=by
 refine⟨inf-1,om,om,fun m m0 m4=>⟨.inr (.inl (all m m0 m4).2),by rw[(all m m0 m4).1];exact(ovv m m0 m4).1⟩,?_,?_,?_⟩
 ·rw[(all 2 om om).1];exact(ovv 2 om om).2.1
 ·rw[(all 3 om om).1];exact(ovv 3 om om).2.2.1
 ·rw[(all 4 om om).1];exact(ovv 4 om om).2.2.2):P:=h
def upZ(mode s:Int)(lo half:Nat):Int:=if up mode s lo half then 1 else 0
theorem aHN(mode s:Int)(lo:Nat):up mode s lo 0=false:=by unfold up;simp
theorem aHM(s:Int)(lo half:Nat)(h:0<half)(hs:s=0∨s=1):up 2 s lo half=false∧up 3 s lo half=decide (s=0)∧up 4 s lo half=decide (s=1):=by
 unfold up
 refine⟨decide_eq_false om,?_,?_⟩
 ·rw[decide_eq_decide];omega
 ·rw[decide_eq_decide];omega
theorem bracket{p mx one inf s:Int}{M:Nat}{e:Int}(hp:0<p)(ho:0<one)(hi:1<inf)(hs:s=0∨s=1)(z fl:Int→Int)(h:∀m,0≤m→m≤4→aH p (1-mx) mx one inf m s M e false (z m) (fl m)):
  (∃v,0≤v∧v<inf∧∀m,0≤m→m≤4→z m=v∧fl m=0)∨
  (∃lo,0≤lo∧lo<inf∧(∀m,0≤m→m≤4→(fl m=16∨fl m=20∨fl m=24)∧(z m=lo∨z m=lo+1))∧z 2=lo∧z 3=(if s=0 then lo+1 else lo)∧z 4=(if s=1 then lo+1 else lo)):=by
 obtain⟨top,ht⟩:∃top:Int,(nb M:Int)+e-1=top:=⟨_,rfl⟩
 obtain⟨E,hE⟩:∃E:Int,(top<1-mx∧E=1-mx∨1-mx≤top∧E=top):=by
  rcases Int.lt_or_le top (1-mx)with c|c
  ·exact⟨1-mx,.inl ⟨c,rfl⟩⟩
  ·exact⟨top,.inr ⟨c,rfl⟩⟩
 have hk0:0≤one*(E-(1-mx)):=Int.mul_nonneg om om
 obtain⟨q,hq⟩:∃q:Int,one*(E-(1-mx))=q:=⟨_,rfl⟩
 obtain⟨c,hc⟩:∃c:Nat,aT M e (E-p+1)=c:=⟨_,rfl⟩
 obtain⟨hf,RD⟩:∃hf:Nat,aG M e (E-p+1) false=hf:=⟨_,rfl⟩
 have key:∀m,0≤m→m≤4→∃r:Nat,(r:Int)=c+upZ m s c hf∧(mx<top∧z m=iw inf m s∧fl m=20∨top≤mx∧inf≤r+q∧z m=iw inf m s∧fl m=20∨top≤mx∧r+q<inf∧z m=r+q∧(hf=0∧fl m=0∨0<hf∧(fl m=24∨fl m=16))):=by
  intro m m0 m4
  obtain⟨top',E',r,r2,hf',h1,h2,h3,h4,h5,hcc⟩:=h m m0 m4
  have e1:top'=top:=om
  have e2:E'=E:=om
  rw[e2]at h3 h4 hcc
  rw[e1]at hcc
  have e3:hf'=hf:=by rw[h3,RD]
  have e4:(r:Int)=c+upZ m s c hf:=by rw[h4,e3,hc];unfold chosen upZ;split<;>simp
  rw[hq]at hcc
  rw[e3]at hcc
  refine⟨r,e4,?_⟩
  rcases hcc with k|k|⟨k1,k2,k3,k4⟩
  ·exact .inl k
  ·exact .inr (.inl k)
  ·refine .inr (.inr ⟨k1,k2,k3,?_⟩)
   rcases k4 with k|⟨k,_,k'⟩|⟨k,_,k'⟩
   ·exact .inl k
   ·exact .inr ⟨k,.inl k'⟩
   ·exact .inr ⟨k,.inr k'⟩
 have ovv:∀m,0≤m→m≤4→(iw inf m s=inf-1∨iw inf m s=inf-1+1)∧iw inf 2 s=inf-1∧iw inf 3 s=(if s=0 then inf-1+1 else inf-1)∧iw inf 4 s=(if s=1 then inf-1+1 else inf-1):=by
  intro m m0 m4
  unfold iw
  refine⟨?_,by rw[if_neg (by omega)],?_,?_⟩
  ·split<;>omega
  ·split<;>split<;>omega
  ·split<;>split<;>omega
 by_cases c1:mx<top
 ·right
  have all:∀m,0≤m→m≤4→z m=iw inf m s∧fl m=20:=by
   intro m m0 m4
   obtain⟨r,_,k|⟨k,_⟩|⟨k,_⟩⟩:=key m m0 m4
   ·exact⟨k.2.1,k.2.2⟩
   ·omega
   ·omega
  exact aHx
 ·rcases Nat.eq_zero_or_pos hf with h0|h0
  ·have u0:∀m,upZ m s c hf=0:=by intro m;unfold upZ;rw[h0,aHN];rfl
   by_cases c2:(c:Int)+q<inf
   ·left
    refine⟨c+q,om,c2,fun m m0 m4=>?_⟩
    obtain⟨r,hr,k|⟨_,k,_⟩|⟨_,k1,k2,k3⟩⟩:=key m m0 m4
    ·omega
    ·have:=u0 m;omega
    ·have:=u0 m
     exact⟨om,om⟩
   ·right
    have all:∀m,0≤m→m≤4→z m=iw inf m s∧fl m=20:=by
     intro m m0 m4
     obtain⟨r,hr,k|⟨_,_,k⟩|⟨_,k,_⟩⟩:=key m m0 m4
     ·omega
     ·exact k
     ·have:=u0 m;omega
    exact aHx
  ·right
   obtain⟨w2,w3,w4⟩:=aHM s c hf h0 hs
   have u01:∀m,upZ m s c hf=0∨upZ m s c hf=1:=by intro m;unfold upZ;split<;>simp
   have v2:upZ 2 s c hf=0:=by unfold upZ;rw[w2];rfl
   have v3:upZ 3 s c hf=if s=0 then 1 else 0:=by unfold upZ;rw[w3];rcases hs with rfl|rfl<;>rfl
   have v4:upZ 4 s c hf=if s=1 then 1 else 0:=by unfold upZ;rw[w4];rcases hs with rfl|rfl<;>rfl
   by_cases c2:(c:Int)+q<inf
   ·
    have all:∀m,0≤m→m≤4→(fl m=16∨fl m=20∨fl m=24)∧z m=c+q+upZ m s c hf:=by
     intro m m0 m4
     obtain⟨r,hr,k|⟨_,k,k',k''⟩|⟨_,k1,k2,k3⟩⟩:=key m m0 m4
     ·omega
     ·refine⟨.inr (.inl k''),?_⟩
      have:=u01 m
      have hu:upZ m s c hf=1:=om
      have ho':iw inf m s=inf:=by
       unfold upZ at hu
       have hup:up m s c hf=true:=by
        rcases hb:up m s c hf with _|_
        ·rw[hb]at hu;simp at hu
        ·rfl
       unfold up at hup
       have:=of_decide_eq_true hup
       unfold iw
       rw[if_pos (by omega)]
      rw[k',ho'];omega
     ·exact⟨om,om⟩
    refine⟨c+q,om,c2,fun m m0 m4=>⟨(all m m0 m4).1,?_⟩,?_,?_,?_⟩
    ·have:=(all m m0 m4).2;have:=u01 m;omega
    ·have:=(all 2 om om).2;omega
    ·rw[(all 3 om om).2,v3];split<;>omega
    ·rw[(all 4 om om).2,v4];split<;>omega
   ·have all:∀m,0≤m→m≤4→z m=iw inf m s∧fl m=20:=by
     intro m m0 m4
     obtain⟨r,hr,k|⟨_,_,k⟩|⟨_,k,_⟩⟩:=key m m0 m4
     ·omega
     ·exact k
     ·have:=u01 m;omega
    exact aHx
open Go.RowKit
def iL(inf sg nan W z:Int):Prop:=
 (W=0∨W=sg)∧z=1∨(inf<W∧W<sg∨sg+inf<W)∧z=nan∨W=inf∧z=inf∨0<W∧W<inf∧z=W+1∨sg<W∧W≤sg+inf∧z=W-1
theorem iL.one{f p mx one inf sg nan W z z':Int}(hf:aI f p mx one inf sg nan)(h:iL inf sg nan W z)(h':iL inf sg nan W z'):z=z':=by
 obtain⟨b1,b2,b3,b4,b5,b6,b7,b8,b9,b10,b11,b12⟩:=hf.bounds
 unfold iL at h h'
 omega
theorem bY.cls{p mx one inf sg nan W c s e g:Int}(h:bY p mx one inf sg nan W c s e g):
  ∃v,(s=0∧v=W∧W<sg∨s=1∧v=W-sg∧sg≤W)∧(v=0∧c=0∨inf<v∧v<nan∧c=4∨nan≤v∧c=3∨v=inf∧c=2∨0<v∧v<inf∧c=1):=by
 obtain⟨v,hv,hc⟩:=h
 refine⟨v,hv,?_⟩
 rcases hc with h|h|h|h|⟨h1,h2,h3,_⟩<;>omega
def aI5(inf sg nan:Int)(Z fl:Int→Int):Prop:=
 (∀m,0≤m→m≤4→(fl m=0∨fl m=2)∧(Z m=Z 3∨Z m%sg=0∧Z 3%sg=0))∨
 (∀m,0≤m→m≤4→(fl m=16∨fl m=20∨fl m=24)∧(Z m=Z 3∨Z m=Z 4))∧iL inf sg nan (Z 4) (Z 3)∧(Z 2%sg=Z 3%sg∧Z 3%sg≤Z 4%sg∨Z 2%sg=Z 4%sg∧Z 4%sg≤Z 3%sg)
theorem aGA{sg s v:Int}(hs:s=0∨s=1)(v0:0≤v)(v1:v<sg):sw s sg v%sg=v:=by
 unfold sw
 rcases hs with rfl|rfl
 ·rw[if_neg (by decide)];exact Int.emod_eq_of_lt v0 v1
 ·rw[if_pos rfl,Int.add_emod_right];exact Int.emod_eq_of_lt v0 v1
theorem aHY{f p mx one inf sg nan:Int}(h:aI f p mx one inf sg nan)(o:Int→bI)(Z fl:Int→Int)(hs:∀m,(o m).s =0∨(o m).s =1)(hO:∀m,0≤m→m≤4→o m=o 0∨(o m).c =0∧(o 0).c =0)(hp:∀m,0≤m→m≤4→ql p (1-mx) mx one inf sg nan m (o m) (Z m) (fl m)):
  (o 0).c =3∨(o 0).c =4∨aI5 inf sg nan Z fl:=by
 have hb:=h.bounds
 rcases hp 0 om om with(⟨c,_⟩|⟨c,_⟩|⟨c,_⟩|⟨c,_⟩|⟨c,_⟩)|⟨c,_⟩
 ·right;right;left
  intro m m0 m4
  have z:∀m,0≤m→m≤4→Z m%sg=0∧fl m=0:=by
   intro m m0 m4
   have hc:(o m).c =0:=by
    rcases hO m m0 m4 with k|k
    ·rw[k];exact c
    ·exact k.1
   rcases hp m m0 m4 with(⟨_,k,k'⟩|⟨d,_⟩|⟨d,_⟩|⟨d,_⟩|⟨d,_⟩)|⟨d,_⟩
   ·exact⟨by rw[k];exact aGA (hs m) om om,k'⟩
   all_goals omega
  exact⟨.inl (z m m0 m4).2,.inr ⟨(z m m0 m4).1,(z 3 om om).1⟩⟩
 ·right;right
  have hc:∀m,0≤m→m≤4→o m=o 0:=by
   intro m m0 m4
   rcases hO m m0 m4 with k|k
   ·exact k
   ·omega
  have hr:∀m,0≤m→m≤4→∃z,aH p (1-mx) mx one inf m (o 0).s (o 0).M (o 0).e false z (fl m)∧Z m=sw (o 0).s sg z:=by
   intro m m0 m4
   have:=hp m m0 m4
   rw[hc m m0 m4]at this
   rcases this with(⟨d,_⟩|⟨_,k⟩|⟨d,_⟩|⟨d,_⟩|⟨d,_⟩)|⟨d,_⟩
   ·omega
   ·exact k
   all_goals omega
  obtain⟨z,hz⟩:∃z:Int→Int,∀m,0≤m→m≤4→aH p (1-mx) mx one inf m (o 0).s (o 0).M (o 0).e false (z m) (fl m)∧Z m=sw (o 0).s sg (z m):=by
   refine⟨fun m=>if k:0≤m∧m≤4 then(hr m k.1 k.2).choose else 0,fun m m0 m4=>?_⟩
   dsimp only
   rw[dif_pos ⟨m0,m4⟩]
   exact(hr m m0 m4).choose_spec
  have nN:=hs 0
  rcases bracket om om om nN z fl (fun m m0 m4=>(hz m m0 m4).1)with⟨v,v0,v1,hv⟩|⟨lo,l0,l1,hl,h2,h3,h4⟩
  ·left
   intro m m0 m4
   exact⟨.inl (hv m m0 m4).2,.inl (by rw[(hz m m0 m4).2,(hz 3 om om).2,(hv m m0 m4).1,(hv 3 om om).1])⟩
  ·right
   have e2:=(hz 2 om om).2
   have e3:=(hz 3 om om).2
   have e4:=(hz 4 om om).2
   rw[h2]at e2;rw[h3]at e3;rw[h4]at e4
   have m2:=aGA nN l0 (show lo<sg by omega)
   have m2':=aGA nN (show 0≤lo+1 by omega) (show lo+1<sg by omega)
   rcases nN with s|s
   ·rw[s,if_pos rfl]at e3
    rw[s,if_neg (by decide)]at e4
    rw[s]at e2 m2 m2'
    refine⟨fun m m0 m4=>⟨(hl m m0 m4).1,?_⟩,?_,.inr ?_⟩
    ·rw[(hz m m0 m4).2,e3,e4,s]
     rcases(hl m m0 m4).2 with k|k
     ·right;rw[k]
     ·left;rw[k]
    ·rw[e3,e4]
     unfold sw iL
     rw[if_neg de,if_neg (by decide)]
     omega
    ·rw[e2,e3,e4,m2,m2'];omega
   ·rw[s,if_neg (by decide)]at e3
    rw[s,if_pos rfl]at e4
    rw[s]at e2 m2 m2'
    refine⟨fun m m0 m4=>⟨(hl m m0 m4).1,?_⟩,?_,.inl ?_⟩
    ·rw[(hz m m0 m4).2,e3,e4,s]
     rcases(hl m m0 m4).2 with k|k
     ·left;rw[k]
     ·right;rw[k]
    ·rw[e3,e4]
     unfold sw iL
     rw[if_pos rfl,if_pos rfl]
     omega
    ·rw[e2,e3,e4,m2,m2'];omega
 ·right;right;left
  intro m m0 m4
  have z:∀m,0≤m→m≤4→Z m=sw (o 0).s sg inf∧fl m=0:=by
   intro m m0 m4
   have hc:o m=o 0:=by
    rcases hO m m0 m4 with k|k
    ·exact k
    ·omega
   have:=hp m m0 m4
   rw[hc]at this
   rcases this with(⟨d,_⟩|⟨d,_⟩|⟨_,k,k'⟩|⟨d,_⟩|⟨d,_⟩)|⟨d,_⟩
   ·omega
   ·omega
   ·exact⟨k,k'⟩
   all_goals omega
  exact⟨.inl (z m m0 m4).2,.inl (by rw[(z m m0 m4).1,(z 3 om om).1])⟩
 ·exact .inl c
 ·exact .inr (.inl c)
 ·right;right;left
  intro m m0 m4
  have z:∀m,0≤m→m≤4→Z m=sw (o 0).s sg inf∧fl m=2:=by
   intro m m0 m4
   have hc:o m=o 0:=by
    rcases hO m m0 m4 with k|k
    ·exact k
    ·omega
   have:=hp m m0 m4
   rw[hc]at this
   rcases this with(⟨d,_⟩|⟨d,_⟩|⟨d,_⟩|⟨d,_⟩|⟨d,_⟩)|⟨_,k,k'⟩
   ·omega
   ·omega
   ·omega
   ·omega
   ·omega
   ·exact⟨k,k'⟩
  exact⟨.inr (z m m0 m4).2,.inl (by rw[(z m m0 m4).1,(z 3 om om).1])⟩
def rv(m:Nat)(Z fl:Nat→Int):List Value:=(List.range m).map fun j=>if j%2=0 then Value.int .u64 (Z (j/2))else Value.int Y (fl (j/2))
theorem aIr(m:Nat)(Z fl:Nat→Int):(rv m Z fl).length =m:=by simp[rv]
theorem aHB(m:Nat)(Z fl:Nat→Int)(j:Nat)(hj:j<m):(rv m Z fl)[j]?=some (if j%2=0 then Value.int .u64 (Z (j/2))else Value.int Y (fl (j/2))):=by simp[rv,hj]
theorem aIe(n:Nat)(Z fl:Nat→Int):rv ((n+1)*2) Z fl=rv (n*2) Z fl++[Value.int .u64 (Z n),Value.int Y (fl n)]:=by
 unfold rv
 rw[Nat.add_mul,List.range_add,List.map_append,List.map_map]
 congr 1
 simp[List.range_succ,show n*2/2=n by omega,show(n*2+1)/2=n by omega,show(n*2+1)%2=1 by omega]
def Ov(w:World)(base:Nat)(v:Value)(n:Nat)(Z fl:Nat→Int):Prop:=w.ownsRow base 41 2 v n (rv (n*2) Z fl)
theorem Ov.at{w:World}{base:Nat}{v:Value}{n:Nat}{Z fl:Nat→Int}(h:Ov w base v n Z fl)(hn:0<n):
  ∃b cap,v=.slice (some ⟨b,0,none⟩) n cap∧base≤b∧b<w.heap.size∧∀j,j<n→w.cell? ⟨b,j*2,none⟩=some (J .u64 (Z j))∧w.cell? ⟨b,j*2+1,none⟩=some (J Y (fl j)):=by
 have h0:=h
 rcases h.2 with⟨rfl,rfl⟩|⟨b,cap,cur,rfl,hb,hh,hc,hm,_⟩
 ·omega
 ·refine⟨b,cap,rfl,hb,(Array.getElem?_eq_some_iff.1 hh).1,fun j hj=>⟨?_,?_⟩⟩
  ·rw[World.ownsRow.cellAt h0 (j*2) om,aHB _ _ _ _ om,if_pos om,show j*2/2=j by omega]
  ·rw[World.ownsRow.cellAt h0 (j*2+1) om,aHB _ _ _ _ om,if_neg om,show(j*2+1)/2=j by omega]
theorem Ov.gb{w w':World}{base:Nat}{v:Value}{n:Nat}{Z fl:Nat→Int}(h:Ov w base v n Z fl)(hg:Gb w w'):Ov w' base v n Z fl:=by
 refine⟨h.1,?_⟩
 rcases h.2 with hn|⟨b,cap,cur,rfl,hb,hh,rest⟩
 ·exact .inl hn
 ·refine .inr ⟨b,cap,cur,rfl,hb,?_,rest⟩
  rw[Below.block hg b (Array.getElem?_eq_some_iff.1 hh).1]
  exact hh
theorem Ov.lit(w:World)(Z fl:Nat→Int):Ov (w.alloc (.cells #[] 41)) w.heap.size (.slice (some ⟨w.heap.size,0,none⟩) 0 0) 0 Z fl:=by
 have:=World.ownsRow_lit (base:=w.heap.size) (e:=41) (size:=2) w #[] 0 (Nat.le_refl _) (Nat.zero_le _) (by simp)
 simpa[Ov,rv]using this
theorem aIz:(Tryz.prog.info? 41).map (fun i=>(i.zero,i.size,i.bytes))=some (some (.agg #[J .u64 0,J Y 0]),2,16):=by kernel_rfl
theorem aG2{w:World}{ops:Array Oper}{rest:List Oper}{o:Oper}{a:Act}{Q:Exit→Act→World→Prop}(hgd:o.guard=none)(s x:Operand)
  (ho:o.op=.call {callee:=.builtin .append,args:=#[s,x],argTypes:=#[52,52]})
  (base n:Nat) (Z fl:Nat→Int) (v:Value) (b:Nat) (hs:a.eval s=v) (hown:Ov w base v n Z fl) (hx:a.eval x=.slice (some ⟨b,0,none⟩) 1 1)
  (c0:w.cell? ⟨b,0,none⟩=some (J .u64 (Z n))) (c1:w.cell? ⟨b,1,none⟩=some (J Y (fl n))) (hn:n≤100) (hbase:base≤w.heap.size)
  (h:∀v' w',Ov w' base v' (n+1) Z fl→Below base w w'→wpList Tryz.prog ops Q rest (a.put o.dst v') w'):wpList Tryz.prog ops Q (o::rest) a w:=by
 refine wpList_plain hgd fun _ hK=>?_
 obtain⟨i0,hi,hz0,hz1,hz2⟩:=info_parts aIz
 refine wp_append_lies _ s x 52 ho base 41 i0 (.agg #[J .u64 0,J Y 0]) 2 16 Tryz.underlying52 hi hz0 hz1 hz2 rfl de v n (rv (n*2) Z fl) hs hown ⟨b,0,none⟩ 1 1 [J .u64 (Z n),J Y (fl n)] hx rfl ?_ ?_ de (by unfold maxLen;omega) om hbase w.heap.size rfl ?_
 ·intro j u hj
  have e:(⟨b,0,none⟩:Addr).add j=⟨b,j,none⟩:=by unfold Addr.add;split<;>simp_all
  rw[e]
  rcases j with _|_|j
  ·simp at hj;subst hj;exact c0
  ·simp at hj;subst hj;exact c1
  ·simp at hj
 ·intro u hu
  simp at hu
  rcases hu with rfl|rfl<;>rfl
 ·intro gb cap' w' hown' hgrow hat _
  refine hK _ _ (h _ w' ?_ ?_)
  ·show World.ownsRow _ _ _ _ _ _ _
   rw[aIe]
   exact hown'
  ·refine(Below.refl base w).grown hgrow hbase ?_
   intro q hq
   exact(World.ownsRow.lt hown q hq).1
theorem aI4(a b c d:Int)(w:World):(Op.equalIn 10000 41 (.agg #[J .u64 a,J Y b]) (.agg #[J .u64 c,J Y d])).run Tryz.prog w=.ok (a==c&&b==d) w:=by
 have u3:=Tryz.underlying22
 have a3:=Tryz.isAgg22
 have z3:=Tryz.sizeOf22
 have u4:=Tryz.underlying3
 have a4:=Tryz.isAgg3
 have z4:=Tryz.sizeOf3
 have hS:Tryz.prog.underlying 41=some (.struct (Tryz.prog.fieldsOf 41)):=by kernel_rfl
 rw[show(10000:Nat)=9999+1 from rfl,run_equalIn_agg w 9999 41 _ _ hS (by kernel_rfl)]
 simp only[Program.fieldsOf,Tryz.underlying41]
 go_simp
 by_cases h1:a=c<;>by_cases h2:b=d<;>simp[h1,h2]
theorem aHr(Z fl:Int)(w:World):(Op.equalIn 10000 41 (.agg #[J .u64 Z,J Y fl]) (.agg #[J .u64 Z,J Y fl])).run Tryz.prog w=.ok true w:=by rw[aI4];simp
theorem aFU(f v:Int)(v0:0≤v)(h:¬(f=0∨f=1)∨(f=0∧4294967296≤v))(w:World):
  QR 31 #[J Y f,J .u64 v] w (.agg #[J Y 4,J Y 0,J Y 0,J .u64 0]):=by
 have HE:Hid _:=h
 clear h
 go_enter func31,ntmps31
 go_wp2_with (go_at_call 110;refine(CG _ _ v0 HE.out _).mono ?_;rintro e w' ⟨rfl,hw⟩;subst hw)
 go_returns
 exact⟨rfl,kr⟩
theorem aGL(f v c s x g:Int)(HU:KR 31 #[J Y f,J .u64 v] (.agg #[J Y c,J Y s,J Y x,J .u64 g]))(w:World):QR 27 #[J Y f,J .u64 v] w (J Y c):=by
 have hf:∀w,(Instr.field 59 (.agg #[J Y c,J Y s,J Y x,J .u64 g]) 0).run Tryz.prog w=.ok (J Y c) w:=fun w=>by kernel_rfl
 go_enter func27,ntmps27
 go_wp2_with (go_at_call 31;refine(HU.out _).mono ?_;rintro x w1 ⟨rfl,aj⟩)
 go_returns
 exact⟨rfl,aj⟩
theorem aG1(f v:Int)(v0:0≤v)(v1:v<18446744073709551616):∃c:Int,KR 27 #[J Y f,J .u64 v] (J Y c)∧(c=4∨∃p mx one inf sg nan x,aI f p mx one inf sg nan∧v<2*sg∧bZ p mx one inf sg nan v x∧c=x.c):=by
 rcases aBa f v v0 v1 with⟨p,mx,one,inf,sg,nan,hF,hv⟩|hno
 ·obtain⟨x,hx⟩:=jk hF v v0 v1
  exact⟨x.c,fun w=>aGL f v _ _ _ _ (nS hF v v0 hv hx) w,.inr ⟨p,mx,one,inf,sg,nan,x,hF,hv,hx,rfl⟩⟩
 ·exact⟨4,fun w=>aGL f v 4 0 0 0 (fun w=>aFU f v v0 hno w) w,.inl rfl⟩
theorem aIp{f p mx one inf sg nan:Int}(h:aI f p mx one inf sg nan)(v:Int)(v0:0≤v)(w:World):QW 28 #[J Y f,J .u64 v] w (J .u64 (v%sg)):=by
 have HM:KW 101 #[J Y f] (J .u64 sg):=fun w=>by
  rcases h with⟨rfl,_,_,_,_,rfl,_⟩|⟨rfl,_,_,_,_,rfl,_⟩
  all_goals
   go_enter func101,ntmps101
   go_wp2
   go_returns
   exact⟨rfl,rfl⟩
 have ht:Int.tmod v sg=v%sg:=Int.tmod_eq_emod_of_nonneg v0
 obtain⟨r,hr⟩:∃r,v%sg=r:=⟨_,rfl⟩
 rw[hr]at ht⊢
 have hs:0<sg:=by have:=h.bounds;omega
 have hne:¬sg=0:=om
 clear h
 go_enter func28,ntmps28
 go_wp2_with (go_at_call 101;refine(HM.out _).mono ?_;rintro x w' ⟨rfl,hw⟩;subst hw)
 go_returns
 exact⟨rfl,rfl⟩
theorem aIq{w:World}{a:Option Addr}{len cap:Nat}{c:Nat→Int}(h:rD w a len c):∃q:Int,(0≤q∧q≤255)∧QW 25 #[.slice a len cap,J Y 0] w (J Y q):=by
 by_cases hl:len=0
 ·subst hl
  refine⟨0,om,?_⟩
  go_enter func25,ntmps25
  go_wp2
  go_returns
  exact⟨rfl,rfl⟩
 ·rcases h.cells with e|⟨b,off,rfl,hc⟩
  ·exact absurd e hl
  ·obtain⟨z0,z1,hz⟩:=hc 0 om
   have hf:=h.few
   refine⟨c 0,⟨z0,z1⟩,?_⟩
   generalize c 0=z at*
   have e0:((len:Int)==0)=false:=by simp;omega
   have l0:(0:Int)<(len:Int):=om
   have t0:Int.tmod 0 (len:Int)=0:=by simp
   rw[Nat.add_zero]at hz
   clear hc h hl
   go_enter func25,ntmps25
   go_wp2
   go_returns
   exact⟨rfl,rfl⟩
