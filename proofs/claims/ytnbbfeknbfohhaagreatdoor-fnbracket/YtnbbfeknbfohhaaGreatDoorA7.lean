import Derived.Test.YtnbbfeknbfohhaaGreatDoorA1
import Derived.Test.YtnbbfeknbfohhaaGreatDoorRows
import Derived.Laws.OwnMore
import Derived.OwnWalk
import Derived.WalkLawsBesides
set_option linter.unusedVariables false
set_option linter.unusedSimpArgs false
set_option maxRecDepth 1000000
set_option maxHeartbeats 40000000
open Go.Proofs.Tryz
namespace Go.Proofs.YtnbbfeknbfohhaaGreatDoor
open Go.RowKit
def Gb(w w':World):Prop:=Below w.heap.size w w'
theorem Gr.gb{w w':World}(h:Gr w w'):Gb w w':=h.below
theorem Gb.refl(w:World):Gb w w:=Below.refl _ _
theorem Gb.size{w w':World}(h:Gb w w'):w.heap.size≤w'.heap.size:=Below.size h
theorem Gb.trans{a b c:World}(h:Gb a b)(k:Gb b c):Gb a c:=Below.trans h (Below.mono k h.size)
theorem Gb.alloc{W w:World}(h:Gb W w)(o:Obj):Gb W (w.alloc o):=Below.alloc h h.size o
theorem Gb.drew{W w:World}(h:Gb W w):Gb W w.drew:=Below.drew h
theorem Gb.setCell{W w:World}(h:Gb W w){a:Addr}(ha:W.heap.size≤a.block)(v:Value):Gb W (w.setCell a v):=Below.setCell h ha v
theorem Gb.below{W w w':World}{base:Nat}(h:Gb W w)(k:Below base w w')(hb:W.heap.size≤base):Gb W w':=Below.trans h (Below.mono k hb)
theorem Gb.old{W w:World}(h:Gb W w){b o:Nat}{v:Value}(hv:W.cell? ⟨b,o,none⟩=some v):w.cell? ⟨b,o,none⟩=some v:=
 (Below.cell h (p:=⟨b,o,none⟩) (au hv)).trans hv
theorem Gb.fz{W w:World}(h:Gb W w){b o:Nat}(hb:b<W.heap.size)(hz:W.frozen? ⟨b,o,none⟩=false):w.frozen? ⟨b,o,none⟩=false:=
 (Below.frozen h (p:=⟨b,o,none⟩) hb).trans hz
def Raw(w:World)(v:Value)(n N:Nat):Prop:=
 N<4294967296^n∧∃b cap,v=.slice (some ⟨b,0,none⟩) n cap∧n≤cap∧cap≤maxLen∧∀j,j<n→w.cell? ⟨b,j,none⟩=some (.int .u32 (dg N j:Int))
def Big(w:World)(v:Value)(n N:Nat):Prop:=Nm n N∧Raw w v n N
theorem Raw.gb{w w':World}{v:Value}{n N:Nat}(h:Raw w v n N)(k:Gb w w'):Raw w' v n N:=by
 obtain⟨h1,b,cap,h2,h3,h3',h4⟩:=h
 exact⟨h1,b,cap,h2,h3,h3',fun j hj=>k.old (h4 j hj)⟩
theorem Big.gb{w w':World}{v:Value}{n N:Nat}(h:Big w v n N)(k:Gb w w'):Big w' v n N:=⟨h.1,h.2.gb k⟩
theorem Raw.alloc{w:World}{v:Value}{n N:Nat}(h:Raw w v n N)(o:Obj):Raw (w.alloc o) v n N:=h.gb ((Gb.refl w).alloc o)
theorem Big.alloc{w:World}{v:Value}{n N:Nat}(h:Big w v n N)(o:Obj):Big (w.alloc o) v n N:=h.gb ((Gb.refl w).alloc o)
def Own(w:World)(base:Nat)(v:Value)(n N:Nat):Prop:=w.ownsRow base 179 1 v n (IV n N)∧v≠ .slice none 0 0
theorem Own.raw{w:World}{base:Nat}{v:Value}{n N:Nat}(h:Own w base v n N)(hN:N<4294967296^n):Raw w v n N:=by
 obtain⟨⟨h1,h2⟩,h3⟩:=h
 rcases h2 with⟨rfl,_⟩|⟨g,cap,cur,rfl,hb,hh,hc,hm,hs,ht⟩
 ·exact absurd rfl h3
 ·refine⟨hN,g,cap,rfl,hc,hm,fun j hj=>?_⟩
  have e:cur.toList[j]?=some (.int .u32 (dg N j:Int)):=by
   rw[←uq n N j hj,←ht,List.getElem?_take_of_lt (by omega)]
  simp only[Array.getElem?_toList]at e
  simp[World.cell?,hh,e]
theorem Own.alloc{w:World}{base:Nat}{v:Value}{n N:Nat}(h:Own w base v n N)(o:Obj):Own (w.alloc o) base v n N:=⟨h.1.alloc o,h.2⟩
theorem Own.drew{w:World}{base:Nat}{v:Value}{n N:Nat}(h:Own w base v n N):Own w.drew base v n N:=⟨h.1.drew,h.2⟩
theorem Gt:(Tryz.prog.info? 179).map (fun i=>(i.zero,i.size,i.bytes))=some (some (.int .u32 0),1,4):=by kernel_rfl
theorem bF{w:World}{ops:Array Oper}{rest:List Oper}{o:Oper}{a:Act}{Q:Exit→Act→World→Prop}(hgd:o.guard=none)(s x:Operand)
  (ho:o.op=.call {callee:=.builtin .append,args:=#[s,x],argTypes:=#[94,94]})
  (base n N:Nat) (v:Value) (b:Nat) (hs:a.eval s=v) (hown:Own w base v n N) (hx:a.eval x=.slice (some ⟨b,0,none⟩) 1 1)
  (hc:w.cell? ⟨b,0,none⟩=some (.int .u32 (dg N n:Int))) (hn:n≤1000000000) (hbase:base≤w.heap.size)
  (h:∀v' w',Own w' base v' (n+1) N→Below base w w'→wpList Tryz.prog ops Q rest (a.put o.dst v') w'):wpList Tryz.prog ops Q (o::rest) a w:=by
 obtain⟨i0,hi,hz0,hz1,hz2⟩:=info_parts Gt
 refine wpList_append_own _ hgd s x 94 ho base 179 i0 (.int .u32 0) 1 4 Tryz.underlying94 hi hz0 hz1 hz2 rfl (by decide) v n (IV n N) hs hown.1 ⟨b,0,none⟩ 1 1 [.int .u32 (dg N n:Int)] hx rfl ?_ ?_ (by unfold maxLen;omega) (by omega) hbase ?_
 ·intro j u hj
  match j,hj with
  |0,hj=>simp at hj;subst hj;simpa[Addr.add]using hc
 ·intro u hu;simp at hu;subst hu;rfl
 ·intro v' w' hown' hgrow hnil
  refine h v' w' ⟨by rw[Sj];exact hown',fun e=>?_⟩ ?_
  ·exact absurd (hnil.mp e).1 hown.2
  ·refine(Below.refl base w).grown hgrow hbase ?_
   intro k hk
   exact(hown.1.lt k hk).1
theorem Gb.pz{W w:World}(h:Gb W w){b o:Nat}{v:Value}(hv:W.cell? ⟨b,o,none⟩=some v)(hz:W.frozen? ⟨b,o,none⟩=false):w.frozen? ⟨b,o,none⟩=false:=h.fz (au hv) hz
theorem jT{v:Value}{n N:Nat}{w:World}(h:Raw w v n N)(hn:n≤1000000000):
  CT 200 #[v] w fun e w'=>∃v' k,e=.returned v'∧w=w'∧Big w v' k N∧k≤n:=by
 obtain⟨hN,b,cap,rfl,hcap,hmx,hcell⟩:=h
 have D9:cap≤9223372036854775807:=hmx
 have HC:Hid _:=hcell
 have HN:Hid _:=hN
 have HM:Hid _:=hmx
 clear hcell hN hmx
 go_enter func200,ntmps200
 go_wp2
 go_loop [3] (fun i=>∃k:Nat,k≤n∧i=.int .i64 k∧Hid (N<4294967296^k)) (fun i=>(intOf i).toNat)
 case atStart=>exact⟨n,Nat.le_refl _,rfl,HN.out⟩
 case round=>
  obtain⟨k,hk,rfl,HK⟩:=hrel
  rcases Nat.eq_zero_or_pos k with rfl|hpos
  ·have HF:Hid (Big w (.slice (some ⟨b,0,none⟩) 0 cap) 0 N):=⟨⟨HK.out,.inl rfl⟩,HK.out,b,cap,rfl,Nat.zero_le _,HM.out,fun j hj=>by omega⟩
   go_wp2
   go_returns
   exact⟨_,rfl,rfl,_,HF.out,by omega⟩
  ·obtain⟨j,rfl⟩:∃j,k=j+1:=⟨k-1,by omega⟩
   have hc:w.cell? ⟨b,j,none⟩=some (.int .u32 (dg N j:Int)):=HC.out j (by omega)
   have hjj:((j+1:Nat):Int)-1=(j:Int):=by omega
   by_cases hz:dg N j=0
   ·have HL:Hid _:=Cm HK.out hz
    have hz2:((dg N j:Nat):Int)=0:=by omega
    rw[hz2]at hc
    clear hz hz2
    go_wp2
    go_round
    case rel=>exact⟨j,by omega,by go_num,HL.out⟩
    case measure=>simp[intOf]<;>omega
   ·have hz2:(((dg N j:Nat):Int)==0)=false:=by simp;omega
    have HF:Hid (Big w (.slice (some ⟨b,0,none⟩) (j+1) cap) (j+1) N):=⟨⟨HK.out,.inr (GN hz)⟩,HK.out,b,cap,rfl,by omega,HM.out,fun i hi=>HC.out i (by omega)⟩
    clear hz
    go_wp2
    go_returns
    exact⟨_,rfl,rfl,_,HF.out,by omega⟩
theorem aDf(W:Nat)(h1:W<18446744073709551616)(w:World)(t:TypeId):
  Raw (w.alloc (Obj.cells #[Value.int IntKind.u32 ((W:Int)%4294967296),Value.int IntKind.u32 ((W:Int)/4294967296)] t)) (.slice (some ⟨w.heap.size,0,none⟩) 2 2) 2 W:=by
 refine⟨by omega,w.heap.size,2,rfl,by omega,by decide,fun j hj=>?_⟩
 match j,hj with
 |0,_=>
  have e:((dg W 0:Nat):Int)=(W:Int)%4294967296:=by unfold dg;simp
  rw[e];simp[go_sem]
 |1,_=>
  have e:((dg W 1:Nat):Int)=(W:Int)/4294967296:=by unfold dg;rw[Nat.pow_one];omega
  rw[e];simp[go_sem]
theorem dU(W:Nat)(h1:W<18446744073709551616)(w:World):
  CT 150 #[.int .u64 W] w fun e w'=>∃v' k,e=.returned v'∧Big w' v' k W∧k≤2∧Gb w w':=by
 go_enter func150,ntmps150
 go_wp2_with (go_at_call 200;refine(jT (aDf W h1 w _) (by omega)).mono ?_;rintro e w' ⟨v',k,rfl,hw,hbig,hk⟩;rw[←hw];clear hw)
 go_returns
 exact⟨_,_,rfl,hbig,hk,(Gb.refl w).alloc _⟩
theorem wG{v:Value}{n N:Nat}{w:World}(h:Big w v n N)(hn:n≤1000000000):
  QW 152 #[v] w (.int .i64 (nb N)):=by
 obtain⟨hnm,hN,b,cap,rfl,hcap,hmx,hcell⟩:=h
 rcases Nat.eq_zero_or_pos n with rfl|hpos
 ·have e:nb N=0:=by rw[hnm.zero];rfl
  rw[e]
  clear hcell hnm hN e
  go_enter func152,ntmps152
  go_wp2
  go_ret
  exact⟨rfl,rfl⟩
 ·obtain⟨m,rfl⟩:∃m,n=m+1:=⟨n-1,by omega⟩
  obtain⟨ht,hne⟩:=aAJ hnm
  have hc:w.cell? ⟨b,m,none⟩=some (.int .u32 (dg N m:Int)):=hcell m (by omega)
  have hd:=iJ N m
  have h32:nb (dg N m)≤32:=nT (by simpa using hd)
  have HT:Hid _:=ht
  generalize dg N m=t at*
  have hmm:((m+1:Nat):Int)-1=(m:Int):=by omega
  have hm0:(((m+1:Nat):Int)==0)=false:=by simp;omega
  clear hcell hnm hN ht hne
  go_enter func152,ntmps152
  go_wp2
  go_loop [3,4] (fun i u=>∃k s:Nat,i=.int .i64 (((m:Int)*32+k:Int))∧u=.int .u32 s∧Hid (nb t=k+nb s)∧k≤32∧s<4294967296) (fun _ u=>(intOf u).toNat)
  case atStart=>exact⟨0,t,by go_num,rfl,by show _=_;omega,by omega,hd⟩
  case round=>
   obtain⟨k,s,rfl,rfl,HB,hk,hs⟩:=hrel
   rcases Nat.eq_zero_or_pos s with rfl|spos
   ·have e:(m:Int)*32+k=(nb N:Int):=by
     have:=HB.out;have:=HT.out;rw[yx]at*;omega
    have E:Hid _:=e
    clear e
    go_wp2
    go_returns
    exact⟨aU (congrArg (Value.int IntKind.i64) E.out),rfl⟩
   ·have hh:=DK s spos
    have HH:Hid (nb t=(k+1)+nb (s/2)):=by show _=_;have:=HB.out;omega
    have hk1:k+1≤32:=by have:=HH.out;omega
    have spos':(0:Int)<(s:Int):=by omega
    clear hh
    go_wp2
    go_round
    case rel=>exact⟨k+1,s/2,by go_num,by go_num,HH,hk1,by omega⟩
    case measure=>simp[intOf]<;>omega
theorem Kr{v:Value}{n N:Nat}{w:World}(h:Big w v n N)(hn:n≤1000000000):
  QW 202 #[v,.int .i64 0] w (.int .u32 ((N:Int)%2)):=by
 obtain⟨hnm,hN,b,cap,rfl,hcap,hmx,hcell⟩:=h
 rcases Nat.eq_zero_or_pos n with rfl|hpos
 ·have e:N=0:=hnm.zero
  subst e
  clear hcell hnm hN
  go_enter func202,ntmps202
  go_wp2
  go_returns
  exact⟨rfl,rfl⟩
 ·have hc:w.cell? ⟨b,0,none⟩=some (.int .u32 (dg N 0:Int)):=hcell 0 (by omega)
  have hd:((dg N 0:Nat):Int)%2=(N:Int)%2:=by unfold dg;simp only[Nat.pow_zero,Nat.div_one];omega
  have hl:=iJ N 0
  have HD:Hid _:=hd
  generalize dg N 0=t at*
  clear hcell hnm hN hd
  go_enter func202,ntmps202
  go_wp2
  go_returns
  first
   |exact⟨aU (congrArg (Value.int IntKind.u32) HD.out),rfl⟩
   |(refine⟨aU (congrArg (Value.int IntKind.u32) ?_),rfl⟩;have:=HD.out;simp;omega)
theorem zQ{v:Value}{n N:Nat}{w:World}(h:Big w v n N)(hn:n≤1000000000)(hW:N<18446744073709551616):
  QW 157 #[v] w (.int .u64 N):=by
 obtain⟨hnm,hN,b,cap,rfl,hcap,hmx,hcell⟩:=h
 have HC:Hid _:=hcell
 have HN:Hid _:=hN
 clear hcell hnm hN
 go_enter func157,ntmps157
 go_wp2
 go_loop [3,4] (fun u i=>∃(j W:Nat),j≤n∧u=.int .u64 W∧i=.int .i64 ((j:Int)-1)∧Hid (W=N/4294967296^j)) (fun _ i=>(intOf i+1).toNat)
 case atStart=>exact⟨n,0,Nat.le_refl _,rfl,by go_num,by show _=_;rw[Nat.div_eq_of_lt HN.out]⟩
 case round=>
  obtain⟨j,W,hj,rfl,rfl,HW⟩:=hrel
  rcases Nat.eq_zero_or_pos j with rfl|aDH
  ·have e:((W:Nat):Int)=(N:Int):=by have:=HW.out;simp at this;omega
   have E:Hid _:=e
   clear e
   go_wp2
   go_returns
   exact⟨aU (congrArg (Value.int IntKind.u64) E.out),rfl⟩
  ·obtain⟨i,rfl⟩:∃i,j=i+1:=⟨j-1,by omega⟩
   have hc:w.cell? ⟨b,i,none⟩=some (.int .u32 (dg N i:Int)):=HC.out i (by omega)
   have hs:=Ot N i
   have hd:=iJ N i
   have hle:=Nat.div_le_self N (4294967296^i)
   rw[←HW.out]at hs
   have HS:Hid _:=hs
   have hb:W*4294967296+dg N i<18446744073709551616:=by omega
   have hjj:((i+1:Nat):Int)-1=(i:Int):=by omega
   clear hs hle
   generalize dg N i=t at*
   go_wp2
   go_round
   case rel=>exact⟨i,W*4294967296+t,by omega,by go_num,by go_num,HS.out⟩
   case measure=>simp[intOf]<;>omega
theorem Zr{P:Prop}(h:P:=by
 subst e
 have hne:((n:Int)==(n':Int))=false:=by simp;omega
 clear hcell hcell' hN hN' h hz
 go_enter func129,ntmps129
 go_wp2
 go_returns
 exact⟨rfl,Gb.refl w⟩):P:=h
def eG(a b:Nat):Int:=if a<b then-1 else if b<a then 1 else 0
theorem Kq{b cap n N b' cap' n' N':Nat}{z:Int}{w:World}(hn:n≤1000000)(hN:Nm n N)(hn':n'≤1000000)(hN':Nm n' N')
  (hcell:∀j,j<n→w.cell? ⟨b,j,none⟩=some (.int .u32 (dg N j:Int))) (hcap:n≤cap) (hcell':∀j,j<n'→w.cell? ⟨b',j,none⟩=some (.int .u32 (dg N' j:Int))) (hcap':n'≤cap') (hz:z=eG N N'):
  CT 129 #[.slice (some ⟨b,0,none⟩) n cap,.slice (some ⟨b',0,none⟩) n' cap'] w fun e w'=>e=.returned (.int .i64 z)∧Gb w w':=by
 rcases Nat.lt_trichotomy n n' with hl|hl|hl
 ·have h:=hN.lt hN' hl
  have e:z=-1:=by rw[hz];unfold eG;rw[if_pos h]
  exact Zr
 ·subst hl
  have HC:Hid _:=hcell
  have Rx:Hid _:=hcell'
  have HZ:Hid _:=hz
  have HN:Hid _:=(⟨hN.1,hN'.1⟩:N<4294967296^n∧N'<4294967296^n)
  clear hcell hcell' hz hN hN'
  go_enter func129,ntmps129
  go_wp2
  go_loopw [5] (fun i wr=>∃j:Nat,j≤n∧i=.int .i64 ((j:Int)-1)∧Hid (N/4294967296^j=N'/4294967296^j)∧Gb w wr) (fun i _=>(intOf i+1).toNat)
  case atStart=>exact⟨n,Nat.le_refl _,by go_num,by show _=_;rw[Nat.div_eq_of_lt HN.out.1,Nat.div_eq_of_lt HN.out.2],Gb.refl w⟩
  case round=>
   obtain⟨j,hj,rfl,HE,hgb⟩:=hrel
   have HG:Hid _:=hgb
   clear hgb
   rcases Nat.eq_zero_or_pos j with rfl|aDH
   ·have e:(0:Int)=z:=by
     have:=HE.out
     simp at this
     rw[HZ.out,this];unfold eG;rw[if_neg (by omega),if_neg (by omega)]
    subst e
    go_wp2
    go_returns
    exact⟨rfl,HG.out⟩
   ·obtain⟨i,rfl⟩:∃i,j=i+1:=⟨j-1,by omega⟩
    have hc:wr.cell? ⟨b,i,none⟩=some (.int .u32 (dg N i:Int)):=Gb.old HG.out (HC.out i (by omega))
    have hc':wr.cell? ⟨b',i,none⟩=some (.int .u32 (dg N' i:Int)):=Gb.old HG.out (Rx.out i (by omega))
    have hjj:((i+1:Nat):Int)-1=(i:Int):=by omega
    have hi1:(i:Int)<(n:Int):=by omega
    obtain⟨m1,m2,m3⟩:=Yt HE.out
    rcases Nat.lt_trichotomy (dg N i) (dg N' i)with c|c|c
    ·have e:(-1:Int)=z:=by rw[HZ.out];unfold eG;rw[if_pos (m1 c)]
     subst e
     have c':(dg N i:Int)<(dg N' i:Int):=by omega
     clear m1 m2 m3 HE
     generalize dg N i=t at*
     generalize dg N' i=t' at*
     go_wp2
     go_region
     all_goals (try go_wp2)
     all_goals go_returns
     all_goals first|exact⟨rfl,HG.out⟩|exact⟨rfl,Gb.drew HG.out⟩|exact⟨rfl,Gb.drew (Gb.drew HG.out)⟩
    ·have HE2:Hid _:=m3 c
     have c':(dg N i:Int)=(dg N' i:Int):=by omega
     rw[←c']at hc'
     clear m1 m2 m3 HE c c'
     generalize dg N i=t at*
     go_wp2
     go_region
     all_goals (try go_wp2)
     all_goals go_region
     all_goals (try go_wp2)
     all_goals go_roundw
     all_goals first
      |exact⟨i,by omega,by go_num,HE2.out,HG.out⟩
      |exact⟨i,by omega,by go_num,HE2.out,Gb.drew HG.out⟩
      |exact⟨i,by omega,by go_num,HE2.out,Gb.drew (Gb.drew HG.out)⟩
      |(simp[intOf]<;>omega)
    ·have e:(1:Int)=z:=by rw[HZ.out];unfold eG;rw[if_neg (by have:=m2 c;omega),if_pos (m2 c)]
     subst e
     have c':(dg N' i:Int)<(dg N i:Int):=by omega
     clear m1 m2 m3 HE
     generalize dg N i=t at*
     generalize dg N' i=t' at*
     go_wp2
     go_region
     all_goals (try go_wp2)
     all_goals go_region
     all_goals (try go_wp2)
     all_goals go_returns
     all_goals first|exact⟨rfl,HG.out⟩|exact⟨rfl,Gb.drew HG.out⟩|exact⟨rfl,Gb.drew (Gb.drew HG.out)⟩
 ·have h:=hN'.lt hN hl
  have e:z=1:=by rw[hz];unfold eG;rw[if_neg (by omega),if_pos h]
  exact Zr
theorem gY{v v2:Value}{n N n' N':Nat}{w:World}(h:Big w v n N)(hn:n≤1000000)(h':Big w v2 n' N')(hn':n'≤1000000):
  CT 129 #[v,v2] w fun e w'=>e=.returned (.int .i64 (eG N N'))∧Gb w w':=by
 obtain⟨hnm,hN,b,cap,rfl,hcap,hmx,hcell⟩:=h
 obtain⟨hnm',hN',b',cap',rfl,hcap',D9,hcell'⟩:=h'
 exact Kq hn hnm hn' hnm' hcell hcap hcell' hcap' rfl
abbrev KB(F:Nat)(xs:Array Value)(v:Value):Prop:=Hid (∀w,Calls Tryz.prog F xs w fun e w'=>e=.returned v∧Gb w w')
abbrev QB(F:Nat)(xs:Array Value)(w:World)(v:Value):Prop:=Calls Tryz.prog F xs w fun e w'=>e=.returned v∧Gb w w'
theorem Gr.c{W w:World}(h:Gr W w){b o:Nat}{v:Value}(k:W.cell? ⟨b,o,none⟩=some v:=by(repeat' (first|(with_reducible assumption)|(with_reducible refine kW (by with_reducible assumption))|(with_reducible refine Gr.old (by with_reducible assumption) ?_)|(with_reducible refine jW _ ?_ (by with_reducible assumption);omega)|(with_reducible refine dh ?_)|(with_reducible refine mJ (by with_reducible assumption) ?_)|(with_reducible refine has_set ?_)|(with_reducible refine aS ?_ ?_;omega)|(with_reducible refine bW ?_ ?_;(dsimp only;omega))|(simp[go_sem];done)|(simp[go_sem];rfl)|(with_reducible refine dH _ ?_)|(with_reducible refine dV ?_)|(with_reducible refine jg _ ?_)|(with_reducible refine bD (by with_reducible assumption) ?_)|(with_reducible refine fH ?_)|(with_reducible refine lX ?_)|(with_reducible refine iE ?_)))):w.cell? ⟨b,o,none⟩=some v:=h.old k
theorem Gr.z{W w:World}(h:Gr W w){b o:Nat}(k:W.frozen? ⟨b,o,none⟩=false:=by(repeat' (first|(with_reducible assumption)|(with_reducible refine kW (by with_reducible assumption))|(with_reducible refine Gr.old (by with_reducible assumption) ?_)|(with_reducible refine jW _ ?_ (by with_reducible assumption);omega)|(with_reducible refine dh ?_)|(with_reducible refine mJ (by with_reducible assumption) ?_)|(with_reducible refine has_set ?_)|(with_reducible refine aS ?_ ?_;omega)|(with_reducible refine bW ?_ ?_;(dsimp only;omega))|(simp[go_sem];done)|(simp[go_sem];rfl)|(with_reducible refine dH _ ?_)|(with_reducible refine dV ?_)|(with_reducible refine jg _ ?_)|(with_reducible refine bD (by with_reducible assumption) ?_)|(with_reducible refine fH ?_)|(with_reducible refine lX ?_)|(with_reducible refine iE ?_)))):w.frozen? ⟨b,o,none⟩=false:=bD h k
theorem Gb.c{W w:World}(h:Gb W w){b o:Nat}{v:Value}(k:W.cell? ⟨b,o,none⟩=some v:=by(repeat' (first|(with_reducible assumption)|(with_reducible refine kW (by with_reducible assumption))|(with_reducible refine Gr.old (by with_reducible assumption) ?_)|(with_reducible refine Gb.old (by with_reducible assumption) ?_)|(with_reducible refine jW _ ?_ (by with_reducible assumption);omega)|(with_reducible refine dh ?_)|(with_reducible refine mJ (by with_reducible assumption) ?_)|(with_reducible refine has_set ?_)|(with_reducible refine aS ?_ ?_;omega)|(with_reducible refine bW ?_ ?_;(dsimp only;omega))|(simp[go_sem];done)|(simp[go_sem];rfl)|(with_reducible refine dH _ ?_)|(with_reducible refine dV ?_)|(with_reducible refine jg _ ?_)|(with_reducible refine bD (by with_reducible assumption) ?_)|(with_reducible refine Gb.pz (by with_reducible assumption) (by first|(with_reducible assumption)|(with_reducible exact dV (by with_reducible assumption))) ?_)|(with_reducible refine Gb.fz (by with_reducible assumption) ?_ ?_)|go_size|(with_reducible refine fH ?_)|(with_reducible refine lX ?_)|(with_reducible refine iE ?_)))):w.cell? ⟨b,o,none⟩=some v:=h.old k
theorem Gb.z{W w:World}(h:Gb W w){b o:Nat}{v:Value}(hv:w.cell? ⟨b,o,none⟩=some v)(k0:W.cell? ⟨b,o,none⟩=some v:=by(repeat' (first|(with_reducible assumption)|(with_reducible refine kW (by with_reducible assumption))|(with_reducible refine Gr.old (by with_reducible assumption) ?_)|(with_reducible refine Gb.old (by with_reducible assumption) ?_)|(with_reducible refine jW _ ?_ (by with_reducible assumption);omega)|(with_reducible refine dh ?_)|(with_reducible refine mJ (by with_reducible assumption) ?_)|(with_reducible refine has_set ?_)|(with_reducible refine aS ?_ ?_;omega)|(with_reducible refine bW ?_ ?_;(dsimp only;omega))|(simp[go_sem];done)|(simp[go_sem];rfl)|(with_reducible refine dH _ ?_)|(with_reducible refine dV ?_)|(with_reducible refine jg _ ?_)|(with_reducible refine bD (by with_reducible assumption) ?_)|(with_reducible refine Gb.pz (by with_reducible assumption) (by first|(with_reducible assumption)|(with_reducible exact dV (by with_reducible assumption))) ?_)|(with_reducible refine Gb.fz (by with_reducible assumption) ?_ ?_)|go_size|(with_reducible refine fH ?_)|(with_reducible refine lX ?_)|(with_reducible refine iE ?_))))(k:W.frozen? ⟨b,o,none⟩=false:=by(repeat' (first|(with_reducible assumption)|(with_reducible refine kW (by with_reducible assumption))|(with_reducible refine Gr.old (by with_reducible assumption) ?_)|(with_reducible refine Gb.old (by with_reducible assumption) ?_)|(with_reducible refine jW _ ?_ (by with_reducible assumption);omega)|(with_reducible refine dh ?_)|(with_reducible refine mJ (by with_reducible assumption) ?_)|(with_reducible refine has_set ?_)|(with_reducible refine aS ?_ ?_;omega)|(with_reducible refine bW ?_ ?_;(dsimp only;omega))|(simp[go_sem];done)|(simp[go_sem];rfl)|(with_reducible refine dH _ ?_)|(with_reducible refine dV ?_)|(with_reducible refine jg _ ?_)|(with_reducible refine bD (by with_reducible assumption) ?_)|(with_reducible refine Gb.pz (by with_reducible assumption) (by first|(with_reducible assumption)|(with_reducible exact dV (by with_reducible assumption))) ?_)|(with_reducible refine Gb.fz (by with_reducible assumption) ?_ ?_)|go_size|(with_reducible refine fH ?_)|(with_reducible refine lX ?_)|(with_reducible refine iE ?_)))):w.frozen? ⟨b,o,none⟩=false:=h.pz k0 k
theorem Gr.g{W w:World}(h:Gr W w:=by(repeat' (first|(with_reducible assumption)|(with_reducible exact Gr.refl _)|(with_reducible refine Gr.alloc ?_ _ _)|(with_reducible refine Gr.drew ?_)|(with_reducible refine Gr.setCell ?_ ?_ _)|(with_reducible refine Gr.trans ?_ (by with_reducible assumption))|go_size))):Gr W w:=h
theorem Gb.g{W w:World}(h:Gb W w:=by(repeat' (first|(with_reducible assumption)|(with_reducible exact Gb.refl _)|(with_reducible exact Hid.out (by with_reducible assumption))|(with_reducible refine Gb.alloc ?_ _)|(with_reducible refine Gb.drew ?_)|(with_reducible refine Gb.setCell ?_ ?_ _)|(with_reducible refine Gb.trans ?_ (by with_reducible assumption))|(with_reducible refine Gb.trans ?_ (Gr.gb (by with_reducible assumption)))|go_size))):Gb W w:=h
theorem Gb.hs{W w:World}(h:Gb W w){b o:Nat}(hv:(W.cell? ⟨b,o,none⟩).isSome =true):(w.cell? ⟨b,o,none⟩).isSome =true:=by
 obtain⟨v,hv⟩:=Option.isSome_iff_exists.mp hv
 exact kW (h.old hv)
theorem Gb.fh{W w:World}(h:Gb W w){b o:Nat}(hv:(W.cell? ⟨b,o,none⟩).isSome =true)(hz:W.frozen? ⟨b,o,none⟩=false):w.frozen? ⟨b,o,none⟩=false:=by
 obtain⟨v,hv⟩:=Option.isSome_iff_exists.mp hv
 exact h.pz hv hz
theorem Gr.a{W w:World}(h:Gr W w){b o:Nat}{v:Value}(k:W.cell? ⟨b,o,none⟩=some v:=by(repeat' (first|(with_reducible assumption)|(with_reducible refine kW (by with_reducible assumption))|(with_reducible refine Gr.old (by with_reducible assumption) ?_)|(with_reducible refine jW _ ?_ (by with_reducible assumption);omega)|(with_reducible refine dh ?_)|(with_reducible refine mJ (by with_reducible assumption) ?_)|(with_reducible refine has_set ?_)|(with_reducible refine aS ?_ ?_;omega)|(with_reducible refine bW ?_ ?_;(dsimp only;omega))|(simp[go_sem];done)|(simp[go_sem];rfl)|(with_reducible refine dH _ ?_)|(with_reducible refine dV ?_)|(with_reducible refine jg _ ?_)|(with_reducible refine bD (by with_reducible assumption) ?_)|(with_reducible refine fH ?_)|(with_reducible refine lX ?_)|(with_reducible refine iE ?_))))(ob:Obj):(w.alloc ob).cell? ⟨b,o,none⟩=some v:=dH ob (h.old k)
theorem Gr.e1{W w:World}(h:Gr W w)(b i:Nat)(v:Value)(k:W.cell? ⟨b,i,none⟩=some v:=by exact kl):w.cell? ⟨b,i,none⟩=some v:=h.old k
theorem Gr.y1{W w:World}(h:Gr W w)(b i0:Nat)(v0:Value)(k:KF1 W b i0 v0:=by exact⟨kl,kl⟩):KF1 w b i0 v0:=⟨h.old k.1,bD h k.2⟩
theorem Gr.e2{W w:World}(h:Gr W w)(b i0 i1:Nat)(v0 v1:Value)(k:AZ W b i0 i1 v0 v1:=by exact⟨kl,kl⟩):AZ w b i0 i1 v0 v1:=⟨h.old k.1,h.old k.2⟩
theorem Gr.y2{W w:World}(h:Gr W w)(b i0 i1:Nat)(v0 v1:Value)(k:kJ W b i0 i1 v0 v1:=by exact⟨kl,kl,kl,kl⟩):kJ w b i0 i1 v0 v1:=⟨h.old k.1,bD h k.2.1,h.old k.2.2.1,bD h k.2.2.2⟩
theorem Gr.e3{W w:World}(h:Gr W w)(b i0 i1 i2:Nat)(v0 v1 v2:Value)(k:qo W b i0 i1 i2 v0 v1 v2:=by exact⟨kl,kl,kl⟩):qo w b i0 i1 i2 v0 v1 v2:=⟨h.old k.1,h.old k.2.1,h.old k.2.2⟩
theorem Gr.y3{W w:World}(h:Gr W w)(b i0 i1 i2:Nat)(v0 v1 v2:Value)(k:KF3 W b i0 i1 i2 v0 v1 v2:=by exact⟨kl,kl,kl,kl,kl,kl⟩):KF3 w b i0 i1 i2 v0 v1 v2:=⟨h.old k.1,bD h k.2.1,h.old k.2.2.1,bD h k.2.2.2.1,h.old k.2.2.2.2.1,bD h k.2.2.2.2.2⟩
theorem Gr.e4{W w:World}(h:Gr W w)(b i0 i1 i2 i3:Nat)(v0 v1 v2 v3:Value)(k:rW W b i0 i1 i2 i3 v0 v1 v2 v3:=by exact⟨kl,kl,kl,kl⟩):rW w b i0 i1 i2 i3 v0 v1 v2 v3:=⟨h.old k.1,h.old k.2.1,h.old k.2.2.1,h.old k.2.2.2⟩
theorem Gr.y4{W w:World}(h:Gr W w)(b i0 i1 i2 i3:Nat)(v0 v1 v2 v3:Value)(k:yt W b i0 i1 i2 i3 v0 v1 v2 v3:=by exact⟨kl,kl,kl,kl,kl,kl,kl,kl⟩):yt w b i0 i1 i2 i3 v0 v1 v2 v3:=⟨h.old k.1,bD h k.2.1,h.old k.2.2.1,bD h k.2.2.2.1,h.old k.2.2.2.2.1,bD h k.2.2.2.2.2.1,h.old k.2.2.2.2.2.2.1,bD h k.2.2.2.2.2.2.2⟩
theorem Gr.e5{W w:World}(h:Gr W w)(b i0 i1 i2 i3 i4:Nat)(v0 v1 v2 v3 v4:Value)(k:BR W b i0 i1 i2 i3 i4 v0 v1 v2 v3 v4:=by exact⟨kl,kl,kl,kl,kl⟩):BR w b i0 i1 i2 i3 i4 v0 v1 v2 v3 v4:=⟨h.old k.1,h.old k.2.1,h.old k.2.2.1,h.old k.2.2.2.1,h.old k.2.2.2.2⟩
theorem Gr.y5{W w:World}(h:Gr W w)(b i0 i1 i2 i3 i4:Nat)(v0 v1 v2 v3 v4:Value)(k:KF5 W b i0 i1 i2 i3 i4 v0 v1 v2 v3 v4:=by exact⟨kl,kl,kl,kl,kl,kl,kl,kl,kl,kl⟩):KF5 w b i0 i1 i2 i3 i4 v0 v1 v2 v3 v4:=⟨h.old k.1,bD h k.2.1,h.old k.2.2.1,bD h k.2.2.2.1,h.old k.2.2.2.2.1,bD h k.2.2.2.2.2.1,h.old k.2.2.2.2.2.2.1,bD h k.2.2.2.2.2.2.2.1,h.old k.2.2.2.2.2.2.2.2.1,bD h k.2.2.2.2.2.2.2.2.2⟩
theorem Gr.e6{W w:World}(h:Gr W w)(b i0 i1 i2 i3 i4 i5:Nat)(v0 v1 v2 v3 v4 v5:Value)(k:KE6 W b i0 i1 i2 i3 i4 i5 v0 v1 v2 v3 v4 v5:=by exact⟨kl,kl,kl,kl,kl,kl⟩):KE6 w b i0 i1 i2 i3 i4 i5 v0 v1 v2 v3 v4 v5:=⟨h.old k.1,h.old k.2.1,h.old k.2.2.1,h.old k.2.2.2.1,h.old k.2.2.2.2.1,h.old k.2.2.2.2.2⟩
theorem Gr.y6{W w:World}(h:Gr W w)(b i0 i1 i2 i3 i4 i5:Nat)(v0 v1 v2 v3 v4 v5:Value)(k:KF6 W b i0 i1 i2 i3 i4 i5 v0 v1 v2 v3 v4 v5:=by exact⟨kl,kl,kl,kl,kl,kl,kl,kl,kl,kl,kl,kl⟩):KF6 w b i0 i1 i2 i3 i4 i5 v0 v1 v2 v3 v4 v5:=⟨h.old k.1,bD h k.2.1,h.old k.2.2.1,bD h k.2.2.2.1,h.old k.2.2.2.2.1,bD h k.2.2.2.2.2.1,h.old k.2.2.2.2.2.2.1,bD h k.2.2.2.2.2.2.2.1,h.old k.2.2.2.2.2.2.2.2.1,bD h k.2.2.2.2.2.2.2.2.2.1,h.old k.2.2.2.2.2.2.2.2.2.2.1,bD h k.2.2.2.2.2.2.2.2.2.2.2⟩
theorem Gr.y7{W w:World}(h:Gr W w)(b i0 i1 i2 i3 i4 i5 i6:Nat)(v0 v1 v2 v3 v4 v5 v6:Value)(k:KF7 W b i0 i1 i2 i3 i4 i5 i6 v0 v1 v2 v3 v4 v5 v6:=by exact⟨kl,kl,kl,kl,kl,kl,kl,kl,kl,kl,kl,kl,kl,kl⟩):KF7 w b i0 i1 i2 i3 i4 i5 i6 v0 v1 v2 v3 v4 v5 v6:=⟨h.old k.1,bD h k.2.1,h.old k.2.2.1,bD h k.2.2.2.1,h.old k.2.2.2.2.1,bD h k.2.2.2.2.2.1,h.old k.2.2.2.2.2.2.1,bD h k.2.2.2.2.2.2.2.1,h.old k.2.2.2.2.2.2.2.2.1,bD h k.2.2.2.2.2.2.2.2.2.1,h.old k.2.2.2.2.2.2.2.2.2.2.1,bD h k.2.2.2.2.2.2.2.2.2.2.2.1,h.old k.2.2.2.2.2.2.2.2.2.2.2.2.1,bD h k.2.2.2.2.2.2.2.2.2.2.2.2.2⟩
theorem Gb.e1{W w:World}(h:Gb W w)(b i:Nat)(v:Value)(k:W.cell? ⟨b,i,none⟩=some v:=by exact kb):w.cell? ⟨b,i,none⟩=some v:=h.old k
theorem Gb.y1{W w:World}(h:Gb W w)(b i0:Nat)(v0:Value)(k:KF1 W b i0 v0:=by exact⟨kb,kb⟩):KF1 w b i0 v0:=⟨h.old k.1,h.pz k.1 k.2⟩
theorem Gb.e2{W w:World}(h:Gb W w)(b i0 i1:Nat)(v0 v1:Value)(k:AZ W b i0 i1 v0 v1:=by exact⟨kb,kb⟩):AZ w b i0 i1 v0 v1:=⟨h.old k.1,h.old k.2⟩
theorem Gb.y2{W w:World}(h:Gb W w)(b i0 i1:Nat)(v0 v1:Value)(k:kJ W b i0 i1 v0 v1:=by exact⟨kb,kb,kb,kb⟩):kJ w b i0 i1 v0 v1:=⟨h.old k.1,h.pz k.1 k.2.1,h.old k.2.2.1,h.pz k.2.2.1 k.2.2.2⟩
theorem Gb.e3{W w:World}(h:Gb W w)(b i0 i1 i2:Nat)(v0 v1 v2:Value)(k:qo W b i0 i1 i2 v0 v1 v2:=by exact⟨kb,kb,kb⟩):qo w b i0 i1 i2 v0 v1 v2:=⟨h.old k.1,h.old k.2.1,h.old k.2.2⟩
theorem Gb.y3{W w:World}(h:Gb W w)(b i0 i1 i2:Nat)(v0 v1 v2:Value)(k:KF3 W b i0 i1 i2 v0 v1 v2:=by exact⟨kb,kb,kb,kb,kb,kb⟩):KF3 w b i0 i1 i2 v0 v1 v2:=⟨h.old k.1,h.pz k.1 k.2.1,h.old k.2.2.1,h.pz k.2.2.1 k.2.2.2.1,h.old k.2.2.2.2.1,h.pz k.2.2.2.2.1 k.2.2.2.2.2⟩
theorem Gb.e4{W w:World}(h:Gb W w)(b i0 i1 i2 i3:Nat)(v0 v1 v2 v3:Value)(k:rW W b i0 i1 i2 i3 v0 v1 v2 v3:=by exact⟨kb,kb,kb,kb⟩):rW w b i0 i1 i2 i3 v0 v1 v2 v3:=⟨h.old k.1,h.old k.2.1,h.old k.2.2.1,h.old k.2.2.2⟩
theorem Gb.y4{W w:World}(h:Gb W w)(b i0 i1 i2 i3:Nat)(v0 v1 v2 v3:Value)(k:yt W b i0 i1 i2 i3 v0 v1 v2 v3:=by exact⟨kb,kb,kb,kb,kb,kb,kb,kb⟩):yt w b i0 i1 i2 i3 v0 v1 v2 v3:=⟨h.old k.1,h.pz k.1 k.2.1,h.old k.2.2.1,h.pz k.2.2.1 k.2.2.2.1,h.old k.2.2.2.2.1,h.pz k.2.2.2.2.1 k.2.2.2.2.2.1,h.old k.2.2.2.2.2.2.1,h.pz k.2.2.2.2.2.2.1 k.2.2.2.2.2.2.2⟩
theorem Gb.e5{W w:World}(h:Gb W w)(b i0 i1 i2 i3 i4:Nat)(v0 v1 v2 v3 v4:Value)(k:BR W b i0 i1 i2 i3 i4 v0 v1 v2 v3 v4:=by exact⟨kb,kb,kb,kb,kb⟩):BR w b i0 i1 i2 i3 i4 v0 v1 v2 v3 v4:=⟨h.old k.1,h.old k.2.1,h.old k.2.2.1,h.old k.2.2.2.1,h.old k.2.2.2.2⟩
theorem Gb.y5{W w:World}(h:Gb W w)(b i0 i1 i2 i3 i4:Nat)(v0 v1 v2 v3 v4:Value)(k:KF5 W b i0 i1 i2 i3 i4 v0 v1 v2 v3 v4:=by exact⟨kb,kb,kb,kb,kb,kb,kb,kb,kb,kb⟩):KF5 w b i0 i1 i2 i3 i4 v0 v1 v2 v3 v4:=⟨h.old k.1,h.pz k.1 k.2.1,h.old k.2.2.1,h.pz k.2.2.1 k.2.2.2.1,h.old k.2.2.2.2.1,h.pz k.2.2.2.2.1 k.2.2.2.2.2.1,h.old k.2.2.2.2.2.2.1,h.pz k.2.2.2.2.2.2.1 k.2.2.2.2.2.2.2.1,h.old k.2.2.2.2.2.2.2.2.1,h.pz k.2.2.2.2.2.2.2.2.1 k.2.2.2.2.2.2.2.2.2⟩
theorem Gb.e6{W w:World}(h:Gb W w)(b i0 i1 i2 i3 i4 i5:Nat)(v0 v1 v2 v3 v4 v5:Value)(k:KE6 W b i0 i1 i2 i3 i4 i5 v0 v1 v2 v3 v4 v5:=by exact⟨kb,kb,kb,kb,kb,kb⟩):KE6 w b i0 i1 i2 i3 i4 i5 v0 v1 v2 v3 v4 v5:=⟨h.old k.1,h.old k.2.1,h.old k.2.2.1,h.old k.2.2.2.1,h.old k.2.2.2.2.1,h.old k.2.2.2.2.2⟩
theorem Gb.y6{W w:World}(h:Gb W w)(b i0 i1 i2 i3 i4 i5:Nat)(v0 v1 v2 v3 v4 v5:Value)(k:KF6 W b i0 i1 i2 i3 i4 i5 v0 v1 v2 v3 v4 v5:=by exact⟨kb,kb,kb,kb,kb,kb,kb,kb,kb,kb,kb,kb⟩):KF6 w b i0 i1 i2 i3 i4 i5 v0 v1 v2 v3 v4 v5:=⟨h.old k.1,h.pz k.1 k.2.1,h.old k.2.2.1,h.pz k.2.2.1 k.2.2.2.1,h.old k.2.2.2.2.1,h.pz k.2.2.2.2.1 k.2.2.2.2.2.1,h.old k.2.2.2.2.2.2.1,h.pz k.2.2.2.2.2.2.1 k.2.2.2.2.2.2.2.1,h.old k.2.2.2.2.2.2.2.2.1,h.pz k.2.2.2.2.2.2.2.2.1 k.2.2.2.2.2.2.2.2.2.1,h.old k.2.2.2.2.2.2.2.2.2.2.1,h.pz k.2.2.2.2.2.2.2.2.2.2.1 k.2.2.2.2.2.2.2.2.2.2.2⟩
theorem Gb.y7{W w:World}(h:Gb W w)(b i0 i1 i2 i3 i4 i5 i6:Nat)(v0 v1 v2 v3 v4 v5 v6:Value)(k:KF7 W b i0 i1 i2 i3 i4 i5 i6 v0 v1 v2 v3 v4 v5 v6:=by exact⟨kb,kb,kb,kb,kb,kb,kb,kb,kb,kb,kb,kb,kb,kb⟩):KF7 w b i0 i1 i2 i3 i4 i5 i6 v0 v1 v2 v3 v4 v5 v6:=⟨h.old k.1,h.pz k.1 k.2.1,h.old k.2.2.1,h.pz k.2.2.1 k.2.2.2.1,h.old k.2.2.2.2.1,h.pz k.2.2.2.2.1 k.2.2.2.2.2.1,h.old k.2.2.2.2.2.2.1,h.pz k.2.2.2.2.2.2.1 k.2.2.2.2.2.2.2.1,h.old k.2.2.2.2.2.2.2.2.1,h.pz k.2.2.2.2.2.2.2.2.1 k.2.2.2.2.2.2.2.2.2.1,h.old k.2.2.2.2.2.2.2.2.2.2.1,h.pz k.2.2.2.2.2.2.2.2.2.2.1 k.2.2.2.2.2.2.2.2.2.2.2.1,h.old k.2.2.2.2.2.2.2.2.2.2.2.2.1,h.pz k.2.2.2.2.2.2.2.2.2.2.2.2.1 k.2.2.2.2.2.2.2.2.2.2.2.2.2⟩
theorem kh{P:Prop}(h:P:=by(repeat' (first|(with_reducible assumption)|(with_reducible refine kW (by with_reducible assumption))|(with_reducible refine Gr.old (by with_reducible assumption) ?_)|(with_reducible refine Gb.old (by with_reducible assumption) ?_)|(with_reducible refine Gb.hs (by with_reducible assumption) ?_)|(with_reducible refine mJ (by with_reducible assumption) ?_)|(with_reducible refine dh ?_)|(with_reducible refine has_set ?_)|(with_reducible refine aS ?_ ?_;omega)|(with_reducible refine bW ?_ ?_;(dsimp only;omega))|(simp[go_sem];done)|(with_reducible refine dH _ ?_)|(with_reducible refine dV ?_)|(with_reducible refine jg _ ?_)|(with_reducible refine bD (by with_reducible assumption) ?_)|(with_reducible refine Gb.fh (by with_reducible assumption) (by with_reducible assumption) ?_)|(with_reducible refine fH ?_)|(with_reducible refine lX ?_)|(with_reducible refine iE ?_)|go_size))):P:=h
