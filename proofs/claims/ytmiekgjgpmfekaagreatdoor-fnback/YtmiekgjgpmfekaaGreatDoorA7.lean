import Derived.Test.YtmiekgjgpmfekaaGreatDoorA1
import Derived.Test.YtmiekgjgpmfekaaGreatDoorRows
import Derived.Laws.OwnMore
import Derived.OwnWalk
import Derived.WalkLawsBesides
set_option linter.all false
set_option maxRecDepth 1000000
set_option maxHeartbeats 40000000
open Go.Proofs.Tryz
namespace Go.Proofs.YtmiekgjgpmfekaaGreatDoor
open Go.RowKit
variable{w W w':World}{v0 v1 v2 v3 v4 v v5 v6:Value}{b i0 i1 i2 i3 n N i4 o i5 base i6 n' N' cap b' cap':Nat}{ops:Array Oper}{rest:List Oper}{Q:Exit->Act->World->Prop}
def Gb(w w':World):Prop:=Below w.heap.size w w'
theorem Gr.gb(h:Gr w w'):Gb w w':=h.below
theorem Gb.refl(w:World):Gb w w:=Below.refl _ _
theorem Gb.size(h:Gb w w'):w.heap.size<=w'.heap.size:=Below.size h
theorem Gb.trans{a b c:World}(h:Gb a b)(k:Gb b c):Gb a c:=Below.trans h (Below.mono k h.size)
theorem Gb.alloc(h:Gb W w)(o:Obj):Gb W (w.alloc o):=Below.alloc h h.size o
theorem Gb.drew(h:Gb W w):Gb W w.drew:=Below.drew h
theorem Gb.setCell(h:Gb W w){a:Addr}(ha:W.heap.size<=a.block)(v:Value):Gb W (w.setCell a v):=Below.setCell h ha v
theorem Gb.below(h:Gb W w)(k:Below base w w')(hb:W.heap.size<=base):Gb W w':=Below.trans h (Below.mono k hb)
theorem Gb.old(h:Gb W w)(hv:W.cell? ⟨b,o,none⟩=some v):w.cell? ⟨b,o,none⟩=some v:=
 (Below.cell h (p:=⟨b,o,none⟩) (au hv)).trans hv
theorem Gb.fz(h:Gb W w)(hb:b<W.heap.size)(hz:W.frozen? ⟨b,o,none⟩=false):w.frozen? ⟨b,o,none⟩=false:=
 (Below.frozen h (p:=⟨b,o,none⟩) hb).trans hz
def Raw(w:World)(v:Value)(n N:Nat):Prop:=
 N<4294967296^n/\∃b cap,v=.slice (some ⟨b,0,none⟩) n cap/\n<=cap/\cap<=maxLen/\∀j,j<n->w.cell? ⟨b,j,none⟩=some (.int .u32 (dg N j:Int))
def Big(w:World)(v:Value)(n N:Nat):Prop:=Nm n N/\Raw w v n N
theorem Raw.gb(h:Raw w v n N)(k:Gb w w'):Raw w' v n N:=by
 obtain⟨h1,b,cap,h2,h3,h3',h4⟩:=h;exact⟨h1,b,cap,h2,h3,h3',fun j hj=>k.old (h4 j hj)⟩
theorem Big.gb(h:Big w v n N)(k:Gb w w'):Big w' v n N:=⟨h.1,h.2.gb k⟩
theorem Raw.alloc(h:Raw w v n N)(o:Obj):Raw (w.alloc o) v n N:=h.gb ((Gb.refl w).alloc o)
theorem Big.alloc(h:Big w v n N)(o:Obj):Big (w.alloc o) v n N:=h.gb ((Gb.refl w).alloc o)
def Own(w:World)(base:Nat)(v:Value)(n N:Nat):Prop:=w.ownsRow base 183 1 v n (KE n N)/\v≠ .slice none 0 0
theorem Own.raw(h:Own w base v n N)(hN:N<4294967296^n):Raw w v n N:=by
 obtain⟨⟨h1,h2⟩,h3⟩:=h;rcases h2 with⟨rfl,_⟩|⟨g,cap,cur,rfl,hb,hh,hc,hm,hs,ht⟩
 ·exact absurd rfl h3
 ·refine⟨hN,g,cap,rfl,hc,hm,fun j hj=>?_⟩;have e:cur.toList[j]?=some (.int .u32 (dg N j:Int)):=by
   rw[<-yI n N j hj,<-ht,List.getElem?_take_of_lt (by omega)]
  simp only[Array.getElem?_toList]at e;simp[World.cell?,hh,e]
theorem Own.alloc(h:Own w base v n N)(o:Obj):Own (w.alloc o) base v n N:=⟨h.1.alloc o,h.2⟩
theorem Own.drew(h:Own w base v n N):Own w.drew base v n N:=⟨h.1.drew,h.2⟩
theorem Nk:(Tryz.prog.info? 183).map (fun i=>(i.zero,i.size,i.bytes))=some (some (.int .u32 0),1,4):=by kernel_rfl
theorem dB{o:Oper}{a:Act}(hgd:o.guard=none)(s x:Operand)
  (ho:o.op=.call {callee:=.builtin .append,args:=#[s,x],argTypes:=#[107,107]})
  (base n N:Nat) (v:Value) (b:Nat) (hs:a.eval s=v) (hown:Own w base v n N) (hx:a.eval x=.slice (some ⟨b,0,none⟩) 1 1)
  (hc:w.cell? ⟨b,0,none⟩=some (.int .u32 (dg N n:Int))) (hn:n<=1000000000) (hbase:base<=w.heap.size)
  (h:∀v' w',Own w' base v' (n+1) N->Below base w w'->wpList Tryz.prog ops Q rest (a.put o.dst v') w'):wpList Tryz.prog ops Q (o::rest) a w:=by
 obtain⟨i0,hi,hz0,hz1,hz2⟩:=info_parts Nk;refine wpList_append_own _ hgd s x 107 ho base 183 i0 (.int .u32 0) 1 4 Tryz.underlying107 hi hz0 hz1 hz2 rfl (by decide) v n (KE n N) hs hown.1 ⟨b,0,none⟩ 1 1 [.int .u32 (dg N n:Int)] hx rfl ?_ ?_ (by unfold maxLen;omega) (by omega) hbase ?_
 ·intro j u hj
  match j,hj with
  |0,hj=>simp at hj;subst hj;simpa[Addr.add]using hc
 ·intro u hu;simp at hu;subst hu;rfl
 ·intro v' w' hown' hgrow hnil;refine h v' w' ⟨by rw[Xc];exact hown',fun e=>?_⟩ ?_
  ·exact absurd (hnil.mp e).1 hown.2
  ·refine(Below.refl base w).grown hgrow hbase ?_;intro k hk;exact(hown.1.lt k hk).1
theorem Gb.AQ(h:Gb W w)(hv:W.cell? ⟨b,o,none⟩=some v)(hz:W.frozen? ⟨b,o,none⟩=false):w.frozen? ⟨b,o,none⟩=false:=h.fz (au hv) hz
theorem jZ(h:Raw w v n N)(hn:n<=1000000000):
  CT 162 #[v] w fun e w'=>∃v' k,e=.returned v'/\w=w'/\Big w v' k N/\k<=n:=by
 obtain⟨hN,b,cap,rfl,hcap,hmx,hcell⟩:=h;have Jz:cap<=9223372036854775807:=hmx;have HC:Hid _:=hcell;have HN:Hid _:=hN;have HM:Hid _:=hmx;clear hcell hN hmx;go_enter func162,ntmps162;go_wp2;go_loop [3] (fun i=>∃k:Nat,k<=n/\i=.int .i64 k/\Hid (N<4294967296^k)) (fun i=>(intOf i).toNat)
 case atStart=>exact⟨n,Nat.le_refl _,rfl,HN.out⟩
 case round=>
  obtain⟨k,hk,rfl,HK⟩:=hrel;rcases Nat.eq_zero_or_pos k with rfl|hpos
  ·have HF:Hid (Big w (.slice (some ⟨b,0,none⟩) 0 cap) 0 N):=⟨⟨HK.out,.inl rfl⟩,HK.out,b,cap,rfl,Nat.zero_le _,HM.out,fun j hj=>by omega⟩;go_wp2;go_returns;exact⟨_,rfl,rfl,_,HF.out,by omega⟩
  ·obtain⟨j,rfl⟩:∃j,k=j+1:=⟨k-1,by omega⟩;have hc:w.cell? ⟨b,j,none⟩=some (.int .u32 (dg N j:Int)):=HC.out j (by omega);have hjj:((j+1:Nat):Int)-1=(j:Int):=by omega
   by_cases hz:dg N j=0
   ·have HL:Hid _:=He HK.out hz;have hz2:((dg N j:Nat):Int)=0:=by omega
    rw[hz2]at hc;clear hz hz2;go_wp2;go_round
    case rel=>exact⟨j,by omega,by go_num,HL.out⟩
    case measure=>simp[intOf]<;>omega
   ·have hz2:(((dg N j:Nat):Int)==0)=false:=by simp;omega
    have HF:Hid (Big w (.slice (some ⟨b,0,none⟩) (j+1) cap) (j+1) N):=⟨⟨HK.out,.inr (NC hz)⟩,HK.out,b,cap,rfl,by omega,HM.out,fun i hi=>HC.out i (by omega)⟩;clear hz;go_wp2;go_returns;exact⟨_,rfl,rfl,_,HF.out,by omega⟩
theorem aHZ(W:Nat)(h1:W<18446744073709551616)(w:World)(t:TypeId):
  Raw (w.alloc (Obj.cells #[Value.int IntKind.u32 ((W:Int)%4294967296),Value.int IntKind.u32 ((W:Int)/4294967296)] t)) (.slice (some ⟨w.heap.size,0,none⟩) 2 2) 2 W:=by
 refine⟨by omega,w.heap.size,2,rfl,by omega,by decide,fun j hj=>?_⟩
 match j,hj with
 |0,_=>
  have e:((dg W 0:Nat):Int)=(W:Int)%4294967296:=by unfold dg;simp
  rw[e];simp[go_sem]
 |1,_=>
  have e:((dg W 1:Nat):Int)=(W:Int)/4294967296:=by unfold dg;rw[Nat.pow_one];omega
  rw[e];simp[go_sem]
theorem fC(W:Nat)(h1:W<18446744073709551616)(w:World):
  CT 100 #[.int .u64 W] w fun e w'=>∃v' k,e=.returned v'/\Big w' v' k W/\k<=2/\Gb w w':=by
 go_enter func100,ntmps100;go_wp2_with (go_at_call 162;refine(jZ (aHZ W h1 w _) (by omega)).mono ?_;rintro e w' ⟨v',k,rfl,hw,hbig,hk⟩;rw[<-hw];clear hw);go_returns;exact⟨_,_,rfl,hbig,hk,(Gb.refl w).alloc _⟩
theorem Aw(h:Big w v n N)(hn:n<=1000000000):
  QW 147 #[v] w (.int .i64 (nb N)):=by
 obtain⟨hnm,hN,b,cap,rfl,hcap,hmx,hcell⟩:=h;rcases Nat.eq_zero_or_pos n with rfl|hpos
 ·have e:nb N=0:=by rw[hnm.zero];rfl
  rw[e];clear hcell hnm hN e;go_enter func147,ntmps147;go_wp2;go_ret;exact⟨rfl,rfl⟩
 ·obtain⟨m,rfl⟩:∃m,n=m+1:=⟨n-1,by omega⟩;obtain⟨ht,hne⟩:=aE3 hnm;have hc:w.cell? ⟨b,m,none⟩=some (.int .u32 (dg N m:Int)):=hcell m (by omega);have hd:=jf N m;have h32:nb (dg N m)<=32:=og (by simpa using hd);have HT:Hid _:=ht;generalize dg N m=t at*
  have hmm:((m+1:Nat):Int)-1=(m:Int):=by omega
  have hm0:(((m+1:Nat):Int)==0)=false:=by simp;omega
  clear hcell hnm hN ht hne;go_enter func147,ntmps147;go_wp2;go_loop [3,4] (fun i u=>∃k s:Nat,i=.int .i64 (((m:Int)*32+k:Int))/\u=.int .u32 s/\Hid (nb t=k+nb s)/\k<=32/\s<4294967296) (fun _ u=>(intOf u).toNat)
  case atStart=>exact⟨0,t,by go_num,rfl,by show _=_;omega,by omega,hd⟩
  case round=>
   obtain⟨k,s,rfl,rfl,HB,hk,hs⟩:=hrel;rcases Nat.eq_zero_or_pos s with rfl|spos
   ·have e:(m:Int)*32+k=(nb N:Int):=by
     have:=HB.out;have:=HT.out;rw[Dn]at*;omega
    have E:Hid _:=e;clear e;go_wp2;go_returns;exact⟨bJ (congrArg (Value.int IntKind.i64) E.out),rfl⟩
   ·have hh:=Jj s spos;have HH:Hid (nb t=(k+1)+nb (s/2)):=by show _=_;have:=HB.out;omega
    have hk1:k+1<=32:=by have:=HH.out;omega
    have spos':(0:Int)<(s:Int):=by omega
    clear hh;go_wp2;go_round
    case rel=>exact⟨k+1,s/2,by go_num,by go_num,HH,hk1,by omega⟩
    case measure=>simp[intOf]<;>omega
theorem QU(h:Big w v n N)(hn:n<=1000000000):
  QW 188 #[v,.int .i64 0] w (.int .u32 ((N:Int)%2)):=by
 obtain⟨hnm,hN,b,cap,rfl,hcap,hmx,hcell⟩:=h;rcases Nat.eq_zero_or_pos n with rfl|hpos
 ·have e:N=0:=hnm.zero;subst e;clear hcell hnm hN;go_enter func188,ntmps188;go_wp2;go_returns;exact⟨rfl,rfl⟩
 ·have hc:w.cell? ⟨b,0,none⟩=some (.int .u32 (dg N 0:Int)):=hcell 0 (by omega);have hd:((dg N 0:Nat):Int)%2=(N:Int)%2:=by unfold dg;simp only[Nat.pow_zero,Nat.div_one];omega
  have hl:=jf N 0;have HD:Hid _:=hd;generalize dg N 0=t at*
  clear hcell hnm hN hd;go_enter func188,ntmps188;go_wp2;go_returns;first
   |exact⟨bJ (congrArg (Value.int IntKind.u32) HD.out),rfl⟩
   |(refine⟨bJ (congrArg (Value.int IntKind.u32) ?_),rfl⟩;have:=HD.out;simp;omega)
theorem yg(h:Big w v n N)(hn:n<=1000000000)(hW:N<18446744073709551616):
  QW 152 #[v] w (.int .u64 N):=by
 obtain⟨hnm,hN,b,cap,rfl,hcap,hmx,hcell⟩:=h;have HC:Hid _:=hcell;have HN:Hid _:=hN;clear hcell hnm hN;go_enter func152,ntmps152;go_wp2;go_loop [3,4] (fun u i=>∃(j W:Nat),j<=n/\u=.int .u64 W/\i=.int .i64 ((j:Int)-1)/\Hid (W=N/4294967296^j)) (fun _ i=>(intOf i+1).toNat)
 case atStart=>exact⟨n,0,Nat.le_refl _,rfl,by go_num,by show _=_;rw[Nat.div_eq_of_lt HN.out]⟩
 case round=>
  obtain⟨j,W,hj,rfl,rfl,HW⟩:=hrel;rcases Nat.eq_zero_or_pos j with rfl|aIz
  ·have e:((W:Nat):Int)=(N:Int):=by have:=HW.out;simp at this;omega
   have E:Hid _:=e;clear e;go_wp2;go_returns;exact⟨bJ (congrArg (Value.int IntKind.u64) E.out),rfl⟩
  ·obtain⟨i,rfl⟩:∃i,j=i+1:=⟨j-1,by omega⟩;have hc:w.cell? ⟨b,i,none⟩=some (.int .u32 (dg N i:Int)):=HC.out i (by omega);have hs:=Uj N i;have hd:=jf N i;have hle:=Nat.div_le_self N (4294967296^i);rw[<-HW.out]at hs;have HS:Hid _:=hs;have hb:W*4294967296+dg N i<18446744073709551616:=by omega
   have hjj:((i+1:Nat):Int)-1=(i:Int):=by omega
   clear hs hle;generalize dg N i=t at*
   go_wp2;go_round
   case rel=>exact⟨i,W*4294967296+t,by omega,by go_num,by go_num,HS.out⟩
   case measure=>simp[intOf]<;>omega
theorem aDR{P:Prop}(h:P:=by
 subst e;have hne:((n:Int)==(n':Int))=false:=by simp;omega
 clear hcell hcell' hN hN' h hz;go_enter func102,ntmps102;go_wp2;go_returns;exact⟨rfl,Gb.refl w⟩):P:=h
def fH(a b:Nat):Int:=if a<b then-1 else if b<a then 1 else 0
theorem QT{z:Int}(hn:n<=1000000)(hN:Nm n N)(hn':n'<=1000000)(hN':Nm n' N')
  (hcell:∀j,j<n->w.cell? ⟨b,j,none⟩=some (.int .u32 (dg N j:Int))) (hcap:n<=cap) (hcell':∀j,j<n'->w.cell? ⟨b',j,none⟩=some (.int .u32 (dg N' j:Int))) (hcap':n'<=cap') (hz:z=fH N N'):
  CT 102 #[.slice (some ⟨b,0,none⟩) n cap,.slice (some ⟨b',0,none⟩) n' cap'] w fun e w'=>e=.returned (.int .i64 z)/\Gb w w':=by
 rcases Nat.lt_trichotomy n n' with hl|hl|hl
 ·have h:=hN.lt hN' hl;have e:z=-1:=by rw[hz];unfold fH;rw[if_pos h]
  exact aDR
 ·subst hl;have HC:Hid _:=hcell;have OL:Hid _:=hcell';have HZ:Hid _:=hz;have HN:Hid _:=(⟨hN.1,hN'.1⟩:N<4294967296^n/\N'<4294967296^n);clear hcell hcell' hz hN hN';go_enter func102,ntmps102;go_wp2;go_loopw [5] (fun i wr=>∃j:Nat,j<=n/\i=.int .i64 ((j:Int)-1)/\Hid (N/4294967296^j=N'/4294967296^j)/\Gb w wr) (fun i _=>(intOf i+1).toNat)
  case atStart=>exact⟨n,Nat.le_refl _,by go_num,by show _=_;rw[Nat.div_eq_of_lt HN.out.1,Nat.div_eq_of_lt HN.out.2],Gb.refl w⟩
  case round=>
   obtain⟨j,hj,rfl,HE,hgb⟩:=hrel;have HG:Hid _:=hgb;clear hgb;rcases Nat.eq_zero_or_pos j with rfl|aIz
   ·have e:(0:Int)=z:=by
     have:=HE.out;simp at this;rw[HZ.out,this];unfold fH;rw[if_neg (by omega),if_neg (by omega)]
    subst e;go_wp2;go_returns;exact⟨rfl,HG.out⟩
   ·obtain⟨i,rfl⟩:∃i,j=i+1:=⟨j-1,by omega⟩;have hc:wr.cell? ⟨b,i,none⟩=some (.int .u32 (dg N i:Int)):=Gb.old HG.out (HC.out i (by omega));have hc':wr.cell? ⟨b',i,none⟩=some (.int .u32 (dg N' i:Int)):=Gb.old HG.out (OL.out i (by omega));have hjj:((i+1:Nat):Int)-1=(i:Int):=by omega
    have hi1:(i:Int)<(n:Int):=by omega
    obtain⟨m1,m2,m3⟩:=aCd HE.out;rcases Nat.lt_trichotomy (dg N i) (dg N' i)with c|c|c
    ·have e:(-1:Int)=z:=by rw[HZ.out];unfold fH;rw[if_pos (m1 c)]
     subst e;have c':(dg N i:Int)<(dg N' i:Int):=by omega
     clear m1 m2 m3 HE;generalize dg N i=t at*
     generalize dg N' i=t' at*
     go_wp2;go_region;all_goals (try go_wp2)
     all_goals go_returns
     all_goals first|exact⟨rfl,HG.out⟩|exact⟨rfl,Gb.drew HG.out⟩|exact⟨rfl,Gb.drew (Gb.drew HG.out)⟩
    ·have HE2:Hid _:=m3 c;have c':(dg N i:Int)=(dg N' i:Int):=by omega
     rw[<-c']at hc';clear m1 m2 m3 HE c c';generalize dg N i=t at*
     go_wp2;go_region;all_goals (try go_wp2)
     all_goals go_region
     all_goals (try go_wp2)
     all_goals go_roundw
     all_goals first
      |exact⟨i,by omega,by go_num,HE2.out,HG.out⟩
      |exact⟨i,by omega,by go_num,HE2.out,Gb.drew HG.out⟩
      |exact⟨i,by omega,by go_num,HE2.out,Gb.drew (Gb.drew HG.out)⟩
      |(simp[intOf]<;>omega)
    ·have e:(1:Int)=z:=by rw[HZ.out];unfold fH;rw[if_neg (by have:=m2 c;omega),if_pos (m2 c)]
     subst e;have c':(dg N' i:Int)<(dg N i:Int):=by omega
     clear m1 m2 m3 HE;generalize dg N i=t at*
     generalize dg N' i=t' at*
     go_wp2;go_region;all_goals (try go_wp2)
     all_goals go_region
     all_goals (try go_wp2)
     all_goals go_returns
     all_goals first|exact⟨rfl,HG.out⟩|exact⟨rfl,Gb.drew HG.out⟩|exact⟨rfl,Gb.drew (Gb.drew HG.out)⟩
 ·have h:=hN'.lt hN hl;have e:z=1:=by rw[hz];unfold fH;rw[if_neg (by omega),if_pos h]
  exact aDR
theorem gV(h:Big w v n N)(hn:n<=1000000)(h':Big w v2 n' N')(hn':n'<=1000000):
  CT 102 #[v,v2] w fun e w'=>e=.returned (.int .i64 (fH N N'))/\Gb w w':=by
 obtain⟨hnm,hN,b,cap,rfl,hcap,hmx,hcell⟩:=h;obtain⟨hnm',hN',b',cap',rfl,hcap',Jz,hcell'⟩:=h';exact QT hn hnm hn' hnm' hcell hcap hcell' hcap' rfl
abbrev KB(F:Nat)(xs:Array Value)(v:Value):Prop:=Hid (∀w,Calls Tryz.prog F xs w fun e w'=>e=.returned v/\Gb w w')
abbrev QB(F:Nat)(xs:Array Value)(w:World)(v:Value):Prop:=Calls Tryz.prog F xs w fun e w'=>e=.returned v/\Gb w w'
theorem Gr.c(h:Gr W w)(k:W.cell? ⟨b,o,none⟩=some v:=by exact kl):w.cell? ⟨b,o,none⟩=some v:=h.old k
theorem Gr.z(h:Gr W w)(k:W.frozen? ⟨b,o,none⟩=false:=by exact kl):w.frozen? ⟨b,o,none⟩=false:=gZ h k
theorem Gb.c(h:Gb W w)(k:W.cell? ⟨b,o,none⟩=some v:=by exact kb):w.cell? ⟨b,o,none⟩=some v:=h.old k
theorem Gb.z(h:Gb W w)(hv:w.cell? ⟨b,o,none⟩=some v)(k0:W.cell? ⟨b,o,none⟩=some v:=by exact kb)(k:W.frozen? ⟨b,o,none⟩=false:=by exact kb):w.frozen? ⟨b,o,none⟩=false:=h.AQ k0 k
theorem Gr.g(h:Gr W w:=by exact kr):Gr W w:=h
theorem Gb.g(h:Gb W w:=by exact kg):Gb W w:=h
theorem Gb.hs(h:Gb W w)(hv:(W.cell? ⟨b,o,none⟩).isSome =true):(w.cell? ⟨b,o,none⟩).isSome =true:=by
 obtain⟨v,hv⟩:=Option.isSome_iff_exists.mp hv;exact iG (h.old hv)
theorem Gb.fh(h:Gb W w)(hv:(W.cell? ⟨b,o,none⟩).isSome =true)(hz:W.frozen? ⟨b,o,none⟩=false):w.frozen? ⟨b,o,none⟩=false:=by
 obtain⟨v,hv⟩:=Option.isSome_iff_exists.mp hv;exact h.AQ hv hz
theorem Gr.a(h:Gr W w)(k:W.cell? ⟨b,o,none⟩=some v:=by exact kl)(ob:Obj):(w.alloc ob).cell? ⟨b,o,none⟩=some v:=cO ob (h.old k)
theorem kh{P:Prop}(h:P:=by(go_split_ands;(repeat' (first|(with_reducible assumption)|(with_reducible refine iG (by with_reducible assumption))|(with_reducible refine Gr.old (by with_reducible assumption) ?_)|(with_reducible refine Gb.old (by with_reducible assumption) ?_)|(with_reducible refine Gb.hs (by with_reducible assumption) ?_)|(with_reducible refine JB (by with_reducible assumption) ?_)|(with_reducible refine bU ?_)|(with_reducible refine has_set ?_)|(with_reducible refine aQ ?_ ?_;omega)|(with_reducible refine aH ?_ ?_;(dsimp only;omega))|(simp[go_sem];first|done|rfl)|(with_reducible refine cO _ ?_)|(with_reducible refine lQ ?_)|(with_reducible refine AP _ ?_)|(with_reducible refine gZ (by with_reducible assumption) ?_)|(with_reducible refine Gb.fh (by with_reducible assumption) (by with_reducible assumption) ?_)|(with_reducible refine gG ?_)|(with_reducible refine bD ?_)|(with_reducible refine nJ ?_)|go_size)))):P:=h
theorem nR{P:Prop}(h:P:=by(go_split_ands;(repeat' apply And.intro)<;>exact kl)):P:=h
theorem uV{P:Prop}(h:P:=by(go_split_ands;(repeat' apply And.intro)<;>exact kb)):P:=h
theorem kZ{P:Prop}(h:P:=by(go_split_ands;(repeat' apply And.intro)<;>exact kh)):P:=h
theorem Gr.RD(h:Gr W w)(k:W.cell? ⟨b,i0,none⟩=some v0):w.cell? ⟨b,i0,none⟩=some v0:=h.old k
theorem Gb.RD(h:Gb W w)(k:W.cell? ⟨b,i0,none⟩=some v0):w.cell? ⟨b,i0,none⟩=some v0:=h.old k
theorem Gr.FC(h:Gr W w)(k:yB W b i0 i1 v0 v1):yB w b i0 i1 v0 v1:=⟨h.old k.1,h.RD k.2⟩
theorem Gb.FC(h:Gb W w)(k:yB W b i0 i1 v0 v1):yB w b i0 i1 v0 v1:=⟨h.old k.1,h.RD k.2⟩
theorem Gr.Rz(h:Gr W w)(k:oO W b i0 i1 i2 v0 v1 v2):oO w b i0 i1 i2 v0 v1 v2:=⟨h.old k.1,h.FC k.2⟩
theorem Gb.Rz(h:Gb W w)(k:oO W b i0 i1 i2 v0 v1 v2):oO w b i0 i1 i2 v0 v1 v2:=⟨h.old k.1,h.FC k.2⟩
theorem Gr.AZ(h:Gr W w)(k:oN W b i0 i1 i2 i3 v0 v1 v2 v3):oN w b i0 i1 i2 i3 v0 v1 v2 v3:=⟨h.old k.1,h.Rz k.2⟩
theorem Gb.AZ(h:Gb W w)(k:oN W b i0 i1 i2 i3 v0 v1 v2 v3):oN w b i0 i1 i2 i3 v0 v1 v2 v3:=⟨h.old k.1,h.Rz k.2⟩
theorem Gr.aAf(h:Gr W w)(k:DC W b i0 i1 i2 i3 i4 v0 v1 v2 v3 v4):DC w b i0 i1 i2 i3 i4 v0 v1 v2 v3 v4:=⟨h.old k.1,h.AZ k.2⟩
theorem Gb.aAf(h:Gb W w)(k:DC W b i0 i1 i2 i3 i4 v0 v1 v2 v3 v4):DC w b i0 i1 i2 i3 i4 v0 v1 v2 v3 v4:=⟨h.old k.1,h.AZ k.2⟩
theorem Gr.FB(h:Gr W w)(k:WW W b i0 v0):WW w b i0 v0:=⟨h.old k.1,gZ h k.2⟩
theorem Gb.FB(h:Gb W w)(k:WW W b i0 v0):WW w b i0 v0:=⟨h.old k.1,h.AQ k.1 k.2⟩
theorem Gr.jD(h:Gr W w)(k:iE W b i0 i1 v0 v1):iE w b i0 i1 v0 v1:=⟨h.old k.1,gZ h k.2.1,h.FB k.2.2⟩
theorem Gb.jD(h:Gb W w)(k:iE W b i0 i1 v0 v1):iE w b i0 i1 v0 v1:=⟨h.old k.1,h.AQ k.1 k.2.1,h.FB k.2.2⟩
theorem Gr.aAe(h:Gr W w)(k:KF3 W b i0 i1 i2 v0 v1 v2):KF3 w b i0 i1 i2 v0 v1 v2:=⟨h.old k.1,gZ h k.2.1,h.jD k.2.2⟩
theorem Gb.aAe(h:Gb W w)(k:KF3 W b i0 i1 i2 v0 v1 v2):KF3 w b i0 i1 i2 v0 v1 v2:=⟨h.old k.1,h.AQ k.1 k.2.1,h.jD k.2.2⟩
theorem Gr.zJ(h:Gr W w)(k:tq W b i0 i1 i2 i3 v0 v1 v2 v3):tq w b i0 i1 i2 i3 v0 v1 v2 v3:=⟨h.old k.1,gZ h k.2.1,h.aAe k.2.2⟩
theorem Gb.zJ(h:Gb W w)(k:tq W b i0 i1 i2 i3 v0 v1 v2 v3):tq w b i0 i1 i2 i3 v0 v1 v2 v3:=⟨h.old k.1,h.AQ k.1 k.2.1,h.aAe k.2.2⟩
theorem Gr.Fz(h:Gr W w)(k:Ue W b i0 i1 i2 i3 i4 v0 v1 v2 v3 v4):Ue w b i0 i1 i2 i3 i4 v0 v1 v2 v3 v4:=⟨h.old k.1,gZ h k.2.1,h.zJ k.2.2⟩
theorem Gb.Fz(h:Gb W w)(k:Ue W b i0 i1 i2 i3 i4 v0 v1 v2 v3 v4):Ue w b i0 i1 i2 i3 i4 v0 v1 v2 v3 v4:=⟨h.old k.1,h.AQ k.1 k.2.1,h.zJ k.2.2⟩
theorem Gr.aAd(h:Gr W w)(k:KF6 W b i0 i1 i2 i3 i4 i5 v0 v1 v2 v3 v4 v5):KF6 w b i0 i1 i2 i3 i4 i5 v0 v1 v2 v3 v4 v5:=⟨h.old k.1,gZ h k.2.1,h.Fz k.2.2⟩
theorem Gb.aAd(h:Gb W w)(k:KF6 W b i0 i1 i2 i3 i4 i5 v0 v1 v2 v3 v4 v5):KF6 w b i0 i1 i2 i3 i4 i5 v0 v1 v2 v3 v4 v5:=⟨h.old k.1,h.AQ k.1 k.2.1,h.Fz k.2.2⟩
theorem Gr.kV(h:Gr W w)(k:oM W b i0 i1 i2 i3 i4 i5 i6 v0 v1 v2 v3 v4 v5 v6):oM w b i0 i1 i2 i3 i4 i5 i6 v0 v1 v2 v3 v4 v5 v6:=⟨h.old k.1,gZ h k.2.1,h.aAd k.2.2⟩
theorem Gb.kV(h:Gb W w)(k:oM W b i0 i1 i2 i3 i4 i5 i6 v0 v1 v2 v3 v4 v5 v6):oM w b i0 i1 i2 i3 i4 i5 i6 v0 v1 v2 v3 v4 v5 v6:=⟨h.old k.1,h.AQ k.1 k.2.1,h.aAd k.2.2⟩
theorem aAz(k:WW w b i0 v0)(c:Array Value)(t:TypeId):WW (w.alloc (.cells c t)) b i0 v0:=⟨cO _ k.1,gG k.2⟩
theorem Og(k:iE w b i0 i1 v0 v1)(c:Array Value)(t:TypeId):iE (w.alloc (.cells c t)) b i0 i1 v0 v1:=⟨cO _ k.1,gG k.2.1,aAz k.2.2 c t⟩
theorem aHs(k:KF3 w b i0 i1 i2 v0 v1 v2)(c:Array Value)(t:TypeId):KF3 (w.alloc (.cells c t)) b i0 i1 i2 v0 v1 v2:=⟨cO _ k.1,gG k.2.1,Og k.2.2 c t⟩
theorem aHr(k:tq w b i0 i1 i2 i3 v0 v1 v2 v3)(c:Array Value)(t:TypeId):tq (w.alloc (.cells c t)) b i0 i1 i2 i3 v0 v1 v2 v3:=⟨cO _ k.1,gG k.2.1,aHs k.2.2 c t⟩
theorem aHq(k:Ue w b i0 i1 i2 i3 i4 v0 v1 v2 v3 v4)(c:Array Value)(t:TypeId):Ue (w.alloc (.cells c t)) b i0 i1 i2 i3 i4 v0 v1 v2 v3 v4:=⟨cO _ k.1,gG k.2.1,aHr k.2.2 c t⟩
theorem aHp(k:KF6 w b i0 i1 i2 i3 i4 i5 v0 v1 v2 v3 v4 v5)(c:Array Value)(t:TypeId):KF6 (w.alloc (.cells c t)) b i0 i1 i2 i3 i4 i5 v0 v1 v2 v3 v4 v5:=⟨cO _ k.1,gG k.2.1,aHq k.2.2 c t⟩
theorem Ua(k:oM w b i0 i1 i2 i3 i4 i5 i6 v0 v1 v2 v3 v4 v5 v6)(c:Array Value)(t:TypeId):oM (w.alloc (.cells c t)) b i0 i1 i2 i3 i4 i5 i6 v0 v1 v2 v3 v4 v5 v6:=⟨cO _ k.1,gG k.2.1,aHp k.2.2 c t⟩
theorem aHv(k:w.cell? ⟨b,i0,none⟩=some v0)(ob:Obj):(w.alloc ob).cell? ⟨b,i0,none⟩=some v0:=cO ob k
theorem aHu(k:yB w b i0 i1 v0 v1)(ob:Obj):yB (w.alloc ob) b i0 i1 v0 v1:=⟨cO ob k.1,aHv k.2 ob⟩
theorem aHt(k:oO w b i0 i1 i2 v0 v1 v2)(ob:Obj):oO (w.alloc ob) b i0 i1 i2 v0 v1 v2:=⟨cO ob k.1,aHu k.2 ob⟩
theorem aEb(k:oN w b i0 i1 i2 i3 v0 v1 v2 v3)(ob:Obj):oN (w.alloc ob) b i0 i1 i2 i3 v0 v1 v2 v3:=⟨cO ob k.1,aHt k.2 ob⟩
theorem Gr.C10(h:Gr W w)(x:World)(k:W.cell? ⟨x.heap.size,0,none⟩=some v0:=by exact nR):w.cell? ⟨x.heap.size,0,none⟩=some v0:=h.RD k
theorem Gr.yF(h:Gr W w)(x:World)(k:yB W x.heap.size 0 1 v0 v1:=by exact nR):yB w x.heap.size 0 1 v0 v1:=h.FC k
theorem Gr.Iu(h:Gr W w)(x:World)(k:yB W (x.heap.size+1) 0 1 v0 v1:=by exact nR):yB w (x.heap.size+1) 0 1 v0 v1:=h.FC k
theorem Gr.C22(h:Gr W w)(x:World)(k:yB W (x.heap.size+1+1) 0 1 v0 v1:=by exact nR):yB w (x.heap.size+1+1) 0 1 v0 v1:=h.FC k
theorem Gr.C30(h:Gr W w)(x:World)(k:oO W x.heap.size 0 1 2 v0 v1 v2:=by exact nR):oO w x.heap.size 0 1 2 v0 v1 v2:=h.Rz k
theorem Gr.C31(h:Gr W w)(x:World)(k:oO W (x.heap.size+1) 0 1 2 v0 v1 v2:=by exact nR):oO w (x.heap.size+1) 0 1 2 v0 v1 v2:=h.Rz k
theorem Gr.dX(h:Gr W w)(x:World)(k:oN W x.heap.size 0 1 2 3 v0 v1 v2 v3:=by exact nR):oN w x.heap.size 0 1 2 3 v0 v1 v2 v3:=h.AZ k
theorem Gr.Kq(h:Gr W w)(x:World)(k:oN W (x.heap.size+1) 0 1 2 3 v0 v1 v2 v3:=by exact nR):oN w (x.heap.size+1) 0 1 2 3 v0 v1 v2 v3:=h.AZ k
theorem Gr.lV(h:Gr W w)(x:World)(k:DC W x.heap.size 0 1 2 3 4 v0 v1 v2 v3 v4:=by exact nR):DC w x.heap.size 0 1 2 3 4 v0 v1 v2 v3 v4:=h.aAf k
theorem Gr.Y2(h:Gr W w)(b:Nat)(k:iE W b 0 1 v0 v1:=by exact nR):iE w b 0 1 v0 v1:=h.jD k
theorem Gr.aZ(h:Gr W w)(x:World)(k:iE W x.heap.size 0 1 v0 v1:=by exact nR):iE w x.heap.size 0 1 v0 v1:=h.jD k
theorem Gr.Wy(h:Gr W w)(x:World)(k:iE W (x.heap.size+1) 0 1 v0 v1:=by exact nR):iE w (x.heap.size+1) 0 1 v0 v1:=h.jD k
theorem Gr.JV(h:Gr W w)(x:World)(k:iE W (x.heap.size+1+1) 0 1 v0 v1:=by exact nR):iE w (x.heap.size+1+1) 0 1 v0 v1:=h.jD k
theorem Gr.Y23(h:Gr W w)(x:World)(k:iE W (x.heap.size+1+1+1) 0 1 v0 v1:=by exact nR):iE w (x.heap.size+1+1+1) 0 1 v0 v1:=h.jD k
theorem Gr.FW(h:Gr W w)(x:World)(k:tq W x.heap.size 0 1 2 3 v0 v1 v2 v3:=by exact nR):tq w x.heap.size 0 1 2 3 v0 v1 v2 v3:=h.zJ k
theorem Gr.Y41(h:Gr W w)(x:World)(k:tq W (x.heap.size+1) 0 1 2 3 v0 v1 v2 v3:=by exact nR):tq w (x.heap.size+1) 0 1 2 3 v0 v1 v2 v3:=h.zJ k
theorem Gr.uj(h:Gr W w)(x:World)(k:tq W (x.heap.size+1+1) 0 1 2 3 v0 v1 v2 v3:=by exact nR):tq w (x.heap.size+1+1) 0 1 2 3 v0 v1 v2 v3:=h.zJ k
theorem Gr.Y50(h:Gr W w)(x:World)(k:Ue W x.heap.size 0 1 2 3 4 v0 v1 v2 v3 v4:=by exact nR):Ue w x.heap.size 0 1 2 3 4 v0 v1 v2 v3 v4:=h.Fz k
theorem Gr.Y70(h:Gr W w)(x:World)(k:oM W x.heap.size 0 1 2 3 4 5 6 v0 v1 v2 v3 v4 v5 v6:=by exact nR):oM w x.heap.size 0 1 2 3 4 5 6 v0 v1 v2 v3 v4 v5 v6:=h.kV k
theorem Gr.Cb(h:Gr W w)(x:World)(k:oM W (x.heap.size+1) 0 1 2 3 4 5 6 v0 v1 v2 v3 v4 v5 v6:=by exact nR):oM w (x.heap.size+1) 0 1 2 3 4 5 6 v0 v1 v2 v3 v4 v5 v6:=h.kV k
theorem Gr.Uc(h:Gr W w)(x:World)(k:oM W (x.heap.size+1+1) 0 1 2 3 4 5 6 v0 v1 v2 v3 v4 v5 v6:=by exact nR):oM w (x.heap.size+1+1) 0 1 2 3 4 5 6 v0 v1 v2 v3 v4 v5 v6:=h.kV k
theorem Gr.mX(h:Gr W w)(x:World)(k:oM W (x.heap.size+1+1+1) 0 1 2 3 4 5 6 v0 v1 v2 v3 v4 v5 v6:=by exact nR):oM w (x.heap.size+1+1+1) 0 1 2 3 4 5 6 v0 v1 v2 v3 v4 v5 v6:=h.kV k
theorem Gr.J8(h:Gr W w)(x:World)(k:oN W x.heap.size 0 1 2 3 v0 v1 v2 v3:=by exact nR):(oN w x.heap.size 0 1 2 3 v0 v1 v2 v3)/\∀ob,oN (w.alloc ob) x.heap.size 0 1 2 3 v0 v1 v2 v3:=⟨h.AZ k,aEb (h.AZ k)⟩
theorem Gr.A12(h:Gr W w)(x:World)(k:WW W (x.heap.size+1+1) 0 v0:=by exact nR):(WW w (x.heap.size+1+1) 0 v0)/\∀c t,WW (w.alloc (.cells c t)) (x.heap.size+1+1) 0 v0:=⟨h.FB k,aAz (h.FB k)⟩
theorem Gr.A20(h:Gr W w)(x:World)(k:iE W x.heap.size 0 1 v0 v1:=by exact nR):(iE w x.heap.size 0 1 v0 v1)/\∀c t,iE (w.alloc (.cells c t)) x.heap.size 0 1 v0 v1:=⟨h.jD k,Og (h.jD k)⟩
theorem Gr.A22(h:Gr W w)(x:World)(k:iE W (x.heap.size+1+1) 0 1 v0 v1:=by exact nR):(iE w (x.heap.size+1+1) 0 1 v0 v1)/\∀c t,iE (w.alloc (.cells c t)) (x.heap.size+1+1) 0 1 v0 v1:=⟨h.jD k,Og (h.jD k)⟩
theorem Gr.A71(h:Gr W w)(x:World)(k:oM W (x.heap.size+1) 0 1 2 3 4 5 6 v0 v1 v2 v3 v4 v5 v6:=by exact nR):(oM w (x.heap.size+1) 0 1 2 3 4 5 6 v0 v1 v2 v3 v4 v5 v6)/\∀c t,oM (w.alloc (.cells c t)) (x.heap.size+1) 0 1 2 3 4 5 6 v0 v1 v2 v3 v4 v5 v6:=⟨h.kV k,Ua (h.kV k)⟩
theorem Gr.A73(h:Gr W w)(x:World)(k:oM W (x.heap.size+1+1+1) 0 1 2 3 4 5 6 v0 v1 v2 v3 v4 v5 v6:=by exact nR):(oM w (x.heap.size+1+1+1) 0 1 2 3 4 5 6 v0 v1 v2 v3 v4 v5 v6)/\∀c t,oM (w.alloc (.cells c t)) (x.heap.size+1+1+1) 0 1 2 3 4 5 6 v0 v1 v2 v3 v4 v5 v6:=⟨h.kV k,Ua (h.kV k)⟩
theorem Gr.e1(h:Gr W w)(b i0:Nat)(v0:Value)(k:W.cell? ⟨b,i0,none⟩=some v0:=by exact nR):w.cell? ⟨b,i0,none⟩=some v0:=h.RD k
theorem Gr.e2(h:Gr W w)(b i0 i1:Nat)(v0 v1:Value)(k:yB W b i0 i1 v0 v1:=by exact nR):yB w b i0 i1 v0 v1:=h.FC k
theorem Gr.e4(h:Gr W w)(b i0 i1 i2 i3:Nat)(v0 v1 v2 v3:Value)(k:oN W b i0 i1 i2 i3 v0 v1 v2 v3:=by exact nR):oN w b i0 i1 i2 i3 v0 v1 v2 v3:=h.AZ k
theorem Gr.e5(h:Gr W w)(b i0 i1 i2 i3 i4:Nat)(v0 v1 v2 v3 v4:Value)(k:DC W b i0 i1 i2 i3 i4 v0 v1 v2 v3 v4:=by exact nR):DC w b i0 i1 i2 i3 i4 v0 v1 v2 v3 v4:=h.aAf k
theorem Gr.y2(h:Gr W w)(b i0 i1:Nat)(v0 v1:Value)(k:iE W b i0 i1 v0 v1:=by exact nR):iE w b i0 i1 v0 v1:=h.jD k
theorem Gr.y5(h:Gr W w)(b i0 i1 i2 i3 i4:Nat)(v0 v1 v2 v3 v4:Value)(k:Ue W b i0 i1 i2 i3 i4 v0 v1 v2 v3 v4:=by exact nR):Ue w b i0 i1 i2 i3 i4 v0 v1 v2 v3 v4:=h.Fz k
theorem Gr.y7(h:Gr W w)(b i0 i1 i2 i3 i4 i5 i6:Nat)(v0 v1 v2 v3 v4 v5 v6:Value)(k:oM W b i0 i1 i2 i3 i4 i5 i6 v0 v1 v2 v3 v4 v5 v6:=by exact nR):oM w b i0 i1 i2 i3 i4 i5 i6 v0 v1 v2 v3 v4 v5 v6:=h.kV k
theorem Gr.yr(h:Gr W w)(x:World)(k:iE W x.heap.size 0 1 (.int .u64 0) (.int .i64 0):=by exact⟨kl,kl,kl,kl⟩):iE w x.heap.size 0 1 (.int .u64 0) (.int .i64 0):=h.y2 _ 0 1 _ _ k
theorem Gr.es(h:Gr W w)(b:Nat)(p q r s:Int)(k0:Nat)(k:DC W b 0 1 2 3 4 (.int .i64 p) (.int .i64 q) (.int .i64 r) (.int .i64 s) (.func (.func k0) #[] #[]):=by exact⟨kl,kl,kl,kl,kl⟩):DC w b 0 1 2 3 4 (.int .i64 p) (.int .i64 q) (.int .i64 r) (.int .i64 s) (.func (.func k0) #[] #[]):=h.e5 _ 0 1 2 3 4 _ _ _ _ _ k
theorem Gr.yo(h:Gr W w)(b:Nat)(k:oM W b 0 1 2 3 4 5 6 (.int .i64 0) (.int .i64 0) (.int .i64 0) (.int .u64 0) (.int .u64 0) (.bool false) (.int .i64 0):=by exact⟨kl,kl,kl,kl,kl,kl,kl,kl,kl,kl,kl,kl,kl,kl⟩):oM w b 0 1 2 3 4 5 6 (.int .i64 0) (.int .i64 0) (.int .i64 0) (.int .u64 0) (.int .u64 0) (.bool false) (.int .i64 0):=h.y7 _ 0 1 2 3 4 5 6 _ _ _ _ _ _ _ k
theorem Gr.yO(h:Gr W w)(b:Nat)(p q r s t:Int)(u:Bool)(v:Int)(k:oM W b 0 1 2 3 4 5 6 (.int .i64 p) (.int .i64 q) (.int .i64 r) (.int .u64 s) (.int .u64 t) (.bool u) (.int .i64 v):=by exact⟨kl,kl,kl,kl,kl,kl,kl,kl,kl,kl,kl,kl,kl,kl⟩):oM w b 0 1 2 3 4 5 6 (.int .i64 p) (.int .i64 q) (.int .i64 r) (.int .u64 s) (.int .u64 t) (.bool u) (.int .i64 v):=h.y7 _ 0 1 2 3 4 5 6 _ _ _ _ _ _ _ k
theorem Gb.C10(h:Gb W w)(x:World)(k:W.cell? ⟨x.heap.size,0,none⟩=some v0:=by exact uV):w.cell? ⟨x.heap.size,0,none⟩=some v0:=h.RD k
theorem Gb.yF(h:Gb W w)(x:World)(k:yB W x.heap.size 0 1 v0 v1:=by exact uV):yB w x.heap.size 0 1 v0 v1:=h.FC k
theorem Gb.Iu(h:Gb W w)(x:World)(k:yB W (x.heap.size+1) 0 1 v0 v1:=by exact uV):yB w (x.heap.size+1) 0 1 v0 v1:=h.FC k
theorem Gb.C22(h:Gb W w)(x:World)(k:yB W (x.heap.size+1+1) 0 1 v0 v1:=by exact uV):yB w (x.heap.size+1+1) 0 1 v0 v1:=h.FC k
theorem Gb.C30(h:Gb W w)(x:World)(k:oO W x.heap.size 0 1 2 v0 v1 v2:=by exact uV):oO w x.heap.size 0 1 2 v0 v1 v2:=h.Rz k
theorem Gb.C31(h:Gb W w)(x:World)(k:oO W (x.heap.size+1) 0 1 2 v0 v1 v2:=by exact uV):oO w (x.heap.size+1) 0 1 2 v0 v1 v2:=h.Rz k
theorem Gb.dX(h:Gb W w)(x:World)(k:oN W x.heap.size 0 1 2 3 v0 v1 v2 v3:=by exact uV):oN w x.heap.size 0 1 2 3 v0 v1 v2 v3:=h.AZ k
theorem Gb.Kq(h:Gb W w)(x:World)(k:oN W (x.heap.size+1) 0 1 2 3 v0 v1 v2 v3:=by exact uV):oN w (x.heap.size+1) 0 1 2 3 v0 v1 v2 v3:=h.AZ k
theorem Gb.lV(h:Gb W w)(x:World)(k:DC W x.heap.size 0 1 2 3 4 v0 v1 v2 v3 v4:=by exact uV):DC w x.heap.size 0 1 2 3 4 v0 v1 v2 v3 v4:=h.aAf k
theorem Gb.Y2(h:Gb W w)(b:Nat)(k:iE W b 0 1 v0 v1:=by exact uV):iE w b 0 1 v0 v1:=h.jD k
theorem Gb.aZ(h:Gb W w)(x:World)(k:iE W x.heap.size 0 1 v0 v1:=by exact uV):iE w x.heap.size 0 1 v0 v1:=h.jD k
theorem Gb.Wy(h:Gb W w)(x:World)(k:iE W (x.heap.size+1) 0 1 v0 v1:=by exact uV):iE w (x.heap.size+1) 0 1 v0 v1:=h.jD k
theorem Gb.JV(h:Gb W w)(x:World)(k:iE W (x.heap.size+1+1) 0 1 v0 v1:=by exact uV):iE w (x.heap.size+1+1) 0 1 v0 v1:=h.jD k
theorem Gb.Y23(h:Gb W w)(x:World)(k:iE W (x.heap.size+1+1+1) 0 1 v0 v1:=by exact uV):iE w (x.heap.size+1+1+1) 0 1 v0 v1:=h.jD k
theorem Gb.FW(h:Gb W w)(x:World)(k:tq W x.heap.size 0 1 2 3 v0 v1 v2 v3:=by exact uV):tq w x.heap.size 0 1 2 3 v0 v1 v2 v3:=h.zJ k
theorem Gb.Y41(h:Gb W w)(x:World)(k:tq W (x.heap.size+1) 0 1 2 3 v0 v1 v2 v3:=by exact uV):tq w (x.heap.size+1) 0 1 2 3 v0 v1 v2 v3:=h.zJ k
theorem Gb.uj(h:Gb W w)(x:World)(k:tq W (x.heap.size+1+1) 0 1 2 3 v0 v1 v2 v3:=by exact uV):tq w (x.heap.size+1+1) 0 1 2 3 v0 v1 v2 v3:=h.zJ k
theorem Gb.Y50(h:Gb W w)(x:World)(k:Ue W x.heap.size 0 1 2 3 4 v0 v1 v2 v3 v4:=by exact uV):Ue w x.heap.size 0 1 2 3 4 v0 v1 v2 v3 v4:=h.Fz k
theorem Gb.Y70(h:Gb W w)(x:World)(k:oM W x.heap.size 0 1 2 3 4 5 6 v0 v1 v2 v3 v4 v5 v6:=by exact uV):oM w x.heap.size 0 1 2 3 4 5 6 v0 v1 v2 v3 v4 v5 v6:=h.kV k
theorem Gb.Cb(h:Gb W w)(x:World)(k:oM W (x.heap.size+1) 0 1 2 3 4 5 6 v0 v1 v2 v3 v4 v5 v6:=by exact uV):oM w (x.heap.size+1) 0 1 2 3 4 5 6 v0 v1 v2 v3 v4 v5 v6:=h.kV k
theorem Gb.Uc(h:Gb W w)(x:World)(k:oM W (x.heap.size+1+1) 0 1 2 3 4 5 6 v0 v1 v2 v3 v4 v5 v6:=by exact uV):oM w (x.heap.size+1+1) 0 1 2 3 4 5 6 v0 v1 v2 v3 v4 v5 v6:=h.kV k
theorem Gb.mX(h:Gb W w)(x:World)(k:oM W (x.heap.size+1+1+1) 0 1 2 3 4 5 6 v0 v1 v2 v3 v4 v5 v6:=by exact uV):oM w (x.heap.size+1+1+1) 0 1 2 3 4 5 6 v0 v1 v2 v3 v4 v5 v6:=h.kV k
theorem Gb.J8(h:Gb W w)(x:World)(k:oN W x.heap.size 0 1 2 3 v0 v1 v2 v3:=by exact uV):(oN w x.heap.size 0 1 2 3 v0 v1 v2 v3)/\∀ob,oN (w.alloc ob) x.heap.size 0 1 2 3 v0 v1 v2 v3:=⟨h.AZ k,aEb (h.AZ k)⟩
theorem Gb.A12(h:Gb W w)(x:World)(k:WW W (x.heap.size+1+1) 0 v0:=by exact uV):(WW w (x.heap.size+1+1) 0 v0)/\∀c t,WW (w.alloc (.cells c t)) (x.heap.size+1+1) 0 v0:=⟨h.FB k,aAz (h.FB k)⟩
theorem Gb.A20(h:Gb W w)(x:World)(k:iE W x.heap.size 0 1 v0 v1:=by exact uV):(iE w x.heap.size 0 1 v0 v1)/\∀c t,iE (w.alloc (.cells c t)) x.heap.size 0 1 v0 v1:=⟨h.jD k,Og (h.jD k)⟩
theorem Gb.A22(h:Gb W w)(x:World)(k:iE W (x.heap.size+1+1) 0 1 v0 v1:=by exact uV):(iE w (x.heap.size+1+1) 0 1 v0 v1)/\∀c t,iE (w.alloc (.cells c t)) (x.heap.size+1+1) 0 1 v0 v1:=⟨h.jD k,Og (h.jD k)⟩
theorem Gb.A71(h:Gb W w)(x:World)(k:oM W (x.heap.size+1) 0 1 2 3 4 5 6 v0 v1 v2 v3 v4 v5 v6:=by exact uV):(oM w (x.heap.size+1) 0 1 2 3 4 5 6 v0 v1 v2 v3 v4 v5 v6)/\∀c t,oM (w.alloc (.cells c t)) (x.heap.size+1) 0 1 2 3 4 5 6 v0 v1 v2 v3 v4 v5 v6:=⟨h.kV k,Ua (h.kV k)⟩
theorem Gb.A73(h:Gb W w)(x:World)(k:oM W (x.heap.size+1+1+1) 0 1 2 3 4 5 6 v0 v1 v2 v3 v4 v5 v6:=by exact uV):(oM w (x.heap.size+1+1+1) 0 1 2 3 4 5 6 v0 v1 v2 v3 v4 v5 v6)/\∀c t,oM (w.alloc (.cells c t)) (x.heap.size+1+1+1) 0 1 2 3 4 5 6 v0 v1 v2 v3 v4 v5 v6:=⟨h.kV k,Ua (h.kV k)⟩
theorem Gb.e1(h:Gb W w)(b i0:Nat)(v0:Value)(k:W.cell? ⟨b,i0,none⟩=some v0:=by exact uV):w.cell? ⟨b,i0,none⟩=some v0:=h.RD k
theorem Gb.e2(h:Gb W w)(b i0 i1:Nat)(v0 v1:Value)(k:yB W b i0 i1 v0 v1:=by exact uV):yB w b i0 i1 v0 v1:=h.FC k
theorem Gb.e4(h:Gb W w)(b i0 i1 i2 i3:Nat)(v0 v1 v2 v3:Value)(k:oN W b i0 i1 i2 i3 v0 v1 v2 v3:=by exact uV):oN w b i0 i1 i2 i3 v0 v1 v2 v3:=h.AZ k
theorem Gb.e5(h:Gb W w)(b i0 i1 i2 i3 i4:Nat)(v0 v1 v2 v3 v4:Value)(k:DC W b i0 i1 i2 i3 i4 v0 v1 v2 v3 v4:=by exact uV):DC w b i0 i1 i2 i3 i4 v0 v1 v2 v3 v4:=h.aAf k
theorem Gb.y2(h:Gb W w)(b i0 i1:Nat)(v0 v1:Value)(k:iE W b i0 i1 v0 v1:=by exact uV):iE w b i0 i1 v0 v1:=h.jD k
theorem Gb.y5(h:Gb W w)(b i0 i1 i2 i3 i4:Nat)(v0 v1 v2 v3 v4:Value)(k:Ue W b i0 i1 i2 i3 i4 v0 v1 v2 v3 v4:=by exact uV):Ue w b i0 i1 i2 i3 i4 v0 v1 v2 v3 v4:=h.Fz k
theorem Gb.y7(h:Gb W w)(b i0 i1 i2 i3 i4 i5 i6:Nat)(v0 v1 v2 v3 v4 v5 v6:Value)(k:oM W b i0 i1 i2 i3 i4 i5 i6 v0 v1 v2 v3 v4 v5 v6:=by exact uV):oM w b i0 i1 i2 i3 i4 i5 i6 v0 v1 v2 v3 v4 v5 v6:=h.kV k
theorem Gb.yr(h:Gb W w)(x:World)(k:iE W x.heap.size 0 1 (.int .u64 0) (.int .i64 0):=by exact⟨kb,kb,kb,kb⟩):iE w x.heap.size 0 1 (.int .u64 0) (.int .i64 0):=h.y2 _ 0 1 _ _ k
theorem Gb.es(h:Gb W w)(b:Nat)(p q r s:Int)(k0:Nat)(k:DC W b 0 1 2 3 4 (.int .i64 p) (.int .i64 q) (.int .i64 r) (.int .i64 s) (.func (.func k0) #[] #[]):=by exact⟨kb,kb,kb,kb,kb⟩):DC w b 0 1 2 3 4 (.int .i64 p) (.int .i64 q) (.int .i64 r) (.int .i64 s) (.func (.func k0) #[] #[]):=h.e5 _ 0 1 2 3 4 _ _ _ _ _ k
theorem Gb.yo(h:Gb W w)(b:Nat)(k:oM W b 0 1 2 3 4 5 6 (.int .i64 0) (.int .i64 0) (.int .i64 0) (.int .u64 0) (.int .u64 0) (.bool false) (.int .i64 0):=by exact⟨kb,kb,kb,kb,kb,kb,kb,kb,kb,kb,kb,kb,kb,kb⟩):oM w b 0 1 2 3 4 5 6 (.int .i64 0) (.int .i64 0) (.int .i64 0) (.int .u64 0) (.int .u64 0) (.bool false) (.int .i64 0):=h.y7 _ 0 1 2 3 4 5 6 _ _ _ _ _ _ _ k
theorem Gb.yO(h:Gb W w)(b:Nat)(p q r s t:Int)(u:Bool)(v:Int)(k:oM W b 0 1 2 3 4 5 6 (.int .i64 p) (.int .i64 q) (.int .i64 r) (.int .u64 s) (.int .u64 t) (.bool u) (.int .i64 v):=by exact⟨kb,kb,kb,kb,kb,kb,kb,kb,kb,kb,kb,kb,kb,kb⟩):oM w b 0 1 2 3 4 5 6 (.int .i64 p) (.int .i64 q) (.int .i64 r) (.int .u64 s) (.int .u64 t) (.bool u) (.int .i64 v):=h.y7 _ 0 1 2 3 4 5 6 _ _ _ _ _ _ _ k
abbrev Ey(Q:Int->Int->Prop)(w:World)(e:Ending)(w':World):Prop:=∃z fl,Q z fl/\e=.returned (.agg #[.int .u64 z,.int .i64 fl])/\Gb w w'
abbrev zW(Q:Int->Int->Prop)(w:World)(e:Ending)(w':World):Prop:=∃z fl,Q z fl/\e=.returned (.agg #[.int .u64 z,.int .i64 fl])/\Gr w w'
