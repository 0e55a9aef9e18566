import Derived.Test.YthoelefkjpjhfaaGreatDoorA1
import Derived.Test.YthoelefkjpjhfaaGreatDoorRows
import Derived.Laws.OwnMore
import Derived.OwnWalk
import Derived.WalkLawsBesides
set_option linter.all false
set_option maxRecDepth 1000000
set_option maxHeartbeats 40000000
open Go.Proofs.Tryz
namespace Go.Proofs.YthoelefkjpjhfaaGreatDoor
open Go.RowKit
variable{w W w':World}{v0 v1 v2 v3 v4 v5 v6 v:Value}{b i0 i1 i2 i3 i4 n N o i5 i6 base n' N' cap b' cap':Nat}{ops:Array Oper}{rest:List Oper}{Q:Exit->Act->World->Prop}
def Gb(w w':World):Prop:=Below w.heap.size w w'
theorem Gr.gb(h:Gr w w'):Gb w w':=h.below
theorem Gb.refl(w:World):Gb w w:=Below.refl _ _
theorem Gb.size(h:Gb w w'):w.heap.size<=w'.heap.size:=Below.size h
theorem Gb.trans{a b c:World}(h:Gb a b)(k:Gb b c):Gb a c:=Below.trans h (Below.mono k h.size)
theorem Gb.alloc(h:Gb W w)(o:Obj):Gb W (w.alloc o):=Below.alloc h h.size o
theorem Gb.drew(h:Gb W w):Gb W w.drew:=Below.drew h
theorem Gb.setCell(h:Gb W w){a:Addr}(ha:W.heap.size<=a.block)(v:Value):Gb W (w.setCell a v):=Below.setCell h ha v
theorem Gb.below(h:Gb W w)(k:Below base w w')(hb:W.heap.size<=base):Gb W w':=Below.trans h (Below.mono k hb)
theorem Gb.old(h:Gb W w)(hv:W.cell? ⟨b,o,none⟩=some v):w.cell? ⟨b,o,none⟩=some v:=
 (Below.cell h (p:=⟨b,o,none⟩) (au hv)).trans hv
theorem Gb.fz(h:Gb W w)(hb:b<W.heap.size)(hz:W.frozen? ⟨b,o,none⟩=false):w.frozen? ⟨b,o,none⟩=false:=
 (Below.frozen h (p:=⟨b,o,none⟩) hb).trans hz
def Raw(w:World)(v:Value)(n N:Nat):Prop:=
 N<4294967296^n/\∃b cap,v=.slice (some ⟨b,0,none⟩) n cap/\n<=cap/\cap<=maxLen/\∀j,j<n->w.cell? ⟨b,j,none⟩=some (.int .u32 (dg N j:Int))
def Big(w:World)(v:Value)(n N:Nat):Prop:=Nm n N/\Raw w v n N
theorem Raw.gb(h:Raw w v n N)(k:Gb w w'):Raw w' v n N:=by
 obtain⟨h1,b,cap,h2,h3,h3',h4⟩:=h;exact⟨h1,b,cap,h2,h3,h3',λj hj=>k.old (h4 j hj)⟩
theorem Big.gb(h:Big w v n N)(k:Gb w w'):Big w' v n N:=⟨h.1,h.2.gb k⟩
theorem Raw.alloc(h:Raw w v n N)(o:Obj):Raw (w.alloc o) v n N:=h.gb ((Gb.refl w).alloc o)
theorem Big.alloc(h:Big w v n N)(o:Obj):Big (w.alloc o) v n N:=h.gb ((Gb.refl w).alloc o)
def Own(w:World)(base:Nat)(v:Value)(n N:Nat):Prop:=w.ownsRow base 155 1 v n (Yg n N)/\v≠ .slice none 0 0
theorem Own.raw(h:Own w base v n N)(hN:N<4294967296^n):Raw w v n N:=by
 obtain⟨⟨h1,h2⟩,h3⟩:=h;rcases h2 with⟨rfl,_⟩|⟨g,cap,cur,rfl,hb,hh,hc,hm,hs,ht⟩
 .exact absurd rfl h3
 .refine⟨hN,g,cap,rfl,hc,hm,λj hj=>?_⟩;have e:cur.toList[j]?=some (.int .u32 (dg N j:Int)):=by
   rw[<-Dl n N j hj,<-ht,List.getElem?_take_of_lt (by omega)]
  simp only[Array.getElem?_toList]at e;simp[World.cell?,hh,e]
theorem Own.alloc(h:Own w base v n N)(o:Obj):Own (w.alloc o) base v n N:=⟨h.1.alloc o,h.2⟩
theorem Own.drew(h:Own w base v n N):Own w.drew base v n N:=⟨h.1.drew,h.2⟩
theorem WH:(Tryz.prog.info? 155).map (λi=>(i.zero,i.size,i.bytes))=some (some (.int .u32 0),1,4):=by kernel_rfl
theorem eY{o:Oper}{a:Act}(Z8:o.guard=none)(s x:Operand)
  (ho:o.op=.call {callee:=.builtin .append,args:=#[s,x],argTypes:=#[93,93]})
  (base n N:Nat) (v:Value) (b:Nat) (hs:a.eval s=v) (gZ:Own w base v n N) (hx:a.eval x=.slice (some ⟨b,0,none⟩) 1 1)
  (hc:w.cell? ⟨b,0,none⟩=some (.int .u32 (dg N n:Int))) (hn:n<=1000000000) (nN:base<=w.heap.size)
  (h:∀v' w',Own w' base v' (n+1) N->Below base w w'->wpList Tryz.prog ops Q rest (a.put o.dst v') w'):wpList Tryz.prog ops Q (o::rest) a w:=by
 obtain⟨i0,hi,lF,iR,lu⟩:=info_parts WH;refine wpList_append_own _ Z8 s x 93 ho base 155 i0 (.int .u32 0) 1 4 Tryz.underlying93 hi lF iR lu rfl (by decide) v n (Yg n N) hs gZ.1 ⟨b,0,none⟩ 1 1 [.int .u32 (dg N n:Int)] hx rfl ?_ ?_ (by unfold maxLen;omega) (by omega) nN ?_
 .intro j u hj
  match j,hj with
  |0,hj=>simp at hj;subst hj;simpa[Addr.add]using hc
 .intro u hu;simp at hu;subst hu;rfl
 .intro v' w' tX kY aDx;refine h v' w' ⟨by rw[aD3];exact tX,λe=>?_⟩ ?_
  .exact absurd (aDx.mp e).1 gZ.2
  .refine(Below.refl base w).grown kY nN ?_;intro k hk;exact(gZ.1.lt k hk).1
theorem Gb.FT(h:Gb W w)(hv:W.cell? ⟨b,o,none⟩=some v)(hz:W.frozen? ⟨b,o,none⟩=false):w.frozen? ⟨b,o,none⟩=false:=h.fz (au hv) hz
theorem nI(h:Raw w v n N)(hn:n<=1000000000):
  CT 220 #[v] w λe w'=>∃v' k,e=.returned v'/\w=w'/\Big w v' k N/\k<=n:=by
 obtain⟨hN,b,cap,rfl,kJ,Bd,aW⟩:=h;have Ti:cap<=9223372036854775807:=Bd;have HC:Hid _:=aW;have HN:Hid _:=hN;have HM:Hid _:=Bd;clear aW hN Bd;go_enter func220,ntmps220;go_wp2;go_loop [3] (λi=>∃k:Nat,k<=n/\i=.int .i64 k/\Hid (N<4294967296^k)) (λi=>(intOf i).toNat)
 case atStart=>exact⟨n,Nat.le_refl _,rfl,HN.out⟩
 case round=>
  obtain⟨k,hk,rfl,HK⟩:=hrel;rcases Nat.eq_zero_or_pos k with rfl|jm
  .have HF:Hid (Big w (.slice (some ⟨b,0,none⟩) 0 cap) 0 N):=⟨⟨HK.out,.inl rfl⟩,HK.out,b,cap,rfl,Nat.zero_le _,HM.out,λj hj=>by omega⟩;go_wp2;go_returns;exact⟨_,rfl,rfl,_,HF.out,by omega⟩
  .obtain⟨j,rfl⟩:∃j,k=j+1:=⟨k-1,by omega⟩;have hc:w.cell? ⟨b,j,none⟩=some (.int .u32 (dg N j:Int)):=HC.out j (by omega);have hjj:((j+1:Nat):Int)-1=(j:Int):=by omega
   by_cases hz:dg N j=0
   .have HL:Hid _:=Qd HK.out hz;have lu:((dg N j:Nat):Int)=0:=by omega
    rw[lu]at hc;clear hz lu;go_wp2;go_round
    case rel=>exact⟨j,by omega,by go_num,HL.out⟩
    case measure=>simp[intOf]<;>omega
   .have lu:(((dg N j:Nat):Int)==0)=false:=by simp;omega
    have HF:Hid (Big w (.slice (some ⟨b,0,none⟩) (j+1) cap) (j+1) N):=⟨⟨HK.out,.inr (Xf hz)⟩,HK.out,b,cap,rfl,by omega,HM.out,λi hi=>HC.out i (by omega)⟩;clear hz;go_wp2;go_returns;exact⟨_,rfl,rfl,_,HF.out,by omega⟩
theorem aQ3(W:Nat)(h1:aG W)(w:World)(t:TypeId):
  Raw (w.alloc (Obj.cells #[Value.int IntKind.u32 ((W:Int)%4294967296),Value.int IntKind.u32 ((W:Int)/4294967296)] t)) (.slice (some ⟨w.heap.size,0,none⟩) 2 2) 2 W:=by
 refine⟨by omega,w.heap.size,2,rfl,by omega,by decide,λj hj=>?_⟩
 match j,hj with
 |0,_=>
  have e:((dg W 0:Nat):Int)=(W:Int)%4294967296:=by unfold dg;simp
  rw[e];simp[go_sem]
 |1,_=>
  have e:((dg W 1:Nat):Int)=(W:Int)/4294967296:=by unfold dg;rw[Nat.pow_one];omega
  rw[e];simp[go_sem]
theorem gY(W:Nat)(h1:aG W)(w:World):
  CT 132 #[.int .u64 W] w λe w'=>∃v' k,e=.returned v'/\Big w' v' k W/\k<=2/\Gb w w':=by
 go_enter func132,ntmps132;go_wp2_with (go_at_call 220;refine(nI (aQ3 W h1 w _) (by omega)).mono ?_;rintro e w' ⟨v',k,rfl,hw,mF,hk⟩;rw[<-hw];clear hw);go_returns;exact⟨_,_,rfl,mF,hk,(Gb.refl w).alloc _⟩
theorem FC(h:Big w v n N)(hn:n<=1000000000):
  QW 221 #[v] w (.int .i64 (nb N)):=by
 obtain⟨uG,hN,b,cap,rfl,kJ,Bd,aW⟩:=h;rcases Nat.eq_zero_or_pos n with rfl|jm
 .have e:nb N=0:=by rw[uG.zero];rfl
  rw[e];clear aW uG hN e;go_enter func221,ntmps221;go_wp2;go_ret;exact⟨rfl,rfl⟩
 .obtain⟨m,rfl⟩:∃m,n=m+1:=⟨n-1,by omega⟩;obtain⟨ht,jV⟩:=aMW uG;have hc:w.cell? ⟨b,m,none⟩=some (.int .u32 (dg N m:Int)):=aW m (by omega);have hd:=kK N m;have h32:nb (dg N m)<=32:=sW (by simpa using hd);have HT:Hid _:=ht;generalize dg N m=t at*
  have hmm:((m+1:Nat):Int)-1=(m:Int):=by omega
  have hm0:(((m+1:Nat):Int)==0)=false:=by simp;omega
  clear aW uG hN ht jV;go_enter func221,ntmps221;go_wp2;go_loop [3,4] (λi u=>∃k s:Nat,i=.int .i64 (((m:Int)*32+k:Int))/\u=.int .u32 s/\Hid (nb t=k+nb s)/\k<=32/\s<4294967296) (λ_ u=>(intOf u).toNat)
  case atStart=>exact⟨0,t,by go_num,rfl,by show _=_;omega,by omega,hd⟩
  case round=>
   obtain⟨k,s,rfl,rfl,HB,hk,hs⟩:=hrel;rcases Nat.eq_zero_or_pos s with rfl|spos
   .have e:(m:Int)*32+k=(nb N:Int):=by
     have:=HB.out;have:=HT.out;rw[J4]at*;omega
    have E:Hid _:=e;clear e;go_wp2;go_returns;exact⟨bU (congrArg (Value.int IntKind.i64) E.out),rfl⟩
   .have hh:=SE s spos;have HH:Hid (nb t=(k+1)+nb (s/2)):=by show _=_;have:=HB.out;omega
    have jB:k+1<=32:=by have:=HH.out;omega
    have spos':(0:Int)<(s:Int):=by omega
    clear hh;go_wp2;go_round
    case rel=>exact⟨k+1,s/2,by go_num,by go_num,HH,jB,by omega⟩
    case measure=>simp[intOf]<;>omega
theorem ZJ(h:Big w v n N)(hn:n<=1000000000):
  QW 154 #[v,.int .i64 0] w (.int .u32 ((N:Int)%2)):=by
 obtain⟨uG,hN,b,cap,rfl,kJ,Bd,aW⟩:=h;rcases Nat.eq_zero_or_pos n with rfl|jm
 .have e:N=0:=uG.zero;subst e;clear aW uG hN;go_enter func154,ntmps154;go_wp2;go_returns;exact⟨rfl,rfl⟩
 .have hc:w.cell? ⟨b,0,none⟩=some (.int .u32 (dg N 0:Int)):=aW 0 (by omega);have hd:((dg N 0:Nat):Int)%2=(N:Int)%2:=by unfold dg;simp only[Nat.pow_zero,Nat.div_one];omega
  have hl:=kK N 0;have HD:Hid _:=hd;generalize dg N 0=t at*
  clear aW uG hN hd;go_enter func154,ntmps154;go_wp2;go_returns;first|exact⟨bU (congrArg (Value.int IntKind.u32) HD.out),rfl⟩|(refine⟨bU (congrArg (Value.int IntKind.u32) ?_),rfl⟩;have:=HD.out;simp;omega)
theorem Na(h:Big w v n N)(hn:n<=1000000000)(hW:aG N):
  QW 225 #[v] w (.int .u64 N):=by
 obtain⟨uG,hN,b,cap,rfl,kJ,Bd,aW⟩:=h;have HC:Hid _:=aW;have HN:Hid _:=hN;clear aW uG hN;go_enter func225,ntmps225;go_wp2;go_loop [3,4] (λu i=>∃(j W:Nat),j<=n/\u=.int .u64 W/\i=.int .i64 ((j:Int)-1)/\Hid (W=N/4294967296^j)) (λ_ i=>(intOf i+1).toNat)
 case atStart=>exact⟨n,0,Nat.le_refl _,rfl,by go_num,by show _=_;rw[Nat.div_eq_of_lt HN.out]⟩
 case round=>
  obtain⟨j,W,hj,rfl,rfl,HW⟩:=hrel;rcases Nat.eq_zero_or_pos j with rfl|aRI
  .have e:((W:Nat):Int)=(N:Int):=by have:=HW.out;simp at this;omega
   have E:Hid _:=e;clear e;go_wp2;go_returns;exact⟨bU (congrArg (Value.int IntKind.u64) E.out),rfl⟩
  .obtain⟨i,rfl⟩:∃i,j=i+1:=⟨j-1,by omega⟩;have hc:w.cell? ⟨b,i,none⟩=some (.int .u32 (dg N i:Int)):=HC.out i (by omega);have hs:=aBK N i;have hd:=kK N i;have rG:=Nat.div_le_self N (4294967296^i);rw[<-HW.out]at hs;have HS:Hid _:=hs;have hb:W*4294967296+dg N i<18446744073709551616:=by omega
   have hjj:((i+1:Nat):Int)-1=(i:Int):=by omega
   clear hs rG;generalize dg N i=t at*
   go_wp2;go_round
   case rel=>exact⟨i,W*4294967296+t,by omega,by go_num,by go_num,HS.out⟩
   case measure=>simp[intOf]<;>omega
theorem aLH{P:Prop}(h:P:=by
 subst e;have jV:((n:Int)==(n':Int))=false:=by simp;omega
 clear aW gK hN zo h hz;go_enter func133,ntmps133;go_wp2;go_returns;exact⟨rfl,Gb.refl w⟩):P:=h
def iK(a b:Nat):Int:=if a<b then-1 else if b<a then 1 else 0
theorem ZI{z:Int}(hn:n<=1000000)(hN:Nm n N)(C9:n'<=1000000)(zo:Nm n' N')
  (aW:∀j,j<n->w.cell? ⟨b,j,none⟩=some (.int .u32 (dg N j:Int))) (kJ:n<=cap) (gK:∀j,j<n'->w.cell? ⟨b',j,none⟩=some (.int .u32 (dg N' j:Int))) (pq:n'<=cap') (hz:z=iK N N'):
  CT 133 #[.slice (some ⟨b,0,none⟩) n cap,.slice (some ⟨b',0,none⟩) n' cap'] w λe w'=>e=.returned (.int .i64 z)/\Gb w w':=by
 rcases Nat.lt_trichotomy n n' with hl|hl|hl
 .have h:=hN.lt zo hl;have e:z=-1:=by rw[hz];unfold iK;rw[if_pos h]
  exact aLH
 .subst hl;have HC:Hid _:=aW;have Yb:Hid _:=gK;have HZ:Hid _:=hz;have HN:Hid _:=(⟨hN.1,zo.1⟩:N<4294967296^n/\N'<4294967296^n);clear aW gK hz hN zo;go_enter func133,ntmps133;go_wp2;go_loopw [5] (λi wr=>∃j:Nat,j<=n/\i=.int .i64 ((j:Int)-1)/\Hid (N/4294967296^j=N'/4294967296^j)/\Gb w wr) (λi _=>(intOf i+1).toNat)
  case atStart=>exact⟨n,Nat.le_refl _,by go_num,by show _=_;rw[Nat.div_eq_of_lt HN.out.1,Nat.div_eq_of_lt HN.out.2],Gb.refl w⟩
  case round=>
   obtain⟨j,hj,rfl,HE,dH⟩:=hrel;have HG:Hid _:=dH;clear dH;rcases Nat.eq_zero_or_pos j with rfl|aRI
   .have e:(0:Int)=z:=by
     have:=HE.out;simp at this;rw[HZ.out,this];unfold iK;rw[if_neg (by omega),if_neg (by omega)]
    subst e;go_wp2;go_returns;exact⟨rfl,HG.out⟩
   .obtain⟨i,rfl⟩:∃i,j=i+1:=⟨j-1,by omega⟩;have hc:wr.cell? ⟨b,i,none⟩=some (.int .u32 (dg N i:Int)):=Gb.old HG.out (HC.out i (by omega));have Df:wr.cell? ⟨b',i,none⟩=some (.int .u32 (dg N' i:Int)):=Gb.old HG.out (Yb.out i (by omega));have hjj:((i+1:Nat):Int)-1=(i:Int):=by omega
    have hi1:(i:Int)<(n:Int):=by omega
    obtain⟨m1,m2,m3⟩:=aJT HE.out;rcases Nat.lt_trichotomy (dg N i) (dg N' i)with c|c|c
    .have e:(-1:Int)=z:=by rw[HZ.out];unfold iK;rw[if_pos (m1 c)]
     subst e;have c':(dg N i:Int)<(dg N' i:Int):=by omega
     clear m1 m2 m3 HE;generalize dg N i=t at*
     generalize dg N' i=t' at*
     go_wp2;go_region;all_goals (try go_wp2)
     all_goals go_returns
     all_goals first|exact⟨rfl,HG.out⟩|exact⟨rfl,Gb.drew HG.out⟩|exact⟨rfl,Gb.drew (Gb.drew HG.out)⟩
    .have HE2:Hid _:=m3 c;have c':(dg N i:Int)=(dg N' i:Int):=by omega
     rw[<-c']at Df;clear m1 m2 m3 HE c c';generalize dg N i=t at*
     go_wp2;go_region;all_goals (try go_wp2)
     all_goals go_region
     all_goals (try go_wp2)
     all_goals go_roundw
     all_goals first|exact⟨i,by omega,by go_num,HE2.out,HG.out⟩|exact⟨i,by omega,by go_num,HE2.out,Gb.drew HG.out⟩|exact⟨i,by omega,by go_num,HE2.out,Gb.drew (Gb.drew HG.out)⟩|(simp[intOf]<;>omega)
    .have e:(1:Int)=z:=by rw[HZ.out];unfold iK;rw[if_neg (by have:=m2 c;omega),if_pos (m2 c)]
     subst e;have c':(dg N' i:Int)<(dg N i:Int):=by omega
     clear m1 m2 m3 HE;generalize dg N i=t at*
     generalize dg N' i=t' at*
     go_wp2;go_region;all_goals (try go_wp2)
     all_goals go_region
     all_goals (try go_wp2)
     all_goals go_returns
     all_goals first|exact⟨rfl,HG.out⟩|exact⟨rfl,Gb.drew HG.out⟩|exact⟨rfl,Gb.drew (Gb.drew HG.out)⟩
 .have h:=zo.lt hN hl;have e:z=1:=by rw[hz];unfold iK;rw[if_neg (by omega),if_pos h]
  exact aLH
theorem jD(h:Big w v n N)(hn:n<=1000000)(h':Big w v2 n' N')(C9:n'<=1000000):
  CT 133 #[v,v2] w λe w'=>e=.returned (.int .i64 (iK N N'))/\Gb w w':=by
 obtain⟨uG,hN,b,cap,rfl,kJ,Bd,aW⟩:=h;obtain⟨WV,zo,b',cap',rfl,pq,Ti,gK⟩:=h';exact ZI hn uG C9 WV aW kJ gK pq rfl
abbrev KB(F:Nat)(xs:Array Value)(v:Value):Prop:=Hid (∀w,Calls Tryz.prog F xs w λe w'=>e=.returned v/\Gb w w')
abbrev QB(F:Nat)(xs:Array Value)(w:World)(v:Value):Prop:=Calls Tryz.prog F xs w λe w'=>e=.returned v/\Gb w w'
theorem Gr.c(h:Gr W w)(k:W.cell? ⟨b,o,none⟩=some v:=by exact kl):w.cell? ⟨b,o,none⟩=some v:=h.old k
theorem Gr.z(h:Gr W w)(k:W.frozen? ⟨b,o,none⟩=false:=by exact kl):w.frozen? ⟨b,o,none⟩=false:=iw h k
theorem Gb.c(h:Gb W w)(k:W.cell? ⟨b,o,none⟩=some v:=by exact kb):w.cell? ⟨b,o,none⟩=some v:=h.old k
theorem Gb.z(h:Gb W w)(hv:w.cell? ⟨b,o,none⟩=some v)(k0:W.cell? ⟨b,o,none⟩=some v:=by exact kb)(k:W.frozen? ⟨b,o,none⟩=false:=by exact kb):w.frozen? ⟨b,o,none⟩=false:=h.FT k0 k
theorem Gr.g(h:Gr W w:=by exact kr):Gr W w:=h
theorem Gb.g(h:Gb W w:=by exact kg):Gb W w:=h
theorem Gb.hs(h:Gb W w)(hv:(W.cell? ⟨b,o,none⟩).isSome =true):(w.cell? ⟨b,o,none⟩).isSome =true:=by
 obtain⟨v,hv⟩:=Option.isSome_iff_exists.mp hv;exact jS (h.old hv)
theorem Gb.fh(h:Gb W w)(hv:(W.cell? ⟨b,o,none⟩).isSome =true)(hz:W.frozen? ⟨b,o,none⟩=false):w.frozen? ⟨b,o,none⟩=false:=by
 obtain⟨v,hv⟩:=Option.isSome_iff_exists.mp hv;exact h.FT hv hz
theorem Gr.a(h:Gr W w)(k:W.cell? ⟨b,o,none⟩=some v:=by exact kl)(ob:Obj):(w.alloc ob).cell? ⟨b,o,none⟩=some v:=aZ ob (h.old k)
theorem kh{P:Prop}(h:P:=by(go_split_ands;(repeat' (first|(with_reducible assumption)|(with_reducible refine jS (by with_reducible assumption))|(with_reducible refine Gr.old (by with_reducible assumption) ?_)|(with_reducible refine Gb.old (by with_reducible assumption) ?_)|(with_reducible refine Gb.hs (by with_reducible assumption) ?_)|(with_reducible refine Tt (by with_reducible assumption) ?_)|(with_reducible refine dn ?_)|(with_reducible refine has_set ?_)|(with_reducible refine bI ?_ ?_;omega)|(with_reducible refine aS ?_ ?_;(dsimp only;omega))|(simp[go_sem];first|done|rfl)|(with_reducible refine aZ _ ?_)|(with_reducible refine qA ?_)|(with_reducible refine FQ _ ?_)|(with_reducible refine iw (by with_reducible assumption) ?_)|(with_reducible refine Gb.fh (by with_reducible assumption) (by with_reducible assumption) ?_)|(with_reducible refine cu ?_)|(with_reducible refine bf ?_)|(with_reducible refine rZ ?_)|go_size)))):P:=h
theorem o8{P:Prop}(h:P:=by(go_split_ands;(repeat' apply And.intro)<;>exact kl)):P:=h
theorem uf{P:Prop}(h:P:=by(go_split_ands;(repeat' apply And.intro)<;>exact kb)):P:=h
theorem nX{P:Prop}(h:P:=by(go_split_ands;(repeat' apply And.intro)<;>exact kh)):P:=h
theorem Gr.aAq(h:Gr W w)(k:W.cell? ⟨b,i0,none⟩=some v0):w.cell? ⟨b,i0,none⟩=some v0:=h.old k
theorem Gb.aAq(h:Gb W w)(k:W.cell? ⟨b,i0,none⟩=some v0):w.cell? ⟨b,i0,none⟩=some v0:=h.old k
theorem Gr.N9(h:Gr W w)(k:kM W b i0 i1 v0 v1):kM w b i0 i1 v0 v1:=⟨h.old k.1,h.aAq k.2⟩
theorem Gb.N9(h:Gb W w)(k:kM W b i0 i1 v0 v1):kM w b i0 i1 v0 v1:=⟨h.old k.1,h.aAq k.2⟩
theorem Gr.aAp(h:Gr W w)(k:jv W b i0 i1 i2 v0 v1 v2):jv w b i0 i1 i2 v0 v1 v2:=⟨h.old k.1,h.N9 k.2⟩
theorem Gb.aAp(h:Gb W w)(k:jv W b i0 i1 i2 v0 v1 v2):jv w b i0 i1 i2 v0 v1 v2:=⟨h.old k.1,h.N9 k.2⟩
theorem Gr.N8(h:Gr W w)(k:oV W b i0 i1 i2 i3 v0 v1 v2 v3):oV w b i0 i1 i2 i3 v0 v1 v2 v3:=⟨h.old k.1,h.aAp k.2⟩
theorem Gb.N8(h:Gb W w)(k:oV W b i0 i1 i2 i3 v0 v1 v2 v3):oV w b i0 i1 i2 i3 v0 v1 v2 v3:=⟨h.old k.1,h.aAp k.2⟩
theorem Gr.N7(h:Gr W w)(k:rC W b i0 i1 i2 i3 i4 v0 v1 v2 v3 v4):rC w b i0 i1 i2 i3 i4 v0 v1 v2 v3 v4:=⟨h.old k.1,h.N8 k.2⟩
theorem Gb.N7(h:Gb W w)(k:rC W b i0 i1 i2 i3 i4 v0 v1 v2 v3 v4):rC w b i0 i1 i2 i3 i4 v0 v1 v2 v3 v4:=⟨h.old k.1,h.N8 k.2⟩
theorem Gr.aNR(h:Gr W w)(k:KE6 W b i0 i1 i2 i3 i4 i5 v0 v1 v2 v3 v4 v5):KE6 w b i0 i1 i2 i3 i4 i5 v0 v1 v2 v3 v4 v5:=⟨h.old k.1,h.N7 k.2⟩
theorem Gb.aNR(h:Gb W w)(k:KE6 W b i0 i1 i2 i3 i4 i5 v0 v1 v2 v3 v4 v5):KE6 w b i0 i1 i2 i3 i4 i5 v0 v1 v2 v3 v4 v5:=⟨h.old k.1,h.N7 k.2⟩
theorem Gr.aAo(h:Gr W w)(k:X0 W b i0 i1 i2 i3 i4 i5 i6 v0 v1 v2 v3 v4 v5 v6):X0 w b i0 i1 i2 i3 i4 i5 i6 v0 v1 v2 v3 v4 v5 v6:=⟨h.old k.1,h.aNR k.2⟩
theorem Gb.aAo(h:Gb W w)(k:X0 W b i0 i1 i2 i3 i4 i5 i6 v0 v1 v2 v3 v4 v5 v6):X0 w b i0 i1 i2 i3 i4 i5 i6 v0 v1 v2 v3 v4 v5 v6:=⟨h.old k.1,h.aNR k.2⟩
theorem Gr.NZ(h:Gr W w)(k:KF1 W b i0 v0):KF1 w b i0 v0:=⟨h.old k.1,iw h k.2⟩
theorem Gb.NZ(h:Gb W w)(k:KF1 W b i0 v0):KF1 w b i0 v0:=⟨h.old k.1,h.FT k.1 k.2⟩
theorem Gr.lS(h:Gr W w)(k:jC W b i0 i1 v0 v1):jC w b i0 i1 v0 v1:=⟨h.old k.1,iw h k.2.1,h.NZ k.2.2⟩
theorem Gb.lS(h:Gb W w)(k:jC W b i0 i1 v0 v1):jC w b i0 i1 v0 v1:=⟨h.old k.1,h.FT k.1 k.2.1,h.NZ k.2.2⟩
theorem Gr.aHv(h:Gr W w)(k:KF3 W b i0 i1 i2 v0 v1 v2):KF3 w b i0 i1 i2 v0 v1 v2:=⟨h.old k.1,iw h k.2.1,h.lS k.2.2⟩
theorem Gb.aHv(h:Gb W w)(k:KF3 W b i0 i1 i2 v0 v1 v2):KF3 w b i0 i1 i2 v0 v1 v2:=⟨h.old k.1,h.FT k.1 k.2.1,h.lS k.2.2⟩
theorem Gr.zD(h:Gr W w)(k:qL W b i0 i1 i2 i3 v0 v1 v2 v3):qL w b i0 i1 i2 i3 v0 v1 v2 v3:=⟨h.old k.1,iw h k.2.1,h.aHv k.2.2⟩
theorem Gb.zD(h:Gb W w)(k:qL W b i0 i1 i2 i3 v0 v1 v2 v3):qL w b i0 i1 i2 i3 v0 v1 v2 v3:=⟨h.old k.1,h.FT k.1 k.2.1,h.aHv k.2.2⟩
theorem Gr.Eo(h:Gr W w)(k:OC W b i0 i1 i2 i3 i4 v0 v1 v2 v3 v4):OC w b i0 i1 i2 i3 i4 v0 v1 v2 v3 v4:=⟨h.old k.1,iw h k.2.1,h.zD k.2.2⟩
theorem Gb.Eo(h:Gb W w)(k:OC W b i0 i1 i2 i3 i4 v0 v1 v2 v3 v4):OC w b i0 i1 i2 i3 i4 v0 v1 v2 v3 v4:=⟨h.old k.1,h.FT k.1 k.2.1,h.zD k.2.2⟩
theorem Gr.aHu(h:Gr W w)(k:KF6 W b i0 i1 i2 i3 i4 i5 v0 v1 v2 v3 v4 v5):KF6 w b i0 i1 i2 i3 i4 i5 v0 v1 v2 v3 v4 v5:=⟨h.old k.1,iw h k.2.1,h.Eo k.2.2⟩
theorem Gb.aHu(h:Gb W w)(k:KF6 W b i0 i1 i2 i3 i4 i5 v0 v1 v2 v3 v4 v5):KF6 w b i0 i1 i2 i3 i4 i5 v0 v1 v2 v3 v4 v5:=⟨h.old k.1,h.FT k.1 k.2.1,h.Eo k.2.2⟩
theorem Gr.oH(h:Gr W w)(k:vG W b i0 i1 i2 i3 i4 i5 i6 v0 v1 v2 v3 v4 v5 v6):vG w b i0 i1 i2 i3 i4 i5 i6 v0 v1 v2 v3 v4 v5 v6:=⟨h.old k.1,iw h k.2.1,h.aHu k.2.2⟩
theorem Gb.oH(h:Gb W w)(k:vG W b i0 i1 i2 i3 i4 i5 i6 v0 v1 v2 v3 v4 v5 v6):vG w b i0 i1 i2 i3 i4 i5 i6 v0 v1 v2 v3 v4 v5 v6:=⟨h.old k.1,h.FT k.1 k.2.1,h.aHu k.2.2⟩
theorem aHQ(k:KF1 w b i0 v0)(c:Array Value)(t:TypeId):KF1 (w.alloc (.cells c t)) b i0 v0:=⟨aZ _ k.1,cu k.2⟩
theorem XK(k:jC w b i0 i1 v0 v1)(c:Array Value)(t:TypeId):jC (w.alloc (.cells c t)) b i0 i1 v0 v1:=⟨aZ _ k.1,cu k.2.1,aHQ k.2.2 c t⟩
theorem aQB(k:KF3 w b i0 i1 i2 v0 v1 v2)(c:Array Value)(t:TypeId):KF3 (w.alloc (.cells c t)) b i0 i1 i2 v0 v1 v2:=⟨aZ _ k.1,cu k.2.1,XK k.2.2 c t⟩
theorem aQA(k:qL w b i0 i1 i2 i3 v0 v1 v2 v3)(c:Array Value)(t:TypeId):qL (w.alloc (.cells c t)) b i0 i1 i2 i3 v0 v1 v2 v3:=⟨aZ _ k.1,cu k.2.1,aQB k.2.2 c t⟩
theorem aQz(k:OC w b i0 i1 i2 i3 i4 v0 v1 v2 v3 v4)(c:Array Value)(t:TypeId):OC (w.alloc (.cells c t)) b i0 i1 i2 i3 i4 v0 v1 v2 v3 v4:=⟨aZ _ k.1,cu k.2.1,aQA k.2.2 c t⟩
theorem aQy(k:KF6 w b i0 i1 i2 i3 i4 i5 v0 v1 v2 v3 v4 v5)(c:Array Value)(t:TypeId):KF6 (w.alloc (.cells c t)) b i0 i1 i2 i3 i4 i5 v0 v1 v2 v3 v4 v5:=⟨aZ _ k.1,cu k.2.1,aQz k.2.2 c t⟩
theorem aBF(k:vG w b i0 i1 i2 i3 i4 i5 i6 v0 v1 v2 v3 v4 v5 v6)(c:Array Value)(t:TypeId):vG (w.alloc (.cells c t)) b i0 i1 i2 i3 i4 i5 i6 v0 v1 v2 v3 v4 v5 v6:=⟨aZ _ k.1,cu k.2.1,aQy k.2.2 c t⟩
theorem aQE(k:w.cell? ⟨b,i0,none⟩=some v0)(ob:Obj):(w.alloc ob).cell? ⟨b,i0,none⟩=some v0:=aZ ob k
theorem aQD(k:kM w b i0 i1 v0 v1)(ob:Obj):kM (w.alloc ob) b i0 i1 v0 v1:=⟨aZ ob k.1,aQE k.2 ob⟩
theorem aQC(k:jv w b i0 i1 i2 v0 v1 v2)(ob:Obj):jv (w.alloc ob) b i0 i1 i2 v0 v1 v2:=⟨aZ ob k.1,aQD k.2 ob⟩
theorem aHR(k:oV w b i0 i1 i2 i3 v0 v1 v2 v3)(ob:Obj):oV (w.alloc ob) b i0 i1 i2 i3 v0 v1 v2 v3:=⟨aZ ob k.1,aQC k.2 ob⟩
theorem aL2(k:rC w b i0 i1 i2 i3 i4 v0 v1 v2 v3 v4)(ob:Obj):rC (w.alloc ob) b i0 i1 i2 i3 i4 v0 v1 v2 v3 v4:=⟨aZ ob k.1,aHR k.2 ob⟩
theorem Gr.C10(h:Gr W w)(x:World)(k:W.cell? ⟨x.heap.size,0,none⟩=some v0:=by exact o8):w.cell? ⟨x.heap.size,0,none⟩=some v0:=h.aAq k
theorem Gr.Ap(h:Gr W w)(x:World)(k:kM W x.heap.size 0 1 v0 v1:=by exact o8):kM w x.heap.size 0 1 v0 v1:=h.N9 k
theorem Gr.QS(h:Gr W w)(x:World)(k:kM W (x.heap.size+1) 0 1 v0 v1:=by exact o8):kM w (x.heap.size+1) 0 1 v0 v1:=h.N9 k
theorem Gr.C22(h:Gr W w)(x:World)(k:kM W (x.heap.size+1+1) 0 1 v0 v1:=by exact o8):kM w (x.heap.size+1+1) 0 1 v0 v1:=h.N9 k
theorem Gr.C30(h:Gr W w)(x:World)(k:jv W x.heap.size 0 1 2 v0 v1 v2:=by exact o8):jv w x.heap.size 0 1 2 v0 v1 v2:=h.aAp k
theorem Gr.C31(h:Gr W w)(x:World)(k:jv W (x.heap.size+1) 0 1 2 v0 v1 v2:=by exact o8):jv w (x.heap.size+1) 0 1 2 v0 v1 v2:=h.aAp k
theorem Gr.fG(h:Gr W w)(x:World)(k:oV W x.heap.size 0 1 2 3 v0 v1 v2 v3:=by exact o8):oV w x.heap.size 0 1 2 3 v0 v1 v2 v3:=h.N8 k
theorem Gr.Uc(h:Gr W w)(x:World)(k:oV W (x.heap.size+1) 0 1 2 3 v0 v1 v2 v3:=by exact o8):oV w (x.heap.size+1) 0 1 2 3 v0 v1 v2 v3:=h.N8 k
theorem Gr.oL(h:Gr W w)(x:World)(k:rC W x.heap.size 0 1 2 3 4 v0 v1 v2 v3 v4:=by exact o8):rC w x.heap.size 0 1 2 3 4 v0 v1 v2 v3 v4:=h.N7 k
theorem Gr.C71(h:Gr W w)(x:World)(k:X0 W (x.heap.size+1) 0 1 2 3 4 5 6 v0 v1 v2 v3 v4 v5 v6:=by exact o8):X0 w (x.heap.size+1) 0 1 2 3 4 5 6 v0 v1 v2 v3 v4 v5 v6:=h.aAo k
theorem Gr.C72(h:Gr W w)(x:World)(k:X0 W (x.heap.size+1+1) 0 1 2 3 4 5 6 v0 v1 v2 v3 v4 v5 v6:=by exact o8):X0 w (x.heap.size+1+1) 0 1 2 3 4 5 6 v0 v1 v2 v3 v4 v5 v6:=h.aAo k
theorem Gr.Y2(h:Gr W w)(b:Nat)(k:jC W b 0 1 v0 v1:=by exact o8):jC w b 0 1 v0 v1:=h.lS k
theorem Gr.bG(h:Gr W w)(x:World)(k:jC W x.heap.size 0 1 v0 v1:=by exact o8):jC w x.heap.size 0 1 v0 v1:=h.lS k
theorem Gr.Y21(h:Gr W w)(x:World)(k:jC W (x.heap.size+1) 0 1 v0 v1:=by exact o8):jC w (x.heap.size+1) 0 1 v0 v1:=h.lS k
theorem Gr.TW(h:Gr W w)(x:World)(k:jC W (x.heap.size+1+1) 0 1 v0 v1:=by exact o8):jC w (x.heap.size+1+1) 0 1 v0 v1:=h.lS k
theorem Gr.Y23(h:Gr W w)(x:World)(k:jC W (x.heap.size+1+1+1) 0 1 v0 v1:=by exact o8):jC w (x.heap.size+1+1+1) 0 1 v0 v1:=h.lS k
theorem Gr.OB(h:Gr W w)(x:World)(k:qL W x.heap.size 0 1 2 3 v0 v1 v2 v3:=by exact o8):qL w x.heap.size 0 1 2 3 v0 v1 v2 v3:=h.zD k
theorem Gr.Y41(h:Gr W w)(x:World)(k:qL W (x.heap.size+1) 0 1 2 3 v0 v1 v2 v3:=by exact o8):qL w (x.heap.size+1) 0 1 2 3 v0 v1 v2 v3:=h.zD k
theorem Gr.yF(h:Gr W w)(x:World)(k:qL W (x.heap.size+1+1) 0 1 2 3 v0 v1 v2 v3:=by exact o8):qL w (x.heap.size+1+1) 0 1 2 3 v0 v1 v2 v3:=h.zD k
theorem Gr.Y50(h:Gr W w)(x:World)(k:OC W x.heap.size 0 1 2 3 4 v0 v1 v2 v3 v4:=by exact o8):OC w x.heap.size 0 1 2 3 4 v0 v1 v2 v3 v4:=h.Eo k
theorem Gr.Y51(h:Gr W w)(x:World)(k:OC W (x.heap.size+1) 0 1 2 3 4 v0 v1 v2 v3 v4:=by exact o8):OC w (x.heap.size+1) 0 1 2 3 4 v0 v1 v2 v3 v4:=h.Eo k
theorem Gr.Y70(h:Gr W w)(x:World)(k:vG W x.heap.size 0 1 2 3 4 5 6 v0 v1 v2 v3 v4 v5 v6:=by exact o8):vG w x.heap.size 0 1 2 3 4 5 6 v0 v1 v2 v3 v4 v5 v6:=h.oH k
theorem Gr.Jg(h:Gr W w)(x:World)(k:vG W (x.heap.size+1) 0 1 2 3 4 5 6 v0 v1 v2 v3 v4 v5 v6:=by exact o8):vG w (x.heap.size+1) 0 1 2 3 4 5 6 v0 v1 v2 v3 v4 v5 v6:=h.oH k
theorem Gr.Y72(h:Gr W w)(x:World)(k:vG W (x.heap.size+1+1) 0 1 2 3 4 5 6 v0 v1 v2 v3 v4 v5 v6:=by exact o8):vG w (x.heap.size+1+1) 0 1 2 3 4 5 6 v0 v1 v2 v3 v4 v5 v6:=h.oH k
theorem Gr.nY(h:Gr W w)(x:World)(k:vG W (x.heap.size+1+1+1) 0 1 2 3 4 5 6 v0 v1 v2 v3 v4 v5 v6:=by exact o8):vG w (x.heap.size+1+1+1) 0 1 2 3 4 5 6 v0 v1 v2 v3 v4 v5 v6:=h.oH k
theorem Gr.Ko(h:Gr W w)(x:World)(k:oV W x.heap.size 0 1 2 3 v0 v1 v2 v3:=by exact o8):(oV w x.heap.size 0 1 2 3 v0 v1 v2 v3)/\∀ob,oV (w.alloc ob) x.heap.size 0 1 2 3 v0 v1 v2 v3:=⟨h.N8 k,aHR (h.N8 k)⟩
theorem Gr.K50(h:Gr W w)(x:World)(k:rC W x.heap.size 0 1 2 3 4 v0 v1 v2 v3 v4:=by exact o8):(rC w x.heap.size 0 1 2 3 4 v0 v1 v2 v3 v4)/\∀ob,rC (w.alloc ob) x.heap.size 0 1 2 3 4 v0 v1 v2 v3 v4:=⟨h.N7 k,aL2 (h.N7 k)⟩
theorem Gr.A12(h:Gr W w)(x:World)(k:KF1 W (x.heap.size+1+1) 0 v0:=by exact o8):(KF1 w (x.heap.size+1+1) 0 v0)/\∀c t,KF1 (w.alloc (.cells c t)) (x.heap.size+1+1) 0 v0:=⟨h.NZ k,aHQ (h.NZ k)⟩
theorem Gr.A20(h:Gr W w)(x:World)(k:jC W x.heap.size 0 1 v0 v1:=by exact o8):(jC w x.heap.size 0 1 v0 v1)/\∀c t,jC (w.alloc (.cells c t)) x.heap.size 0 1 v0 v1:=⟨h.lS k,XK (h.lS k)⟩
theorem Gr.A22(h:Gr W w)(x:World)(k:jC W (x.heap.size+1+1) 0 1 v0 v1:=by exact o8):(jC w (x.heap.size+1+1) 0 1 v0 v1)/\∀c t,jC (w.alloc (.cells c t)) (x.heap.size+1+1) 0 1 v0 v1:=⟨h.lS k,XK (h.lS k)⟩
theorem Gr.A71(h:Gr W w)(x:World)(k:vG W (x.heap.size+1) 0 1 2 3 4 5 6 v0 v1 v2 v3 v4 v5 v6:=by exact o8):(vG w (x.heap.size+1) 0 1 2 3 4 5 6 v0 v1 v2 v3 v4 v5 v6)/\∀c t,vG (w.alloc (.cells c t)) (x.heap.size+1) 0 1 2 3 4 5 6 v0 v1 v2 v3 v4 v5 v6:=⟨h.oH k,aBF (h.oH k)⟩
theorem Gr.A73(h:Gr W w)(x:World)(k:vG W (x.heap.size+1+1+1) 0 1 2 3 4 5 6 v0 v1 v2 v3 v4 v5 v6:=by exact o8):(vG w (x.heap.size+1+1+1) 0 1 2 3 4 5 6 v0 v1 v2 v3 v4 v5 v6)/\∀c t,vG (w.alloc (.cells c t)) (x.heap.size+1+1+1) 0 1 2 3 4 5 6 v0 v1 v2 v3 v4 v5 v6:=⟨h.oH k,aBF (h.oH k)⟩
theorem Gr.e1(h:Gr W w)(b i0:Nat)(v0:Value)(k:W.cell? ⟨b,i0,none⟩=some v0:=by exact o8):w.cell? ⟨b,i0,none⟩=some v0:=h.aAq k
theorem Gr.e2(h:Gr W w)(b i0 i1:Nat)(v0 v1:Value)(k:kM W b i0 i1 v0 v1:=by exact o8):kM w b i0 i1 v0 v1:=h.N9 k
theorem Gr.e5(h:Gr W w)(b i0 i1 i2 i3 i4:Nat)(v0 v1 v2 v3 v4:Value)(k:rC W b i0 i1 i2 i3 i4 v0 v1 v2 v3 v4:=by exact o8):rC w b i0 i1 i2 i3 i4 v0 v1 v2 v3 v4:=h.N7 k
theorem Gr.e7(h:Gr W w)(b i0 i1 i2 i3 i4 i5 i6:Nat)(v0 v1 v2 v3 v4 v5 v6:Value)(k:X0 W b i0 i1 i2 i3 i4 i5 i6 v0 v1 v2 v3 v4 v5 v6:=by exact o8):X0 w b i0 i1 i2 i3 i4 i5 i6 v0 v1 v2 v3 v4 v5 v6:=h.aAo k
theorem Gr.y2(h:Gr W w)(b i0 i1:Nat)(v0 v1:Value)(k:jC W b i0 i1 v0 v1:=by exact o8):jC w b i0 i1 v0 v1:=h.lS k
theorem Gr.y4(h:Gr W w)(b i0 i1 i2 i3:Nat)(v0 v1 v2 v3:Value)(k:qL W b i0 i1 i2 i3 v0 v1 v2 v3:=by exact o8):qL w b i0 i1 i2 i3 v0 v1 v2 v3:=h.zD k
theorem Gr.y5(h:Gr W w)(b i0 i1 i2 i3 i4:Nat)(v0 v1 v2 v3 v4:Value)(k:OC W b i0 i1 i2 i3 i4 v0 v1 v2 v3 v4:=by exact o8):OC w b i0 i1 i2 i3 i4 v0 v1 v2 v3 v4:=h.Eo k
theorem Gr.y7(h:Gr W w)(b i0 i1 i2 i3 i4 i5 i6:Nat)(v0 v1 v2 v3 v4 v5 v6:Value)(k:vG W b i0 i1 i2 i3 i4 i5 i6 v0 v1 v2 v3 v4 v5 v6:=by exact o8):vG w b i0 i1 i2 i3 i4 i5 i6 v0 v1 v2 v3 v4 v5 v6:=h.oH k
theorem Gr.yo(h:Gr W w)(b:Nat)(k:vG W b 0 1 2 3 4 5 6 (.int .i64 0) (.int .i64 0) (.int .i64 0) (.int .u64 0) (.int .u64 0) (.bool false) (.int .i64 0):=by exact⟨kl,kl,kl,kl,kl,kl,kl,kl,kl,kl,kl,kl,kl,kl⟩):vG w b 0 1 2 3 4 5 6 (.int .i64 0) (.int .i64 0) (.int .i64 0) (.int .u64 0) (.int .u64 0) (.bool false) (.int .i64 0):=h.y7 _ 0 1 2 3 4 5 6 _ _ _ _ _ _ _ k
theorem Gb.C10(h:Gb W w)(x:World)(k:W.cell? ⟨x.heap.size,0,none⟩=some v0:=by exact uf):w.cell? ⟨x.heap.size,0,none⟩=some v0:=h.aAq k
theorem Gb.Ap(h:Gb W w)(x:World)(k:kM W x.heap.size 0 1 v0 v1:=by exact uf):kM w x.heap.size 0 1 v0 v1:=h.N9 k
theorem Gb.QS(h:Gb W w)(x:World)(k:kM W (x.heap.size+1) 0 1 v0 v1:=by exact uf):kM w (x.heap.size+1) 0 1 v0 v1:=h.N9 k
theorem Gb.C22(h:Gb W w)(x:World)(k:kM W (x.heap.size+1+1) 0 1 v0 v1:=by exact uf):kM w (x.heap.size+1+1) 0 1 v0 v1:=h.N9 k
theorem Gb.C30(h:Gb W w)(x:World)(k:jv W x.heap.size 0 1 2 v0 v1 v2:=by exact uf):jv w x.heap.size 0 1 2 v0 v1 v2:=h.aAp k
theorem Gb.C31(h:Gb W w)(x:World)(k:jv W (x.heap.size+1) 0 1 2 v0 v1 v2:=by exact uf):jv w (x.heap.size+1) 0 1 2 v0 v1 v2:=h.aAp k
theorem Gb.fG(h:Gb W w)(x:World)(k:oV W x.heap.size 0 1 2 3 v0 v1 v2 v3:=by exact uf):oV w x.heap.size 0 1 2 3 v0 v1 v2 v3:=h.N8 k
theorem Gb.Uc(h:Gb W w)(x:World)(k:oV W (x.heap.size+1) 0 1 2 3 v0 v1 v2 v3:=by exact uf):oV w (x.heap.size+1) 0 1 2 3 v0 v1 v2 v3:=h.N8 k
theorem Gb.oL(h:Gb W w)(x:World)(k:rC W x.heap.size 0 1 2 3 4 v0 v1 v2 v3 v4:=by exact uf):rC w x.heap.size 0 1 2 3 4 v0 v1 v2 v3 v4:=h.N7 k
theorem Gb.C71(h:Gb W w)(x:World)(k:X0 W (x.heap.size+1) 0 1 2 3 4 5 6 v0 v1 v2 v3 v4 v5 v6:=by exact uf):X0 w (x.heap.size+1) 0 1 2 3 4 5 6 v0 v1 v2 v3 v4 v5 v6:=h.aAo k
theorem Gb.C72(h:Gb W w)(x:World)(k:X0 W (x.heap.size+1+1) 0 1 2 3 4 5 6 v0 v1 v2 v3 v4 v5 v6:=by exact uf):X0 w (x.heap.size+1+1) 0 1 2 3 4 5 6 v0 v1 v2 v3 v4 v5 v6:=h.aAo k
theorem Gb.Y2(h:Gb W w)(b:Nat)(k:jC W b 0 1 v0 v1:=by exact uf):jC w b 0 1 v0 v1:=h.lS k
theorem Gb.bG(h:Gb W w)(x:World)(k:jC W x.heap.size 0 1 v0 v1:=by exact uf):jC w x.heap.size 0 1 v0 v1:=h.lS k
theorem Gb.Y21(h:Gb W w)(x:World)(k:jC W (x.heap.size+1) 0 1 v0 v1:=by exact uf):jC w (x.heap.size+1) 0 1 v0 v1:=h.lS k
theorem Gb.TW(h:Gb W w)(x:World)(k:jC W (x.heap.size+1+1) 0 1 v0 v1:=by exact uf):jC w (x.heap.size+1+1) 0 1 v0 v1:=h.lS k
theorem Gb.Y23(h:Gb W w)(x:World)(k:jC W (x.heap.size+1+1+1) 0 1 v0 v1:=by exact uf):jC w (x.heap.size+1+1+1) 0 1 v0 v1:=h.lS k
theorem Gb.OB(h:Gb W w)(x:World)(k:qL W x.heap.size 0 1 2 3 v0 v1 v2 v3:=by exact uf):qL w x.heap.size 0 1 2 3 v0 v1 v2 v3:=h.zD k
theorem Gb.Y41(h:Gb W w)(x:World)(k:qL W (x.heap.size+1) 0 1 2 3 v0 v1 v2 v3:=by exact uf):qL w (x.heap.size+1) 0 1 2 3 v0 v1 v2 v3:=h.zD k
theorem Gb.yF(h:Gb W w)(x:World)(k:qL W (x.heap.size+1+1) 0 1 2 3 v0 v1 v2 v3:=by exact uf):qL w (x.heap.size+1+1) 0 1 2 3 v0 v1 v2 v3:=h.zD k
theorem Gb.Y50(h:Gb W w)(x:World)(k:OC W x.heap.size 0 1 2 3 4 v0 v1 v2 v3 v4:=by exact uf):OC w x.heap.size 0 1 2 3 4 v0 v1 v2 v3 v4:=h.Eo k
theorem Gb.Y51(h:Gb W w)(x:World)(k:OC W (x.heap.size+1) 0 1 2 3 4 v0 v1 v2 v3 v4:=by exact uf):OC w (x.heap.size+1) 0 1 2 3 4 v0 v1 v2 v3 v4:=h.Eo k
theorem Gb.Y70(h:Gb W w)(x:World)(k:vG W x.heap.size 0 1 2 3 4 5 6 v0 v1 v2 v3 v4 v5 v6:=by exact uf):vG w x.heap.size 0 1 2 3 4 5 6 v0 v1 v2 v3 v4 v5 v6:=h.oH k
theorem Gb.Jg(h:Gb W w)(x:World)(k:vG W (x.heap.size+1) 0 1 2 3 4 5 6 v0 v1 v2 v3 v4 v5 v6:=by exact uf):vG w (x.heap.size+1) 0 1 2 3 4 5 6 v0 v1 v2 v3 v4 v5 v6:=h.oH k
theorem Gb.Y72(h:Gb W w)(x:World)(k:vG W (x.heap.size+1+1) 0 1 2 3 4 5 6 v0 v1 v2 v3 v4 v5 v6:=by exact uf):vG w (x.heap.size+1+1) 0 1 2 3 4 5 6 v0 v1 v2 v3 v4 v5 v6:=h.oH k
theorem Gb.nY(h:Gb W w)(x:World)(k:vG W (x.heap.size+1+1+1) 0 1 2 3 4 5 6 v0 v1 v2 v3 v4 v5 v6:=by exact uf):vG w (x.heap.size+1+1+1) 0 1 2 3 4 5 6 v0 v1 v2 v3 v4 v5 v6:=h.oH k
theorem Gb.Ko(h:Gb W w)(x:World)(k:oV W x.heap.size 0 1 2 3 v0 v1 v2 v3:=by exact uf):(oV w x.heap.size 0 1 2 3 v0 v1 v2 v3)/\∀ob,oV (w.alloc ob) x.heap.size 0 1 2 3 v0 v1 v2 v3:=⟨h.N8 k,aHR (h.N8 k)⟩
theorem Gb.K50(h:Gb W w)(x:World)(k:rC W x.heap.size 0 1 2 3 4 v0 v1 v2 v3 v4:=by exact uf):(rC w x.heap.size 0 1 2 3 4 v0 v1 v2 v3 v4)/\∀ob,rC (w.alloc ob) x.heap.size 0 1 2 3 4 v0 v1 v2 v3 v4:=⟨h.N7 k,aL2 (h.N7 k)⟩
theorem Gb.A12(h:Gb W w)(x:World)(k:KF1 W (x.heap.size+1+1) 0 v0:=by exact uf):(KF1 w (x.heap.size+1+1) 0 v0)/\∀c t,KF1 (w.alloc (.cells c t)) (x.heap.size+1+1) 0 v0:=⟨h.NZ k,aHQ (h.NZ k)⟩
theorem Gb.A20(h:Gb W w)(x:World)(k:jC W x.heap.size 0 1 v0 v1:=by exact uf):(jC w x.heap.size 0 1 v0 v1)/\∀c t,jC (w.alloc (.cells c t)) x.heap.size 0 1 v0 v1:=⟨h.lS k,XK (h.lS k)⟩
theorem Gb.A22(h:Gb W w)(x:World)(k:jC W (x.heap.size+1+1) 0 1 v0 v1:=by exact uf):(jC w (x.heap.size+1+1) 0 1 v0 v1)/\∀c t,jC (w.alloc (.cells c t)) (x.heap.size+1+1) 0 1 v0 v1:=⟨h.lS k,XK (h.lS k)⟩
theorem Gb.A71(h:Gb W w)(x:World)(k:vG W (x.heap.size+1) 0 1 2 3 4 5 6 v0 v1 v2 v3 v4 v5 v6:=by exact uf):(vG w (x.heap.size+1) 0 1 2 3 4 5 6 v0 v1 v2 v3 v4 v5 v6)/\∀c t,vG (w.alloc (.cells c t)) (x.heap.size+1) 0 1 2 3 4 5 6 v0 v1 v2 v3 v4 v5 v6:=⟨h.oH k,aBF (h.oH k)⟩
theorem Gb.A73(h:Gb W w)(x:World)(k:vG W (x.heap.size+1+1+1) 0 1 2 3 4 5 6 v0 v1 v2 v3 v4 v5 v6:=by exact uf):(vG w (x.heap.size+1+1+1) 0 1 2 3 4 5 6 v0 v1 v2 v3 v4 v5 v6)/\∀c t,vG (w.alloc (.cells c t)) (x.heap.size+1+1+1) 0 1 2 3 4 5 6 v0 v1 v2 v3 v4 v5 v6:=⟨h.oH k,aBF (h.oH k)⟩
theorem Gb.e1(h:Gb W w)(b i0:Nat)(v0:Value)(k:W.cell? ⟨b,i0,none⟩=some v0:=by exact uf):w.cell? ⟨b,i0,none⟩=some v0:=h.aAq k
theorem Gb.e2(h:Gb W w)(b i0 i1:Nat)(v0 v1:Value)(k:kM W b i0 i1 v0 v1:=by exact uf):kM w b i0 i1 v0 v1:=h.N9 k
theorem Gb.e5(h:Gb W w)(b i0 i1 i2 i3 i4:Nat)(v0 v1 v2 v3 v4:Value)(k:rC W b i0 i1 i2 i3 i4 v0 v1 v2 v3 v4:=by exact uf):rC w b i0 i1 i2 i3 i4 v0 v1 v2 v3 v4:=h.N7 k
theorem Gb.e7(h:Gb W w)(b i0 i1 i2 i3 i4 i5 i6:Nat)(v0 v1 v2 v3 v4 v5 v6:Value)(k:X0 W b i0 i1 i2 i3 i4 i5 i6 v0 v1 v2 v3 v4 v5 v6:=by exact uf):X0 w b i0 i1 i2 i3 i4 i5 i6 v0 v1 v2 v3 v4 v5 v6:=h.aAo k
theorem Gb.y2(h:Gb W w)(b i0 i1:Nat)(v0 v1:Value)(k:jC W b i0 i1 v0 v1:=by exact uf):jC w b i0 i1 v0 v1:=h.lS k
theorem Gb.y4(h:Gb W w)(b i0 i1 i2 i3:Nat)(v0 v1 v2 v3:Value)(k:qL W b i0 i1 i2 i3 v0 v1 v2 v3:=by exact uf):qL w b i0 i1 i2 i3 v0 v1 v2 v3:=h.zD k
theorem Gb.y5(h:Gb W w)(b i0 i1 i2 i3 i4:Nat)(v0 v1 v2 v3 v4:Value)(k:OC W b i0 i1 i2 i3 i4 v0 v1 v2 v3 v4:=by exact uf):OC w b i0 i1 i2 i3 i4 v0 v1 v2 v3 v4:=h.Eo k
theorem Gb.y7(h:Gb W w)(b i0 i1 i2 i3 i4 i5 i6:Nat)(v0 v1 v2 v3 v4 v5 v6:Value)(k:vG W b i0 i1 i2 i3 i4 i5 i6 v0 v1 v2 v3 v4 v5 v6:=by exact uf):vG w b i0 i1 i2 i3 i4 i5 i6 v0 v1 v2 v3 v4 v5 v6:=h.oH k
theorem Gb.yo(h:Gb W w)(b:Nat)(k:vG W b 0 1 2 3 4 5 6 (.int .i64 0) (.int .i64 0) (.int .i64 0) (.int .u64 0) (.int .u64 0) (.bool false) (.int .i64 0):=by exact⟨kb,kb,kb,kb,kb,kb,kb,kb,kb,kb,kb,kb,kb,kb⟩):vG w b 0 1 2 3 4 5 6 (.int .i64 0) (.int .i64 0) (.int .i64 0) (.int .u64 0) (.int .u64 0) (.bool false) (.int .i64 0):=h.y7 _ 0 1 2 3 4 5 6 _ _ _ _ _ _ _ k
abbrev Dy(Q:Int->Int->Prop)(w:World)(e:Ending)(w':World):Prop:=∃z fl,Q z fl/\e=.returned (.agg #[.int .u64 z,.int .i64 fl])/\Gb w w'
abbrev vS(Q:Int->Int->Prop)(w:World)(e:Ending)(w':World):Prop:=∃z fl,Q z fl/\e=.returned (.agg #[.int .u64 z,.int .i64 fl])/\Gr w w'
