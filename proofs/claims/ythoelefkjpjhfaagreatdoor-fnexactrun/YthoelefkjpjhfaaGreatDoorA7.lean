import Derived.Test.YthoelefkjpjhfaaGreatDoorA1
import Derived.Test.YthoelefkjpjhfaaGreatDoorRows
import Derived.Laws.OwnMore
import Derived.OwnWalk
import Derived.WalkLawsBesides
set_option linter.all false
set_option maxRecDepth 1000000
set_option maxHeartbeats 40000000
open Go.Proofs.Tryz
namespace Go.Proofs.YthoelefkjpjhfaaGreatDoor
open Go.RowKit
variable {w W w':ak}{v0 v1 v2 v3 v4 v5 v6 v:Value}{b i0 i1 i2 i3 i4 n N o i5 i6 base n' N' cap b' cap':Nat}{ops:Array Oper}{rest:List Oper}{Q:Exit->Act->ak->Prop}
def Gb(w w':ak):Prop:=Below w.heap.size w w'
theorem Gr.gb(h:Gr w w'):Gb w w':=h.below
theorem Gb.refl(w:ak):Gb w w:=Below.refl _ _
theorem Gb.size(h:Gb w w'):w.heap.size<=w'.heap.size:=Below.size h
theorem Gb.trans{a b c:ak}(h:Gb a b)(k:Gb b c):Gb a c:=Below.trans h (Below.mono k h.size)
theorem Gb.alloc(h:Gb W w)(o:Obj):Gb W (w.alloc o):=Below.alloc h h.size o
theorem Gb.drew(h:Gb W w):Gb W w.drew:=Below.drew h
theorem Gb.setCell(h:Gb W w){a:Addr}(ha:W.heap.size<=a.block)(v:Value):Gb W (w.setCell a v):=Below.setCell h ha v
theorem Gb.below(h:Gb W w)(k:Below base w w')(hb:W.heap.size<=base):Gb W w':=Below.trans h (Below.mono k hb)
theorem Gb.old(h:Gb W w)(hv:W.cell? ⟨b,o,none⟩=some v):w.cell? ⟨b,o,none⟩=some v:=
 (Below.cell h (p:=⟨b,o,none⟩) (aA hv)).trans hv
theorem Gb.fz(h:Gb W w)(hb:b<W.heap.size)(hz:W.frozen? ⟨b,o,none⟩=false):w.frozen? ⟨b,o,none⟩=false:=
 (Below.frozen h (p:=⟨b,o,none⟩) hb).trans hz
def Raw(w:ak)(v:Value)(n N:Nat):Prop:=
 N<4294967296^n/\∃b cap,v=.slice (some ⟨b,0,none⟩) n cap/\n<=cap/\cap<=maxLen/\∀j,j<n->w.cell? ⟨b,j,none⟩=some (.int .u32 (dg N j:Int))
def Big(w:ak)(v:Value)(n N:Nat):Prop:=Nm n N/\Raw w v n N
theorem Raw.gb(h:Raw w v n N)(k:Gb w w'):Raw w' v n N:=by
 obtain⟨h1,b,cap,h2,h3,h3',h4⟩:=h;exact⟨h1,b,cap,h2,h3,h3',λj hj=>k.old (h4 j hj)⟩
theorem Big.gb(h:Big w v n N)(k:Gb w w'):Big w' v n N:=⟨h.1,h.2.gb k⟩
theorem Raw.alloc(h:Raw w v n N)(o:Obj):Raw (w.alloc o) v n N:=h.gb ((Gb.refl w).alloc o)
theorem Big.alloc(h:Big w v n N)(o:Obj):Big (w.alloc o) v n N:=h.gb ((Gb.refl w).alloc o)
def Own(w:ak)(base:Nat)(v:Value)(n N:Nat):Prop:=w.ownsRow base 155 1 v n (ZU n N)/\v≠ .slice none 0 0
theorem Own.raw(h:Own w base v n N)(hN:N<4294967296^n):Raw w v n N:=by
 obtain⟨⟨h1,h2⟩,h3⟩:=h;rcases h2 with⟨rfl,_⟩|⟨g,cap,cur,rfl,hb,hh,hc,hm,hs,ht⟩
 .exact bG rfl h3
 .refine⟨hN,g,cap,rfl,hc,hm,λj hj=>?_⟩;have e:cur.toList[j]?=some (.int .u32 (dg N j:Int)):=by
   rw[<-EP n N j hj,<-ht,List.getElem?_take_of_lt (by omega)]
  simp only[Array.getElem?_toList]at e;simp[World.cell?,hh,e]
theorem Own.alloc(h:Own w base v n N)(o:Obj):Own (w.alloc o) base v n N:=⟨h.1.alloc o,h.2⟩
theorem Own.drew(h:Own w base v n N):Own w.drew base v n N:=⟨h.1.drew,h.2⟩
theorem Yo:(prog.info? 155).map (λi=>(i.zero,i.size,i.bytes))=some (some (.int .u32 0),1,4):=by kernel_rfl
theorem fU{o:Oper}{a:Act}(YD:o.guard=none)(s x:Operand)
  (ho:o.op=.call {callee:=.builtin .append,args:=#[s,x],argTypes:=#[93,93]})
  (base n N:Nat) (v:Value) (b:Nat) (hs:a.eval s=v) (iG:Own w base v n N) (hx:a.eval x=.slice (some ⟨b,0,none⟩) 1 1)
  (hc:w.cell? ⟨b,0,none⟩=some (.int .u32 (dg N n:Int))) (hn:n<=1000000000) (nN:base<=w.heap.size)
  (h:∀v' w',Own w' base v' (n+1) N->Below base w w'->wpList prog ops Q rest (a.put o.dst v') w'):wpList prog ops Q (o::rest) a w:=by
 obtain⟨i0,hi,mD,jB,mG⟩:=info_parts Yo;refine wpList_append_own _ YD s x 93 ho base 155 i0 (.int .u32 0) 1 4 underlying93 hi mD jB mG rfl (by decide) v n (ZU n N) hs iG.1 ⟨b,0,none⟩ 1 1 [.int .u32 (dg N n:Int)] hx rfl ?_ ?_ (by unfold maxLen;omega) (by omega) nN ?_
 .intro j u hj
  match j,hj with
  |0,hj=>simp at hj;subst hj;simpa[Addr.add]using hc
 .intro u hu;simp at hu;subst hu;rfl
 .intro v' w' tZ lS aEX;refine h v' w' ⟨by rw[aFs];exact tZ,λe=>?_⟩ ?_
  .exact bG (aEX.mp e).1 iG.2
  .refine(Below.refl base w).grown lS nN ?_;intro k hk;exact(iG.1.lt k hk).1
theorem Gb.Iy(h:Gb W w)(hv:W.cell? ⟨b,o,none⟩=some v)(hz:W.frozen? ⟨b,o,none⟩=false):w.frozen? ⟨b,o,none⟩=false:=h.fz (aA hv) hz
theorem o9(h:Raw w v n N)(hn:n<=1000000000):
  CT 220 #[v] w λe w'=>∃v' k,e=.returned v'/\w=w'/\Big w v' k N/\k<=n:=by
 obtain⟨hN,b,cap,rfl,l7,Dz,aW⟩:=h;have Vp:cap<=9223372036854775807:=Dz;have HC:Hid _:=aW;have HN:Hid _:=hN;have HM:Hid _:=Dz;clear aW hN Dz;go_enter func220,ntmps220;go_wp2;go_loop [3] (λi=>∃k:Nat,k<=n/\i=.int .i64 k/\Hid (N<4294967296^k)) (λi=>(intOf i).toNat)
 case atStart=>exact⟨n,dJ _,rfl,HN.out⟩
 case round=>
  obtain⟨k,hk,rfl,HK⟩:=hrel;rcases jL k with rfl|jZ
  .have HF:Hid (Big w (.slice (some ⟨b,0,none⟩) 0 cap) 0 N):=⟨⟨HK.out,.inl rfl⟩,HK.out,b,cap,rfl,fV _,HM.out,λj hj=>by omega⟩;go_wp2;go_returns;exact⟨_,rfl,rfl,_,HF.out,by omega⟩
  .obtain⟨j,rfl⟩:∃j,k=j+1:=⟨k-1,by omega⟩;have hc:w.cell? ⟨b,j,none⟩=some (.int .u32 (dg N j:Int)):=HC.out j (by omega);have hjj:((j+1:Nat):Int)-1=(j:Int):=by omega
   by_cases hz:dg N j=0
   .have HL:Hid _:=SE HK.out hz;have mG:((dg N j:Nat):Int)=0:=by omega
    rw[mG]at hc;clear hz mG;go_wp2;go_round
    case rel=>exact⟨j,by omega,by go_num,HL.out⟩
    case measure=>simp[intOf]<;>omega
   .have mG:(((dg N j:Nat):Int)==0)=false:=by simp;omega
    have HF:Hid (Big w (.slice (some ⟨b,0,none⟩) (j+1) cap) (j+1) N):=⟨⟨HK.out,.inr (YP hz)⟩,HK.out,b,cap,rfl,by omega,HM.out,λi hi=>HC.out i (by omega)⟩;clear hz;go_wp2;go_returns;exact⟨_,rfl,rfl,_,HF.out,by omega⟩
theorem aSI(W:Nat)(h1:aI W)(w:ak)(t:TypeId):
  Raw (w.alloc (Obj.cells #[Value.int IntKind.u32 ((W:Int)%4294967296),Value.int IntKind.u32 ((W:Int)/4294967296)] t)) (.slice (some ⟨w.heap.size,0,none⟩) 2 2) 2 W:=by
 refine⟨by omega,w.heap.size,2,rfl,by omega,by decide,λj hj=>?_⟩
 match j,hj with
 |0,_=>
  have e:((dg W 0:Nat):Int)=(W:Int)%4294967296:=by unfold dg;simp
  rw[e];simp[go_sem]
 |1,_=>
  have e:((dg W 1:Nat):Int)=(W:Int)/4294967296:=by unfold dg;rw[Nat.pow_one];omega
  rw[e];simp[go_sem]
theorem iO(W:Nat)(h1:aI W)(w:ak):
  CT 132 #[.int .u64 W] w λe w'=>∃v' k,e=.returned v'/\Big w' v' k W/\k<=2/\Gb w w':=by
 go_enter func132,ntmps132;go_wp2_with (go_at_call 220;refine(o9 (aSI W h1 w _) (by omega)).mono ?_;rintro e w' ⟨v',k,rfl,hw,oz,hk⟩;rw[<-hw];clear hw);go_returns;exact⟨_,_,rfl,oz,hk,(Gb.refl w).alloc _⟩
theorem Ii(h:Big w v n N)(hn:n<=1000000000):
  QW 221 #[v] w (.int .i64 (nb N)):=by
 obtain⟨xk,hN,b,cap,rfl,l7,Dz,aW⟩:=h;rcases jL n with rfl|jZ
 .have e:nb N=0:=by rw[xk.zero];rfl
  rw[e];clear aW xk hN e;go_enter func221,ntmps221;go_wp2;go_ret;exact⟨rfl,rfl⟩
 .obtain⟨m,rfl⟩:∃m,n=m+1:=⟨n-1,by omega⟩;obtain⟨ht,lM⟩:=aOw xk;have hc:w.cell? ⟨b,m,none⟩=some (.int .u32 (dg N m:Int)):=aW m (by omega);have hd:=l9 N m;have h32:nb (dg N m)<=32:=vS (by simpa using hd);have HT:Hid _:=ht;generalize dg N m=t at*
  have hmm:((m+1:Nat):Int)-1=(m:Int):=by omega
  have hm0:(((m+1:Nat):Int)==0)=false:=by simp;omega
  clear aW xk hN ht lM;go_enter func221,ntmps221;go_wp2;go_loop [3,4] (λi u=>∃k s:Nat,i=.int .i64 (((m:Int)*32+k:Int))/\u=.int .u32 s/\Hid (nb t=k+nb s)/\k<=32/\s<4294967296) (λ_ u=>(intOf u).toNat)
  case atStart=>exact⟨0,t,by go_num,rfl,by show _=_;omega,by omega,hd⟩
  case round=>
   obtain⟨k,s,rfl,rfl,HB,hk,hs⟩:=hrel;rcases jL s with rfl|spos
   .have e:(m:Int)*32+k=(nb N:Int):=by
     have:=HB.out;have:=HT.out;rw[MJ]at*;omega
    have E:Hid _:=e;clear e;go_wp2;go_returns;exact⟨b_ (lu (Value.int IntKind.i64) E.out),rfl⟩
   .have hh:=U5 s spos;have HH:Hid (nb t=(k+1)+nb (s/2)):=by show _=_;have:=HB.out;omega
    have kF:k+1<=32:=by have:=HH.out;omega
    have spos':(0:Int)<(s:Int):=by omega
    clear hh;go_wp2;go_round
    case rel=>exact⟨k+1,s/2,by go_num,by go_num,HH,kF,by omega⟩
    case measure=>simp[intOf]<;>omega
theorem aBn(h:Big w v n N)(hn:n<=1000000000):
  QW 154 #[v,.int .i64 0] w (.int .u32 ((N:Int)%2)):=by
 obtain⟨xk,hN,b,cap,rfl,l7,Dz,aW⟩:=h;rcases jL n with rfl|jZ
 .have e:N=0:=xk.zero;subst e;clear aW xk hN;go_enter func154,ntmps154;go_wp2;go_returns;exact⟨rfl,rfl⟩
 .have hc:w.cell? ⟨b,0,none⟩=some (.int .u32 (dg N 0:Int)):=aW 0 (by omega);have hd:((dg N 0:Nat):Int)%2=(N:Int)%2:=by unfold dg;simp only[wP,Nat.div_one];omega
  have hl:=l9 N 0;have HD:Hid _:=hd;generalize dg N 0=t at*
  clear aW xk hN hd;go_enter func154,ntmps154;go_wp2;go_returns;first|exact⟨b_ (lu (Value.int IntKind.u32) HD.out),rfl⟩|(refine⟨b_ (lu (Value.int IntKind.u32) ?_),rfl⟩;have:=HD.out;simp;omega)
theorem OY(h:Big w v n N)(hn:n<=1000000000)(hW:aI N):
  QW 225 #[v] w (.int .u64 N):=by
 obtain⟨xk,hN,b,cap,rfl,l7,Dz,aW⟩:=h;have HC:Hid _:=aW;have HN:Hid _:=hN;clear aW xk hN;go_enter func225,ntmps225;go_wp2;go_loop [3,4] (λu i=>∃(j W:Nat),j<=n/\u=.int .u64 W/\i=.int .i64 ((j:Int)-1)/\Hid (W=N/4294967296^j)) (λ_ i=>(intOf i+1).toNat)
 case atStart=>exact⟨n,0,dJ _,rfl,by go_num,by show _=_;rw[xU HN.out]⟩
 case round=>
  obtain⟨j,W,hj,rfl,rfl,HW⟩:=hrel;rcases jL j with rfl|aTn
  .have e:((W:Nat):Int)=(N:Int):=by have:=HW.out;simp at this;omega
   have E:Hid _:=e;clear e;go_wp2;go_returns;exact⟨b_ (lu (Value.int IntKind.u64) E.out),rfl⟩
  .obtain⟨i,rfl⟩:∃i,j=i+1:=⟨j-1,by omega⟩;have hc:w.cell? ⟨b,i,none⟩=some (.int .u32 (dg N i:Int)):=HC.out i (by omega);have hs:=aDa N i;have hd:=l9 N i;have uz:=Nat.div_le_self N (4294967296^i);rw[<-HW.out]at hs;have HS:Hid _:=hs;have hb:W*4294967296+dg N i<18446744073709551616:=by omega
   have hjj:((i+1:Nat):Int)-1=(i:Int):=by omega
   clear hs uz;generalize dg N i=t at*
   go_wp2;go_round
   case rel=>exact⟨i,W*4294967296+t,by omega,by go_num,by go_num,HS.out⟩
   case measure=>simp[intOf]<;>omega
theorem aNd{P:Prop}(h:P:=by
 subst e;have lM:((n:Int)==(n':Int))=false:=by simp;omega
 clear aW iD hN BD h hz;go_enter func133,ntmps133;go_wp2;go_returns;exact⟨rfl,Gb.refl w⟩):P:=h
def jl(a b:Nat):Int:=if a<b then-1 else if b<a then 1 else 0
theorem aBm{z:Int}(hn:n<=1000000)(hN:Nm n N)(EH:n'<=1000000)(BD:Nm n' N')
  (aW:∀j,j<n->w.cell? ⟨b,j,none⟩=some (.int .u32 (dg N j:Int))) (l7:n<=cap) (iD:∀j,j<n'->w.cell? ⟨b',j,none⟩=some (.int .u32 (dg N' j:Int))) (rD:n'<=cap') (hz:z=jl N N'):
  CT 133 #[.slice (some ⟨b,0,none⟩) n cap,.slice (some ⟨b',0,none⟩) n' cap'] w λe w'=>e=.returned (.int .i64 z)/\Gb w w':=by
 rcases Oz n n' with hl|hl|hl
 .have h:=hN.lt BD hl;have e:z=-1:=by rw[hz];unfold jl;rw[aQ h]
  exact aNd
 .subst hl;have HC:Hid _:=aW;have ZP:Hid _:=iD;have HZ:Hid _:=hz;have HN:Hid _:=(⟨hN.1,BD.1⟩:N<4294967296^n/\N'<4294967296^n);clear aW iD hz hN BD;go_enter func133,ntmps133;go_wp2;go_loopw [5] (λi wr=>∃j:Nat,j<=n/\i=.int .i64 ((j:Int)-1)/\Hid (N/4294967296^j=N'/4294967296^j)/\Gb w wr) (λi _=>(intOf i+1).toNat)
  case atStart=>exact⟨n,dJ _,by go_num,by show _=_;rw[xU HN.out.1,xU HN.out.2],Gb.refl w⟩
  case round=>
   obtain⟨j,hj,rfl,HE,dQ⟩:=hrel;have HG:Hid _:=dQ;clear dQ;rcases jL j with rfl|aTn
   .have e:(0:Int)=z:=by
     have:=HE.out;simp at this;rw[HZ.out,this];unfold jl;rw[aH (by omega),aH (by omega)]
    subst e;go_wp2;go_returns;exact⟨rfl,HG.out⟩
   .obtain⟨i,rfl⟩:∃i,j=i+1:=⟨j-1,by omega⟩;have hc:wr.cell? ⟨b,i,none⟩=some (.int .u32 (dg N i:Int)):=Gb.old HG.out (HC.out i (by omega));have EK:wr.cell? ⟨b',i,none⟩=some (.int .u32 (dg N' i:Int)):=Gb.old HG.out (ZP.out i (by omega));have hjj:((i+1:Nat):Int)-1=(i:Int):=by omega
    have hi1:(i:Int)<(n:Int):=by omega
    obtain⟨m1,m2,m3⟩:=aLn HE.out;rcases Oz (dg N i) (dg N' i)with c|c|c
    .have e:(-1:Int)=z:=by rw[HZ.out];unfold jl;rw[aQ (m1 c)]
     subst e;have c':(dg N i:Int)<(dg N' i:Int):=by omega
     clear m1 m2 m3 HE;generalize dg N i=t at*
     generalize dg N' i=t' at*
     go_wp2;go_region;all_goals (try go_wp2)
     all_goals go_returns
     all_goals first|exact⟨rfl,HG.out⟩|exact⟨rfl,Gb.drew HG.out⟩|exact⟨rfl,Gb.drew (Gb.drew HG.out)⟩
    .have HE2:Hid _:=m3 c;have c':(dg N i:Int)=(dg N' i:Int):=by omega
     rw[<-c']at EK;clear m1 m2 m3 HE c c';generalize dg N i=t at*
     go_wp2;go_region;all_goals (try go_wp2)
     all_goals go_region
     all_goals (try go_wp2)
     all_goals go_roundw
     all_goals first|exact⟨i,by omega,by go_num,HE2.out,HG.out⟩|exact⟨i,by omega,by go_num,HE2.out,Gb.drew HG.out⟩|exact⟨i,by omega,by go_num,HE2.out,Gb.drew (Gb.drew HG.out)⟩|(simp[intOf]<;>omega)
    .have e:(1:Int)=z:=by rw[HZ.out];unfold jl;rw[aH (by have:=m2 c;omega),aQ (m2 c)]
     subst e;have c':(dg N' i:Int)<(dg N i:Int):=by omega
     clear m1 m2 m3 HE;generalize dg N i=t at*
     generalize dg N' i=t' at*
     go_wp2;go_region;all_goals (try go_wp2)
     all_goals go_region
     all_goals (try go_wp2)
     all_goals go_returns
     all_goals first|exact⟨rfl,HG.out⟩|exact⟨rfl,Gb.drew HG.out⟩|exact⟨rfl,Gb.drew (Gb.drew HG.out)⟩
 .have h:=BD.lt hN hl;have e:z=1:=by rw[hz];unfold jl;rw[aH (by omega),aQ h]
  exact aNd
theorem kM(h:Big w v n N)(hn:n<=1000000)(h':Big w v2 n' N')(EH:n'<=1000000):
  CT 133 #[v,v2] w λe w'=>e=.returned (.int .i64 (jl N N'))/\Gb w w':=by
 obtain⟨xk,hN,b,cap,rfl,l7,Dz,aW⟩:=h;obtain⟨YC,BD,b',cap',rfl,rD,Vp,iD⟩:=h';exact aBm hn xk EH YC aW l7 iD rD rfl
abbrev KB(F:Nat)(xs:Array Value)(v:Value):Prop:=Hid (∀w,Calls prog F xs w λe w'=>e=.returned v/\Gb w w')
abbrev QB(F:Nat)(xs:Array Value)(w:ak)(v:Value):Prop:=Calls prog F xs w λe w'=>e=.returned v/\Gb w w'
theorem Gr.c(h:Gr W w)(k:W.cell? ⟨b,o,none⟩=some v:=by exact kl):w.cell? ⟨b,o,none⟩=some v:=h.old k
theorem Gr.z(h:Gr W w)(k:W.frozen? ⟨b,o,none⟩=false:=by exact kl):w.frozen? ⟨b,o,none⟩=false:=iY h k
theorem Gb.c(h:Gb W w)(k:W.cell? ⟨b,o,none⟩=some v:=by exact kb):w.cell? ⟨b,o,none⟩=some v:=h.old k
theorem Gb.z(h:Gb W w)(hv:w.cell? ⟨b,o,none⟩=some v)(k0:W.cell? ⟨b,o,none⟩=some v:=by exact kb)(k:W.frozen? ⟨b,o,none⟩=false:=by exact kb):w.frozen? ⟨b,o,none⟩=false:=h.Iy k0 k
theorem Gr.g(h:Gr W w:=by exact kr):Gr W w:=h
theorem Gb.g(h:Gb W w:=by exact kg):Gb W w:=h
theorem Gb.hs(h:Gb W w)(hv:(W.cell? ⟨b,o,none⟩).isSome =true):(w.cell? ⟨b,o,none⟩).isSome =true:=by
 obtain⟨v,hv⟩:=Option.isSome_iff_exists.mp hv;exact lI (h.old hv)
theorem Gb.fh(h:Gb W w)(hv:(W.cell? ⟨b,o,none⟩).isSome =true)(hz:W.frozen? ⟨b,o,none⟩=false):w.frozen? ⟨b,o,none⟩=false:=by
 obtain⟨v,hv⟩:=Option.isSome_iff_exists.mp hv;exact h.Iy hv hz
theorem Gr.a(h:Gr W w)(k:W.cell? ⟨b,o,none⟩=some v:=by exact kl)(ob:Obj):(w.alloc ob).cell? ⟨b,o,none⟩=some v:=bC ob (h.old k)
theorem kh{P:Prop}(h:P:=by(go_split_ands;(repeat' (first|(with_reducible assumption)|(with_reducible refine lI (by with_reducible assumption))|(with_reducible refine Gr.old (by with_reducible assumption) ?_)|(with_reducible refine Gb.old (by with_reducible assumption) ?_)|(with_reducible refine Gb.hs (by with_reducible assumption) ?_)|(with_reducible refine Vt (by with_reducible assumption) ?_)|(with_reducible refine dG ?_)|(with_reducible refine has_set ?_)|(with_reducible refine bQ ?_ ?_;omega)|(with_reducible refine aZ ?_ ?_;(dsimp only;omega))|(simp[go_sem];first|done|rfl)|(with_reducible refine bC _ ?_)|(with_reducible refine sH ?_)|(with_reducible refine Iw _ ?_)|(with_reducible refine iY (by with_reducible assumption) ?_)|(with_reducible refine Gb.fh (by with_reducible assumption) (by with_reducible assumption) ?_)|(with_reducible refine dw ?_)|(with_reducible refine bD ?_)|(with_reducible refine uU ?_)|go_size)))):P:=h
theorem qX{P:Prop}(h:P:=by(go_split_ands;(repeat' apply And.intro)<;>exact kl)):P:=h
theorem wK{P:Prop}(h:P:=by(go_split_ands;(repeat' apply And.intro)<;>exact kb)):P:=h
theorem qj{P:Prop}(h:P:=by(go_split_ands;(repeat' apply And.intro)<;>exact kh)):P:=h
theorem Gr.aBN(h:Gr W w)(k:W.cell? ⟨b,i0,none⟩=some v0):w.cell? ⟨b,i0,none⟩=some v0:=h.old k
theorem Gb.aBN(h:Gb W w)(k:W.cell? ⟨b,i0,none⟩=some v0):w.cell? ⟨b,i0,none⟩=some v0:=h.old k
theorem Gr.P6(h:Gr W w)(k:lW W b i0 i1 v0 v1):lW w b i0 i1 v0 v1:=⟨h.old k.1,h.aBN k.2⟩
theorem Gb.P6(h:Gb W w)(k:lW W b i0 i1 v0 v1):lW w b i0 i1 v0 v1:=⟨h.old k.1,h.aBN k.2⟩
theorem Gr.aBM(h:Gr W w)(k:jU W b i0 i1 i2 v0 v1 v2):jU w b i0 i1 i2 v0 v1 v2:=⟨h.old k.1,h.P6 k.2⟩
theorem Gb.aBM(h:Gb W w)(k:jU W b i0 i1 i2 v0 v1 v2):jU w b i0 i1 i2 v0 v1 v2:=⟨h.old k.1,h.P6 k.2⟩
theorem Gr.P5(h:Gr W w)(k:pG W b i0 i1 i2 i3 v0 v1 v2 v3):pG w b i0 i1 i2 i3 v0 v1 v2 v3:=⟨h.old k.1,h.aBM k.2⟩
theorem Gb.P5(h:Gb W w)(k:pG W b i0 i1 i2 i3 v0 v1 v2 v3):pG w b i0 i1 i2 i3 v0 v1 v2 v3:=⟨h.old k.1,h.aBM k.2⟩
theorem Gr.PZ(h:Gr W w)(k:uj W b i0 i1 i2 i3 i4 v0 v1 v2 v3 v4):uj w b i0 i1 i2 i3 i4 v0 v1 v2 v3 v4:=⟨h.old k.1,h.P5 k.2⟩
theorem Gb.PZ(h:Gb W w)(k:uj W b i0 i1 i2 i3 i4 v0 v1 v2 v3 v4):uj w b i0 i1 i2 i3 i4 v0 v1 v2 v3 v4:=⟨h.old k.1,h.P5 k.2⟩
theorem Gr.aPy(h:Gr W w)(k:KE6 W b i0 i1 i2 i3 i4 i5 v0 v1 v2 v3 v4 v5):KE6 w b i0 i1 i2 i3 i4 i5 v0 v1 v2 v3 v4 v5:=⟨h.old k.1,h.PZ k.2⟩
theorem Gb.aPy(h:Gb W w)(k:KE6 W b i0 i1 i2 i3 i4 i5 v0 v1 v2 v3 v4 v5):KE6 w b i0 i1 i2 i3 i4 i5 v0 v1 v2 v3 v4 v5:=⟨h.old k.1,h.PZ k.2⟩
theorem Gr.aBL(h:Gr W w)(k:ZC W b i0 i1 i2 i3 i4 i5 i6 v0 v1 v2 v3 v4 v5 v6):ZC w b i0 i1 i2 i3 i4 i5 i6 v0 v1 v2 v3 v4 v5 v6:=⟨h.old k.1,h.aPy k.2⟩
theorem Gb.aBL(h:Gb W w)(k:ZC W b i0 i1 i2 i3 i4 i5 i6 v0 v1 v2 v3 v4 v5 v6):ZC w b i0 i1 i2 i3 i4 i5 i6 v0 v1 v2 v3 v4 v5 v6:=⟨h.old k.1,h.aPy k.2⟩
theorem Gr.PY(h:Gr W w)(k:ZB W b i0 v0):ZB w b i0 v0:=⟨h.old k.1,iY h k.2⟩
theorem Gb.PY(h:Gb W w)(k:ZB W b i0 v0):ZB w b i0 v0:=⟨h.old k.1,h.Iy k.1 k.2⟩
theorem Gr.nS(h:Gr W w)(k:jX W b i0 i1 v0 v1):jX w b i0 i1 v0 v1:=⟨h.old k.1,iY h k.2.1,h.PY k.2.2⟩
theorem Gb.nS(h:Gb W w)(k:jX W b i0 i1 v0 v1):jX w b i0 i1 v0 v1:=⟨h.old k.1,h.Iy k.1 k.2.1,h.PY k.2.2⟩
theorem Gr.aIT(h:Gr W w)(k:KF3 W b i0 i1 i2 v0 v1 v2):KF3 w b i0 i1 i2 v0 v1 v2:=⟨h.old k.1,iY h k.2.1,h.nS k.2.2⟩
theorem Gb.aIT(h:Gb W w)(k:KF3 W b i0 i1 i2 v0 v1 v2):KF3 w b i0 i1 i2 v0 v1 v2:=⟨h.old k.1,h.Iy k.1 k.2.1,h.nS k.2.2⟩
theorem Gr.BJ(h:Gr W w)(k:qU W b i0 i1 i2 i3 v0 v1 v2 v3):qU w b i0 i1 i2 i3 v0 v1 v2 v3:=⟨h.old k.1,iY h k.2.1,h.aIT k.2.2⟩
theorem Gb.BJ(h:Gb W w)(k:qU W b i0 i1 i2 i3 v0 v1 v2 v3):qU w b i0 i1 i2 i3 v0 v1 v2 v3:=⟨h.old k.1,h.Iy k.1 k.2.1,h.aIT k.2.2⟩
theorem Gr.Gg(h:Gr W w)(k:Qo W b i0 i1 i2 i3 i4 v0 v1 v2 v3 v4):Qo w b i0 i1 i2 i3 i4 v0 v1 v2 v3 v4:=⟨h.old k.1,iY h k.2.1,h.BJ k.2.2⟩
theorem Gb.Gg(h:Gb W w)(k:Qo W b i0 i1 i2 i3 i4 v0 v1 v2 v3 v4):Qo w b i0 i1 i2 i3 i4 v0 v1 v2 v3 v4:=⟨h.old k.1,h.Iy k.1 k.2.1,h.BJ k.2.2⟩
theorem Gr.aIS(h:Gr W w)(k:KF6 W b i0 i1 i2 i3 i4 i5 v0 v1 v2 v3 v4 v5):KF6 w b i0 i1 i2 i3 i4 i5 v0 v1 v2 v3 v4 v5:=⟨h.old k.1,iY h k.2.1,h.Gg k.2.2⟩
theorem Gb.aIS(h:Gb W w)(k:KF6 W b i0 i1 i2 i3 i4 i5 v0 v1 v2 v3 v4 v5):KF6 w b i0 i1 i2 i3 i4 i5 v0 v1 v2 v3 v4 v5:=⟨h.old k.1,h.Iy k.1 k.2.1,h.Gg k.2.2⟩
theorem Gr.qH(h:Gr W w)(k:yx W b i0 i1 i2 i3 i4 i5 i6 v0 v1 v2 v3 v4 v5 v6):yx w b i0 i1 i2 i3 i4 i5 i6 v0 v1 v2 v3 v4 v5 v6:=⟨h.old k.1,iY h k.2.1,h.aIS k.2.2⟩
theorem Gb.qH(h:Gb W w)(k:yx W b i0 i1 i2 i3 i4 i5 i6 v0 v1 v2 v3 v4 v5 v6):yx w b i0 i1 i2 i3 i4 i5 i6 v0 v1 v2 v3 v4 v5 v6:=⟨h.old k.1,h.Iy k.1 k.2.1,h.aIS k.2.2⟩
theorem aJe(k:ZB w b i0 v0)(c:Array Value)(t:TypeId):ZB (w.alloc (.cells c t)) b i0 v0:=⟨bC _ k.1,dw k.2⟩
theorem Zn(k:jX w b i0 i1 v0 v1)(c:Array Value)(t:TypeId):jX (w.alloc (.cells c t)) b i0 i1 v0 v1:=⟨bC _ k.1,dw k.2.1,aJe k.2.2 c t⟩
theorem aSi(k:KF3 w b i0 i1 i2 v0 v1 v2)(c:Array Value)(t:TypeId):KF3 (w.alloc (.cells c t)) b i0 i1 i2 v0 v1 v2:=⟨bC _ k.1,dw k.2.1,Zn k.2.2 c t⟩
theorem aSh(k:qU w b i0 i1 i2 i3 v0 v1 v2 v3)(c:Array Value)(t:TypeId):qU (w.alloc (.cells c t)) b i0 i1 i2 i3 v0 v1 v2 v3:=⟨bC _ k.1,dw k.2.1,aSi k.2.2 c t⟩
theorem aSg(k:Qo w b i0 i1 i2 i3 i4 v0 v1 v2 v3 v4)(c:Array Value)(t:TypeId):Qo (w.alloc (.cells c t)) b i0 i1 i2 i3 i4 v0 v1 v2 v3 v4:=⟨bC _ k.1,dw k.2.1,aSh k.2.2 c t⟩
theorem aSf(k:KF6 w b i0 i1 i2 i3 i4 i5 v0 v1 v2 v3 v4 v5)(c:Array Value)(t:TypeId):KF6 (w.alloc (.cells c t)) b i0 i1 i2 i3 i4 i5 v0 v1 v2 v3 v4 v5:=⟨bC _ k.1,dw k.2.1,aSg k.2.2 c t⟩
theorem aC5(k:yx w b i0 i1 i2 i3 i4 i5 i6 v0 v1 v2 v3 v4 v5 v6)(c:Array Value)(t:TypeId):yx (w.alloc (.cells c t)) b i0 i1 i2 i3 i4 i5 i6 v0 v1 v2 v3 v4 v5 v6:=⟨bC _ k.1,dw k.2.1,aSf k.2.2 c t⟩
theorem aSl(k:w.cell? ⟨b,i0,none⟩=some v0)(ob:Obj):(w.alloc ob).cell? ⟨b,i0,none⟩=some v0:=bC ob k
theorem aSk(k:lW w b i0 i1 v0 v1)(ob:Obj):lW (w.alloc ob) b i0 i1 v0 v1:=⟨bC ob k.1,aSl k.2 ob⟩
theorem aSj(k:jU w b i0 i1 i2 v0 v1 v2)(ob:Obj):jU (w.alloc ob) b i0 i1 i2 v0 v1 v2:=⟨bC ob k.1,aSk k.2 ob⟩
theorem aJf(k:pG w b i0 i1 i2 i3 v0 v1 v2 v3)(ob:Obj):pG (w.alloc ob) b i0 i1 i2 i3 v0 v1 v2 v3:=⟨bC ob k.1,aSj k.2 ob⟩
theorem aNC(k:uj w b i0 i1 i2 i3 i4 v0 v1 v2 v3 v4)(ob:Obj):uj (w.alloc ob) b i0 i1 i2 i3 i4 v0 v1 v2 v3 v4:=⟨bC ob k.1,aJf k.2 ob⟩
theorem Gr.C10(h:Gr W w)(x:ak)(k:W.cell? ⟨x.heap.size,0,none⟩=some v0:=by exact qX):w.cell? ⟨x.heap.size,0,none⟩=some v0:=h.aBN k
theorem Gr.CX(h:Gr W w)(x:ak)(k:lW W x.heap.size 0 1 v0 v1:=by exact qX):lW w x.heap.size 0 1 v0 v1:=h.P6 k
theorem Gr.TQ(h:Gr W w)(x:ak)(k:lW W (x.heap.size+1) 0 1 v0 v1:=by exact qX):lW w (x.heap.size+1) 0 1 v0 v1:=h.P6 k
theorem Gr.C22(h:Gr W w)(x:ak)(k:lW W (x.heap.size+1+1) 0 1 v0 v1:=by exact qX):lW w (x.heap.size+1+1) 0 1 v0 v1:=h.P6 k
theorem Gr.C30(h:Gr W w)(x:ak)(k:jU W x.heap.size 0 1 2 v0 v1 v2:=by exact qX):jU w x.heap.size 0 1 2 v0 v1 v2:=h.aBM k
theorem Gr.C31(h:Gr W w)(x:ak)(k:jU W (x.heap.size+1) 0 1 2 v0 v1 v2:=by exact qX):jU w (x.heap.size+1) 0 1 2 v0 v1 v2:=h.aBM k
theorem Gr.f_(h:Gr W w)(x:ak)(k:pG W x.heap.size 0 1 2 3 v0 v1 v2 v3:=by exact qX):pG w x.heap.size 0 1 2 3 v0 v1 v2 v3:=h.P5 k
theorem Gr.VZ(h:Gr W w)(x:ak)(k:pG W (x.heap.size+1) 0 1 2 3 v0 v1 v2 v3:=by exact qX):pG w (x.heap.size+1) 0 1 2 3 v0 v1 v2 v3:=h.P5 k
theorem Gr.qM(h:Gr W w)(x:ak)(k:uj W x.heap.size 0 1 2 3 4 v0 v1 v2 v3 v4:=by exact qX):uj w x.heap.size 0 1 2 3 4 v0 v1 v2 v3 v4:=h.PZ k
theorem Gr.C71(h:Gr W w)(x:ak)(k:ZC W (x.heap.size+1) 0 1 2 3 4 5 6 v0 v1 v2 v3 v4 v5 v6:=by exact qX):ZC w (x.heap.size+1) 0 1 2 3 4 5 6 v0 v1 v2 v3 v4 v5 v6:=h.aBL k
theorem Gr.C72(h:Gr W w)(x:ak)(k:ZC W (x.heap.size+1+1) 0 1 2 3 4 5 6 v0 v1 v2 v3 v4 v5 v6:=by exact qX):ZC w (x.heap.size+1+1) 0 1 2 3 4 5 6 v0 v1 v2 v3 v4 v5 v6:=h.aBL k
theorem Gr.Y2(h:Gr W w)(b:Nat)(k:jX W b 0 1 v0 v1:=by exact qX):jX w b 0 1 v0 v1:=h.nS k
theorem Gr.bK(h:Gr W w)(x:ak)(k:jX W x.heap.size 0 1 v0 v1:=by exact qX):jX w x.heap.size 0 1 v0 v1:=h.nS k
theorem Gr.Y21(h:Gr W w)(x:ak)(k:jX W (x.heap.size+1) 0 1 v0 v1:=by exact qX):jX w (x.heap.size+1) 0 1 v0 v1:=h.nS k
theorem Gr.VT(h:Gr W w)(x:ak)(k:jX W (x.heap.size+1+1) 0 1 v0 v1:=by exact qX):jX w (x.heap.size+1+1) 0 1 v0 v1:=h.nS k
theorem Gr.Y23(h:Gr W w)(x:ak)(k:jX W (x.heap.size+1+1+1) 0 1 v0 v1:=by exact qX):jX w (x.heap.size+1+1+1) 0 1 v0 v1:=h.nS k
theorem Gr.Qz(h:Gr W w)(x:ak)(k:qU W x.heap.size 0 1 2 3 v0 v1 v2 v3:=by exact qX):qU w x.heap.size 0 1 2 3 v0 v1 v2 v3:=h.BJ k
theorem Gr.Y41(h:Gr W w)(x:ak)(k:qU W (x.heap.size+1) 0 1 2 3 v0 v1 v2 v3:=by exact qX):qU w (x.heap.size+1) 0 1 2 3 v0 v1 v2 v3:=h.BJ k
theorem Gr.Aq(h:Gr W w)(x:ak)(k:qU W (x.heap.size+1+1) 0 1 2 3 v0 v1 v2 v3:=by exact qX):qU w (x.heap.size+1+1) 0 1 2 3 v0 v1 v2 v3:=h.BJ k
theorem Gr.Y50(h:Gr W w)(x:ak)(k:Qo W x.heap.size 0 1 2 3 4 v0 v1 v2 v3 v4:=by exact qX):Qo w x.heap.size 0 1 2 3 4 v0 v1 v2 v3 v4:=h.Gg k
theorem Gr.Y51(h:Gr W w)(x:ak)(k:Qo W (x.heap.size+1) 0 1 2 3 4 v0 v1 v2 v3 v4:=by exact qX):Qo w (x.heap.size+1) 0 1 2 3 4 v0 v1 v2 v3 v4:=h.Gg k
theorem Gr.Y70(h:Gr W w)(x:ak)(k:yx W x.heap.size 0 1 2 3 4 5 6 v0 v1 v2 v3 v4 v5 v6:=by exact qX):yx w x.heap.size 0 1 2 3 4 5 6 v0 v1 v2 v3 v4 v5 v6:=h.qH k
theorem Gr.KL(h:Gr W w)(x:ak)(k:yx W (x.heap.size+1) 0 1 2 3 4 5 6 v0 v1 v2 v3 v4 v5 v6:=by exact qX):yx w (x.heap.size+1) 0 1 2 3 4 5 6 v0 v1 v2 v3 v4 v5 v6:=h.qH k
theorem Gr.Y72(h:Gr W w)(x:ak)(k:yx W (x.heap.size+1+1) 0 1 2 3 4 5 6 v0 v1 v2 v3 v4 v5 v6:=by exact qX):yx w (x.heap.size+1+1) 0 1 2 3 4 5 6 v0 v1 v2 v3 v4 v5 v6:=h.qH k
theorem Gr.ql(h:Gr W w)(x:ak)(k:yx W (x.heap.size+1+1+1) 0 1 2 3 4 5 6 v0 v1 v2 v3 v4 v5 v6:=by exact qX):yx w (x.heap.size+1+1+1) 0 1 2 3 4 5 6 v0 v1 v2 v3 v4 v5 v6:=h.qH k
theorem Gr.MS(h:Gr W w)(x:ak)(k:pG W x.heap.size 0 1 2 3 v0 v1 v2 v3:=by exact qX):(pG w x.heap.size 0 1 2 3 v0 v1 v2 v3)/\∀ob,pG (w.alloc ob) x.heap.size 0 1 2 3 v0 v1 v2 v3:=⟨h.P5 k,aJf (h.P5 k)⟩
theorem Gr.K50(h:Gr W w)(x:ak)(k:uj W x.heap.size 0 1 2 3 4 v0 v1 v2 v3 v4:=by exact qX):(uj w x.heap.size 0 1 2 3 4 v0 v1 v2 v3 v4)/\∀ob,uj (w.alloc ob) x.heap.size 0 1 2 3 4 v0 v1 v2 v3 v4:=⟨h.PZ k,aNC (h.PZ k)⟩
theorem Gr.A12(h:Gr W w)(x:ak)(k:ZB W (x.heap.size+1+1) 0 v0:=by exact qX):(ZB w (x.heap.size+1+1) 0 v0)/\∀c t,ZB (w.alloc (.cells c t)) (x.heap.size+1+1) 0 v0:=⟨h.PY k,aJe (h.PY k)⟩
theorem Gr.A20(h:Gr W w)(x:ak)(k:jX W x.heap.size 0 1 v0 v1:=by exact qX):(jX w x.heap.size 0 1 v0 v1)/\∀c t,jX (w.alloc (.cells c t)) x.heap.size 0 1 v0 v1:=⟨h.nS k,Zn (h.nS k)⟩
theorem Gr.A22(h:Gr W w)(x:ak)(k:jX W (x.heap.size+1+1) 0 1 v0 v1:=by exact qX):(jX w (x.heap.size+1+1) 0 1 v0 v1)/\∀c t,jX (w.alloc (.cells c t)) (x.heap.size+1+1) 0 1 v0 v1:=⟨h.nS k,Zn (h.nS k)⟩
theorem Gr.A71(h:Gr W w)(x:ak)(k:yx W (x.heap.size+1) 0 1 2 3 4 5 6 v0 v1 v2 v3 v4 v5 v6:=by exact qX):(yx w (x.heap.size+1) 0 1 2 3 4 5 6 v0 v1 v2 v3 v4 v5 v6)/\∀c t,yx (w.alloc (.cells c t)) (x.heap.size+1) 0 1 2 3 4 5 6 v0 v1 v2 v3 v4 v5 v6:=⟨h.qH k,aC5 (h.qH k)⟩
theorem Gr.A73(h:Gr W w)(x:ak)(k:yx W (x.heap.size+1+1+1) 0 1 2 3 4 5 6 v0 v1 v2 v3 v4 v5 v6:=by exact qX):(yx w (x.heap.size+1+1+1) 0 1 2 3 4 5 6 v0 v1 v2 v3 v4 v5 v6)/\∀c t,yx (w.alloc (.cells c t)) (x.heap.size+1+1+1) 0 1 2 3 4 5 6 v0 v1 v2 v3 v4 v5 v6:=⟨h.qH k,aC5 (h.qH k)⟩
theorem Gr.e1(h:Gr W w)(b i0:Nat)(v0:Value)(k:W.cell? ⟨b,i0,none⟩=some v0:=by exact qX):w.cell? ⟨b,i0,none⟩=some v0:=h.aBN k
theorem Gr.e2(h:Gr W w)(b i0 i1:Nat)(v0 v1:Value)(k:lW W b i0 i1 v0 v1:=by exact qX):lW w b i0 i1 v0 v1:=h.P6 k
theorem Gr.e5(h:Gr W w)(b i0 i1 i2 i3 i4:Nat)(v0 v1 v2 v3 v4:Value)(k:uj W b i0 i1 i2 i3 i4 v0 v1 v2 v3 v4:=by exact qX):uj w b i0 i1 i2 i3 i4 v0 v1 v2 v3 v4:=h.PZ k
theorem Gr.e7(h:Gr W w)(b i0 i1 i2 i3 i4 i5 i6:Nat)(v0 v1 v2 v3 v4 v5 v6:Value)(k:ZC W b i0 i1 i2 i3 i4 i5 i6 v0 v1 v2 v3 v4 v5 v6:=by exact qX):ZC w b i0 i1 i2 i3 i4 i5 i6 v0 v1 v2 v3 v4 v5 v6:=h.aBL k
theorem Gr.y2(h:Gr W w)(b i0 i1:Nat)(v0 v1:Value)(k:jX W b i0 i1 v0 v1:=by exact qX):jX w b i0 i1 v0 v1:=h.nS k
theorem Gr.y4(h:Gr W w)(b i0 i1 i2 i3:Nat)(v0 v1 v2 v3:Value)(k:qU W b i0 i1 i2 i3 v0 v1 v2 v3:=by exact qX):qU w b i0 i1 i2 i3 v0 v1 v2 v3:=h.BJ k
theorem Gr.y5(h:Gr W w)(b i0 i1 i2 i3 i4:Nat)(v0 v1 v2 v3 v4:Value)(k:Qo W b i0 i1 i2 i3 i4 v0 v1 v2 v3 v4:=by exact qX):Qo w b i0 i1 i2 i3 i4 v0 v1 v2 v3 v4:=h.Gg k
theorem Gr.y7(h:Gr W w)(b i0 i1 i2 i3 i4 i5 i6:Nat)(v0 v1 v2 v3 v4 v5 v6:Value)(k:yx W b i0 i1 i2 i3 i4 i5 i6 v0 v1 v2 v3 v4 v5 v6:=by exact qX):yx w b i0 i1 i2 i3 i4 i5 i6 v0 v1 v2 v3 v4 v5 v6:=h.qH k
theorem Gr.yo(h:Gr W w)(b:Nat)(k:yx W b 0 1 2 3 4 5 6 (.int .i64 0) (.int .i64 0) (.int .i64 0) (.int .u64 0) (.int .u64 0) (.bool false) (.int .i64 0):=by exact⟨kl,kl,kl,kl,kl,kl,kl,kl,kl,kl,kl,kl,kl,kl⟩):yx w b 0 1 2 3 4 5 6 (.int .i64 0) (.int .i64 0) (.int .i64 0) (.int .u64 0) (.int .u64 0) (.bool false) (.int .i64 0):=h.y7 _ 0 1 2 3 4 5 6 _ _ _ _ _ _ _ k
theorem Gb.C10(h:Gb W w)(x:ak)(k:W.cell? ⟨x.heap.size,0,none⟩=some v0:=by exact wK):w.cell? ⟨x.heap.size,0,none⟩=some v0:=h.aBN k
theorem Gb.CX(h:Gb W w)(x:ak)(k:lW W x.heap.size 0 1 v0 v1:=by exact wK):lW w x.heap.size 0 1 v0 v1:=h.P6 k
theorem Gb.TQ(h:Gb W w)(x:ak)(k:lW W (x.heap.size+1) 0 1 v0 v1:=by exact wK):lW w (x.heap.size+1) 0 1 v0 v1:=h.P6 k
theorem Gb.C22(h:Gb W w)(x:ak)(k:lW W (x.heap.size+1+1) 0 1 v0 v1:=by exact wK):lW w (x.heap.size+1+1) 0 1 v0 v1:=h.P6 k
theorem Gb.C30(h:Gb W w)(x:ak)(k:jU W x.heap.size 0 1 2 v0 v1 v2:=by exact wK):jU w x.heap.size 0 1 2 v0 v1 v2:=h.aBM k
theorem Gb.C31(h:Gb W w)(x:ak)(k:jU W (x.heap.size+1) 0 1 2 v0 v1 v2:=by exact wK):jU w (x.heap.size+1) 0 1 2 v0 v1 v2:=h.aBM k
theorem Gb.f_(h:Gb W w)(x:ak)(k:pG W x.heap.size 0 1 2 3 v0 v1 v2 v3:=by exact wK):pG w x.heap.size 0 1 2 3 v0 v1 v2 v3:=h.P5 k
theorem Gb.VZ(h:Gb W w)(x:ak)(k:pG W (x.heap.size+1) 0 1 2 3 v0 v1 v2 v3:=by exact wK):pG w (x.heap.size+1) 0 1 2 3 v0 v1 v2 v3:=h.P5 k
theorem Gb.qM(h:Gb W w)(x:ak)(k:uj W x.heap.size 0 1 2 3 4 v0 v1 v2 v3 v4:=by exact wK):uj w x.heap.size 0 1 2 3 4 v0 v1 v2 v3 v4:=h.PZ k
theorem Gb.C71(h:Gb W w)(x:ak)(k:ZC W (x.heap.size+1) 0 1 2 3 4 5 6 v0 v1 v2 v3 v4 v5 v6:=by exact wK):ZC w (x.heap.size+1) 0 1 2 3 4 5 6 v0 v1 v2 v3 v4 v5 v6:=h.aBL k
theorem Gb.C72(h:Gb W w)(x:ak)(k:ZC W (x.heap.size+1+1) 0 1 2 3 4 5 6 v0 v1 v2 v3 v4 v5 v6:=by exact wK):ZC w (x.heap.size+1+1) 0 1 2 3 4 5 6 v0 v1 v2 v3 v4 v5 v6:=h.aBL k
theorem Gb.Y2(h:Gb W w)(b:Nat)(k:jX W b 0 1 v0 v1:=by exact wK):jX w b 0 1 v0 v1:=h.nS k
theorem Gb.bK(h:Gb W w)(x:ak)(k:jX W x.heap.size 0 1 v0 v1:=by exact wK):jX w x.heap.size 0 1 v0 v1:=h.nS k
theorem Gb.Y21(h:Gb W w)(x:ak)(k:jX W (x.heap.size+1) 0 1 v0 v1:=by exact wK):jX w (x.heap.size+1) 0 1 v0 v1:=h.nS k
theorem Gb.VT(h:Gb W w)(x:ak)(k:jX W (x.heap.size+1+1) 0 1 v0 v1:=by exact wK):jX w (x.heap.size+1+1) 0 1 v0 v1:=h.nS k
theorem Gb.Y23(h:Gb W w)(x:ak)(k:jX W (x.heap.size+1+1+1) 0 1 v0 v1:=by exact wK):jX w (x.heap.size+1+1+1) 0 1 v0 v1:=h.nS k
theorem Gb.Qz(h:Gb W w)(x:ak)(k:qU W x.heap.size 0 1 2 3 v0 v1 v2 v3:=by exact wK):qU w x.heap.size 0 1 2 3 v0 v1 v2 v3:=h.BJ k
theorem Gb.Y41(h:Gb W w)(x:ak)(k:qU W (x.heap.size+1) 0 1 2 3 v0 v1 v2 v3:=by exact wK):qU w (x.heap.size+1) 0 1 2 3 v0 v1 v2 v3:=h.BJ k
theorem Gb.Aq(h:Gb W w)(x:ak)(k:qU W (x.heap.size+1+1) 0 1 2 3 v0 v1 v2 v3:=by exact wK):qU w (x.heap.size+1+1) 0 1 2 3 v0 v1 v2 v3:=h.BJ k
theorem Gb.Y50(h:Gb W w)(x:ak)(k:Qo W x.heap.size 0 1 2 3 4 v0 v1 v2 v3 v4:=by exact wK):Qo w x.heap.size 0 1 2 3 4 v0 v1 v2 v3 v4:=h.Gg k
theorem Gb.Y51(h:Gb W w)(x:ak)(k:Qo W (x.heap.size+1) 0 1 2 3 4 v0 v1 v2 v3 v4:=by exact wK):Qo w (x.heap.size+1) 0 1 2 3 4 v0 v1 v2 v3 v4:=h.Gg k
theorem Gb.Y70(h:Gb W w)(x:ak)(k:yx W x.heap.size 0 1 2 3 4 5 6 v0 v1 v2 v3 v4 v5 v6:=by exact wK):yx w x.heap.size 0 1 2 3 4 5 6 v0 v1 v2 v3 v4 v5 v6:=h.qH k
theorem Gb.KL(h:Gb W w)(x:ak)(k:yx W (x.heap.size+1) 0 1 2 3 4 5 6 v0 v1 v2 v3 v4 v5 v6:=by exact wK):yx w (x.heap.size+1) 0 1 2 3 4 5 6 v0 v1 v2 v3 v4 v5 v6:=h.qH k
theorem Gb.Y72(h:Gb W w)(x:ak)(k:yx W (x.heap.size+1+1) 0 1 2 3 4 5 6 v0 v1 v2 v3 v4 v5 v6:=by exact wK):yx w (x.heap.size+1+1) 0 1 2 3 4 5 6 v0 v1 v2 v3 v4 v5 v6:=h.qH k
theorem Gb.ql(h:Gb W w)(x:ak)(k:yx W (x.heap.size+1+1+1) 0 1 2 3 4 5 6 v0 v1 v2 v3 v4 v5 v6:=by exact wK):yx w (x.heap.size+1+1+1) 0 1 2 3 4 5 6 v0 v1 v2 v3 v4 v5 v6:=h.qH k
theorem Gb.MS(h:Gb W w)(x:ak)(k:pG W x.heap.size 0 1 2 3 v0 v1 v2 v3:=by exact wK):(pG w x.heap.size 0 1 2 3 v0 v1 v2 v3)/\∀ob,pG (w.alloc ob) x.heap.size 0 1 2 3 v0 v1 v2 v3:=⟨h.P5 k,aJf (h.P5 k)⟩
theorem Gb.K50(h:Gb W w)(x:ak)(k:uj W x.heap.size 0 1 2 3 4 v0 v1 v2 v3 v4:=by exact wK):(uj w x.heap.size 0 1 2 3 4 v0 v1 v2 v3 v4)/\∀ob,uj (w.alloc ob) x.heap.size 0 1 2 3 4 v0 v1 v2 v3 v4:=⟨h.PZ k,aNC (h.PZ k)⟩
theorem Gb.A12(h:Gb W w)(x:ak)(k:ZB W (x.heap.size+1+1) 0 v0:=by exact wK):(ZB w (x.heap.size+1+1) 0 v0)/\∀c t,ZB (w.alloc (.cells c t)) (x.heap.size+1+1) 0 v0:=⟨h.PY k,aJe (h.PY k)⟩
theorem Gb.A20(h:Gb W w)(x:ak)(k:jX W x.heap.size 0 1 v0 v1:=by exact wK):(jX w x.heap.size 0 1 v0 v1)/\∀c t,jX (w.alloc (.cells c t)) x.heap.size 0 1 v0 v1:=⟨h.nS k,Zn (h.nS k)⟩
theorem Gb.A22(h:Gb W w)(x:ak)(k:jX W (x.heap.size+1+1) 0 1 v0 v1:=by exact wK):(jX w (x.heap.size+1+1) 0 1 v0 v1)/\∀c t,jX (w.alloc (.cells c t)) (x.heap.size+1+1) 0 1 v0 v1:=⟨h.nS k,Zn (h.nS k)⟩
theorem Gb.A71(h:Gb W w)(x:ak)(k:yx W (x.heap.size+1) 0 1 2 3 4 5 6 v0 v1 v2 v3 v4 v5 v6:=by exact wK):(yx w (x.heap.size+1) 0 1 2 3 4 5 6 v0 v1 v2 v3 v4 v5 v6)/\∀c t,yx (w.alloc (.cells c t)) (x.heap.size+1) 0 1 2 3 4 5 6 v0 v1 v2 v3 v4 v5 v6:=⟨h.qH k,aC5 (h.qH k)⟩
theorem Gb.A73(h:Gb W w)(x:ak)(k:yx W (x.heap.size+1+1+1) 0 1 2 3 4 5 6 v0 v1 v2 v3 v4 v5 v6:=by exact wK):(yx w (x.heap.size+1+1+1) 0 1 2 3 4 5 6 v0 v1 v2 v3 v4 v5 v6)/\∀c t,yx (w.alloc (.cells c t)) (x.heap.size+1+1+1) 0 1 2 3 4 5 6 v0 v1 v2 v3 v4 v5 v6:=⟨h.qH k,aC5 (h.qH k)⟩
theorem Gb.e1(h:Gb W w)(b i0:Nat)(v0:Value)(k:W.cell? ⟨b,i0,none⟩=some v0:=by exact wK):w.cell? ⟨b,i0,none⟩=some v0:=h.aBN k
theorem Gb.e2(h:Gb W w)(b i0 i1:Nat)(v0 v1:Value)(k:lW W b i0 i1 v0 v1:=by exact wK):lW w b i0 i1 v0 v1:=h.P6 k
theorem Gb.e5(h:Gb W w)(b i0 i1 i2 i3 i4:Nat)(v0 v1 v2 v3 v4:Value)(k:uj W b i0 i1 i2 i3 i4 v0 v1 v2 v3 v4:=by exact wK):uj w b i0 i1 i2 i3 i4 v0 v1 v2 v3 v4:=h.PZ k
theorem Gb.e7(h:Gb W w)(b i0 i1 i2 i3 i4 i5 i6:Nat)(v0 v1 v2 v3 v4 v5 v6:Value)(k:ZC W b i0 i1 i2 i3 i4 i5 i6 v0 v1 v2 v3 v4 v5 v6:=by exact wK):ZC w b i0 i1 i2 i3 i4 i5 i6 v0 v1 v2 v3 v4 v5 v6:=h.aBL k
theorem Gb.y2(h:Gb W w)(b i0 i1:Nat)(v0 v1:Value)(k:jX W b i0 i1 v0 v1:=by exact wK):jX w b i0 i1 v0 v1:=h.nS k
theorem Gb.y4(h:Gb W w)(b i0 i1 i2 i3:Nat)(v0 v1 v2 v3:Value)(k:qU W b i0 i1 i2 i3 v0 v1 v2 v3:=by exact wK):qU w b i0 i1 i2 i3 v0 v1 v2 v3:=h.BJ k
theorem Gb.y5(h:Gb W w)(b i0 i1 i2 i3 i4:Nat)(v0 v1 v2 v3 v4:Value)(k:Qo W b i0 i1 i2 i3 i4 v0 v1 v2 v3 v4:=by exact wK):Qo w b i0 i1 i2 i3 i4 v0 v1 v2 v3 v4:=h.Gg k
theorem Gb.y7(h:Gb W w)(b i0 i1 i2 i3 i4 i5 i6:Nat)(v0 v1 v2 v3 v4 v5 v6:Value)(k:yx W b i0 i1 i2 i3 i4 i5 i6 v0 v1 v2 v3 v4 v5 v6:=by exact wK):yx w b i0 i1 i2 i3 i4 i5 i6 v0 v1 v2 v3 v4 v5 v6:=h.qH k
theorem Gb.yo(h:Gb W w)(b:Nat)(k:yx W b 0 1 2 3 4 5 6 (.int .i64 0) (.int .i64 0) (.int .i64 0) (.int .u64 0) (.int .u64 0) (.bool false) (.int .i64 0):=by exact⟨kb,kb,kb,kb,kb,kb,kb,kb,kb,kb,kb,kb,kb,kb⟩):yx w b 0 1 2 3 4 5 6 (.int .i64 0) (.int .i64 0) (.int .i64 0) (.int .u64 0) (.int .u64 0) (.bool false) (.int .i64 0):=h.y7 _ 0 1 2 3 4 5 6 _ _ _ _ _ _ _ k
abbrev E8(Q:Int->Int->Prop)(w:ak)(e:Ending)(w':ak):Prop:=∃z fl,Q z fl/\e=.returned (.agg #[.int .u64 z,.int .i64 fl])/\Gb w w'
abbrev yG(Q:Int->Int->Prop)(w:ak)(e:Ending)(w':ak):Prop:=∃z fl,Q z fl/\e=.returned (.agg #[.int .u64 z,.int .i64 fl])/\Gr w w'
