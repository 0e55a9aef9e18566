import Derived.Test.YtmiekgjgpmfekaaGreatDoorG4
import Derived.Deep.AppendLies
set_option linter.all false
open Option renaming some → Y
open Go.Value renaming int → J
open Go.Proofs.Tryz
namespace Go.Proofs.YtmiekgjgpmfekaaGreatDoor
open Go.RowKit
attribute [local go_sem] aj
structure Ch where
 f:(Int->Int->Prop)->Int
 ok:∀P:Int->Int->Prop,(∃Z fl,P Z fl)->∃fl,P (f P) fl
open Classical in
theorem TU:Nonempty Ch:=⟨⟨fun P=>if h:∃Z fl,P Z fl then Classical.choose h else 0,fun P h=>by simp only[dif_pos h];exact Classical.choose_spec h⟩⟩
def pick[Inhabited Ch](P:Int->Int->Prop):Int:=(default:Ch).f P
theorem jJ[Inhabited Ch]{P:Int->Int->Prop}(one:∀{Z fl Z' oQ},P Z fl->P Z' oQ->Z=Z'/\fl=oQ){Z fl:Int}(h:P Z fl):pick P=Z:=by
 obtain⟨oQ,h'⟩:=(default:Ch).ok P ⟨Z,fl,h⟩;exact(one h' h).1
set_option maxRecDepth 1000000
set_option maxHeartbeats 40000000
theorem Xw{P:Prop}(h:P:=by
 go_enter func153,ntmps153;go_wp2;go_returns;exact⟨rfl,kr⟩):P:=h
theorem Dp{p mn mx fb sp one inf sg nan:Int}(h:rZ p mn mx fb sp one inf sg nan)(w:World):
  QR 199 #[iQ p mn mx] w (J .u64 nan):=by
 have HF:J3 p mn mx fb:=fun w=>qw h w;have HZ:CZ p mn mx 0 inf:=fun w=>jM h 0 inf (.inl ⟨rfl,rfl⟩) w;obtain⟨m2,m4,hm2,hm4,hor,hb⟩:∃m2 m4:Int,IntKind.i64.wrap (fb-1)=m2/\IntKind.u64.wrap (1*2^m2.toNat)=m4/\bits .or .u64 inf m4=nan/\0<=m2/\m2<=52:=by
  rcases h with⟨rfl,rfl,rfl,rfl,rfl,rfl,rfl,rfl,rfl⟩|⟨rfl,rfl,rfl,rfl,rfl,rfl,rfl,rfl,rfl⟩
  ·exact⟨22,4194304,by decide+kernel,by decide+kernel,by decide+kernel,de,de⟩
  ·exact⟨51,2251799813685248,by decide+kernel,by decide+kernel,by decide+kernel,de,de⟩
 have aKx:IntKind.u64.wrap (2^m2.toNat)=m4:=by rw[<-hm4,Int.one_mul]
 have hfb:¬m2<0:=om;clear h;go_enter func199,ntmps199;go_wp2;go_region_held3 (fun w'=>aj w' w.heap.size 0 (J .i64 p)/\aj w' w.heap.size 1 (J .i64 mn)/\aj w' w.heap.size 2 (J .i64 mx))
  ((go_split_ands;(repeat' apply And.intro)<;>exact kl))
  (first
   |(go_at_call 194;refine(HF _).mono ?_;rintro e w3 ⟨rfl,aF⟩;have zC:=aF.cells;have zB:=aF.dK;have kQ:=aF.size;(try simp only[World.size_alloc,World.size_drew,World.size_setCell]at kQ))
   |(go_at_call 197;refine(HZ _).mono ?_;rintro e w4 ⟨rfl,aI⟩;have E5:=aI.cells;have EZ:=aI.dK;have oD:=aI.size;(try simp only[World.size_alloc,World.size_drew,World.size_setCell]at oD)))
 all_goals go_wp2
 all_goals go_returns
 all_goals exact⟨rfl,kr⟩
def Fm(w:World):Prop:=
 aj w 0 0 (J .i64 24)/\aj w 0 1 (J .i64 (-126))/\aj w 0 2 (J .i64 127)/\
 aj w 0 3 (J .i64 53)/\aj w 0 4 (J .i64 (-1022))/\aj w 0 5 (J .i64 1023)
theorem Fm.gb{w w':World}(h:Fm w)(k:Gb w w'):Fm w':=⟨k.old h.1,k.old h.2.1,k.old h.2.2.1,k.old h.2.2.2.1,k.old h.2.2.2.2.1,k.old h.2.2.2.2.2⟩
theorem Fm.gr{w w':World}(h:Fm w)(k:Gr w w'):Fm w':=h.gb k.gb
theorem aP.m{f p mx one inf sg nan:Int}(h:aP f p mx one inf sg nan):∃mn fb sp,rZ p mn mx fb sp one inf sg nan/\mn=1-mx/\fb=p-1:=by
 rcases h with⟨rfl,rfl,rfl,rfl,rfl,rfl,rfl⟩|⟨rfl,rfl,rfl,rfl,rfl,rfl,rfl⟩
 ·exact⟨_,_,_,.inl ⟨rfl,rfl,rfl,rfl,rfl,rfl,rfl,rfl,rfl⟩,rfl,rfl⟩
 ·exact⟨_,_,_,.inr ⟨rfl,rfl,rfl,rfl,rfl,rfl,rfl,rfl,rfl⟩,rfl,rfl⟩
theorem JD{f p mx one inf sg nan mn fb sp:Int}(h:aP f p mx one inf sg nan)(hm:rZ p mn mx fb sp one inf sg nan){w:World}(hw:Fm w):
  QR 153 #[J .i64 f] w (.tuple #[iQ p mn mx,.bool true]):=by
 obtain⟨c0,c1,c2,c3,c4,c5⟩:=hw;have hsz:=au c0;rcases h with⟨rfl,rfl,rfl,rfl,rfl,rfl,rfl⟩|⟨rfl,rfl,rfl,rfl,rfl,rfl,rfl⟩<;>rcases hm with⟨h1,rfl,h2,rfl,rfl,h3,h4,h5,h6⟩|⟨h1,rfl,h2,rfl,rfl,h3,h4,h5,h6⟩
 ·clear h1 h2 h3 h4 h5 h6;exact Xw
 ·exfalso;omega
 ·exfalso;omega
 ·clear h1 h2 h3 h4 h5 h6;exact Xw
theorem NM(f:Int)(h:¬(f=0\/f=1))(w:World):
  QR 153 #[J .i64 f] w (.tuple #[iQ 0 0 0,.bool false]):=by
 rcases(show f<0\/2<=f by omega)with c|c
 all_goals
  clear h;exact Xw
def uv(k:IntKind)(m:Nat)(g:Nat->Int):List Value:=(List.range m).map fun j=>Value.int k (g j)
theorem lF(k:IntKind)(m:Nat)(g:Nat->Int):(uv k m g).length =m:=by simp[uv]
theorem DJ(k:IntKind)(m:Nat)(g:Nat->Int)(j:Nat)(hj:j<m):(uv k m g)[j]?=Y (J k (g j)):=by simp[uv,hj]
theorem Xe{k:IntKind}{m:Nat}{g g':Nat->Int}(h:∀j,j<m->g j=g' j):uv k m g=uv k m g':=by
 unfold uv;refine List.map_congr_left fun j hj=>?_;rw[h j (by simpa using hj)]
theorem aEj(k:IntKind)(m:Nat)(g:Nat->Int)(j:Nat)(x:Int):(uv k m g).set j (J k x)=uv k m (fun i=>if i=j then x else g i):=by
 refine List.ext_getElem? fun i=>?_;by_cases hi:i<m
 ·rw[DJ _ _ _ _ hi,List.getElem?_set];by_cases e:j=i
  ·subst e;simp[lF,hi]
  ·rw[if_neg e,DJ _ _ _ _ hi,if_neg (fun h=>e h.symm)]
 ·rw[List.getElem?_eq_none (by simp[lF];omega),List.getElem?_eq_none (by rw[lF];omega)]
theorem Xf(k:IntKind)(m r:Nat)(g:Nat->Int):uv k (m+r) g=uv k m g++uv k r (fun j=>g (m+j)):=by
 unfold uv;rw[List.range_add,List.map_append,List.map_map];rfl
def Ow(w:World)(base:Nat)(t:TypeId)(size:Nat)(k:IntKind)(v:Value)(n:Nat)(g:Nat->Int):Prop:=w.ownsRow base t size v n (uv k (n*size) g)
def Rd(w:World)(k:IntKind)(v:Value)(n m:Nat)(g:Nat->Int):Prop:=
 ∃a cap,v=.slice a n cap/\n<=cap/\cap<=maxLen/\(0<n->∃b,a=Y ⟨b,0,none⟩/\∀j,j<m->w.cell? ⟨b,j,none⟩=Y (J k (g j)))
theorem Rd.gb{w w':World}{k:IntKind}{v:Value}{n m:Nat}{g:Nat->Int}(h:Rd w k v n m g)(hg:Gb w w'):Rd w' k v n m g:=by
 obtain⟨a,cap,h1,h2,h3,h4⟩:=h;refine⟨a,cap,h1,h2,h3,fun hn=>?_⟩;obtain⟨b,hb,hc⟩:=h4 hn;exact⟨b,hb,fun j hj=>hg.old (hc j hj)⟩
theorem Rd.congr{w:World}{k:IntKind}{v:Value}{n m:Nat}{g g':Nat->Int}(h:Rd w k v n m g)(e:∀j,j<m->g j=g' j):Rd w k v n m g':=by
 obtain⟨a,cap,h1,h2,h3,h4⟩:=h;refine⟨a,cap,h1,h2,h3,fun hn=>?_⟩;obtain⟨b,hb,hc⟩:=h4 hn;exact⟨b,hb,fun j hj=>by rw[hc j hj,e j hj]⟩
theorem Rd.at{w:World}{k:IntKind}{v:Value}{n m:Nat}{g:Nat->Int}(h:Rd w k v n m g)(hn:0<n):∃b cap,v=aB b n cap/\n<=cap/\cap<=maxLen/\∀j,j<m->aj w b j (J k (g j)):=by
 obtain⟨a,cap,h1,h2,h3,h4⟩:=h;obtain⟨b,rfl,hc⟩:=h4 hn;exact⟨b,cap,h1,h2,h3,hc⟩
theorem Rd.nil{w:World}(k:IntKind)(a:Option Addr)(cap:Nat)(hc:cap<=maxLen)(m:Nat)(g:Nat->Int):Rd w k (.slice a 0 cap) 0 m g:=⟨a,cap,rfl,Nat.zero_le _,hc,fun h=>absurd h om⟩
theorem Ow.len{w:World}{base:Nat}{t:TypeId}{size:Nat}{k:IntKind}{v:Value}{n:Nat}{g:Nat->Int}(h:Ow w base t size k v n g):∃a cap,v=.slice a n cap/\n<=cap/\cap<=maxLen:=by
 rcases h.2 with⟨rfl,rfl⟩|⟨b,cap,cur,rfl,_,_,hc,hm,_⟩
 ·exact⟨none,0,rfl,Nat.le_refl _,Nat.zero_le _⟩
 ·exact⟨_,cap,rfl,hc,hm⟩
theorem Ow.at{w:World}{base:Nat}{t:TypeId}{size:Nat}{k:IntKind}{v:Value}{n:Nat}{g:Nat->Int}(h:Ow w base t size k v n g)(hn:0<n):
  ∃b cap,v=aB b n cap/\base<=b/\b<w.heap.size/\n<=cap/\cap<=maxLen/\∀j,j<n*size->w.cell? ⟨b,j,none⟩=Y (J k (g j))/\w.frozen? ⟨b,j,none⟩=false:=by
 have h0:=h;rcases h.2 with⟨rfl,rfl⟩|⟨b,cap,cur,rfl,hb,hh,hc,hm,_⟩
 ·omega
 ·refine⟨b,cap,rfl,hb,(Array.getElem?_eq_some_iff.1 hh).1,hc,hm,fun j hj=>⟨?_,World.ownsRow.frozenAt h0 j⟩⟩;rw[World.ownsRow.cellAt h0 j hj,DJ _ _ _ _ hj]
theorem Ow.rd{w:World}{base:Nat}{t:TypeId}{size:Nat}{k:IntKind}{v:Value}{n:Nat}{g:Nat->Int}(h:Ow w base t size k v n g):Rd w k v n (n*size) g:=by
 rcases Nat.eq_zero_or_pos n with rfl|hn
 ·obtain⟨a,cap,rfl,_,hc⟩:=h.len;exact Rd.nil k a cap hc _ g
 ·obtain⟨b,cap,rfl,_,_,h1,h2,h3⟩:=h.at hn;exact⟨_,cap,rfl,h1,h2,fun _=>⟨b,rfl,fun j hj=>(h3 j hj).1⟩⟩
theorem Ow.gb{w w':World}{base:Nat}{t:TypeId}{size:Nat}{k:IntKind}{v:Value}{n:Nat}{g:Nat->Int}(h:Ow w base t size k v n g)(hg:Gb w w'):Ow w' base t size k v n g:=by
 refine⟨h.1,?_⟩;rcases h.2 with hn|⟨b,cap,cur,rfl,hb,hh,rest⟩
 ·exact .inl hn
 ·refine .inr ⟨b,cap,cur,rfl,hb,?_,rest⟩;rw[Below.block hg b (Array.getElem?_eq_some_iff.1 hh).1];exact hh
theorem Ow.mono{w:World}{base base':Nat}{t:TypeId}{size:Nat}{k:IntKind}{v:Value}{n:Nat}{g:Nat->Int}(h:Ow w base t size k v n g)(hb:base'<=base):Ow w base' t size k v n g:=by
 refine⟨h.1,?_⟩;rcases h.2 with hn|⟨b,cap,cur,rfl,hb',hh,rest⟩
 ·exact .inl hn
 ·exact .inr ⟨b,cap,cur,rfl,Nat.le_trans hb hb',hh,rest⟩
theorem Ow.congr{w:World}{base:Nat}{t:TypeId}{size:Nat}{k:IntKind}{v:Value}{n:Nat}{g g':Nat->Int}(h:Ow w base t size k v n g)(e:∀j,j<n*size->g j=g' j):Ow w base t size k v n g':=by
 have h':w.ownsRow base t size v n (uv k (n*size) g):=h;rw[Xe e]at h';exact h'
theorem Ow.alloc{w:World}{base:Nat}{t:TypeId}{size:Nat}{k:IntKind}{v:Value}{n:Nat}{g:Nat->Int}(h:Ow w base t size k v n g)(o:Obj):Ow (w.alloc o) base t size k v n g:=World.ownsRow.alloc h o
theorem Ow.drew{w:World}{base:Nat}{t:TypeId}{size:Nat}{k:IntKind}{v:Value}{n:Nat}{g:Nat->Int}(h:Ow w base t size k v n g):Ow w.drew base t size k v n g:=World.ownsRow.drew h
theorem Ow.ne{w:World}{base:Nat}{t:TypeId}{size:Nat}{k:IntKind}{v:Value}{n:Nat}{g:Nat->Int}(h:Ow w base t size k v n g){p:Nat}(hp:w.heap.size<=p):v.ownBlock≠Y p:=fun e=>by
 have:=(World.ownsRow.lt h p e).2;omega
theorem Rd.kept{w w':World}{k:IntKind}{b n cap m:Nat}{g:Nat->Int}{v:Value}(h:Rd w k (aB b n cap) n m g)(hk:∀p off u,aj w p off u->v.ownBlock≠Y p->aj w' p off u)(hne:v.ownBlock≠Y b):Rd w' k (aB b n cap) n m g:=by
 obtain⟨a,cap',h1,h2,h3,h4⟩:=h;refine⟨a,cap',h1,h2,h3,fun hn=>?_⟩;obtain⟨b',rfl,hc⟩:=h4 hn;simp only[Value.slice.injEq,Option.some.injEq,Addr.mk.injEq,and_true,true_and]at h1;obtain⟨rfl,rfl⟩:=h1;exact⟨b,rfl,fun j hj=>hk _ _ _ (hc j hj) hne⟩
theorem Ow.nil(w:World)(base:Nat)(t:TypeId)(size:Nat)(k:IntKind)(g:Nat->Int):Ow w base t size k (.slice none 0 0) 0 g:=by
 refine⟨by simp[uv],.inl ⟨rfl,rfl⟩⟩
theorem Ow.lit(w:World)(t:TypeId)(size:Nat)(k:IntKind)(g:Nat->Int):Ow (w.alloc (.cells #[] t)) w.heap.size t size k (aB w.heap.size 0 0) 0 g:=by
 have:=World.ownsRow_lit (base:=w.heap.size) (e:=t) (size:=size) w #[] 0 (Nat.le_refl _) (Nat.zero_le _) (by simp)
 simpa[Ow,uv]using this
theorem Ow.store{w:World}{base b cap:Nat}{t:TypeId}{size:Nat}{k:IntKind}{n:Nat}{g:Nat->Int}(h:Ow w base t size k (aB b n cap) n g)(j:Nat)(x:Int):
  Ow (w.setCell ⟨b,j,none⟩ (J k x)) base t size k (aB b n cap) n (fun i=>if i=j then x else g i):=by
 have:=(World.ownsRow.stored h j (J k x)).1;rw[aEj]at this;exact this
theorem Ow.other{w:World}{base b cap:Nat}{t:TypeId}{size:Nat}{k:IntKind}{n:Nat}{g:Nat->Int}(h:Ow w base t size k (aB b n cap) n g){p:Addr}(hp:p.block≠b)(u:Value):
  Ow (w.setCell p u) base t size k (aB b n cap) n g:=by
 refine⟨h.1,?_⟩;rcases h.2 with hn|⟨b',cap',cur,e,hb',hh,rest⟩
 ·exact .inl hn
 ·refine .inr ⟨b',cap',cur,e,hb',?_,rest⟩;simp only[Value.slice.injEq,Option.some.injEq,Addr.mk.injEq,and_true,true_and]at e;rw[Below.heap_setCell _ _ _ _ (by omega)];exact hh
theorem Rd.other{w:World}{k:IntKind}{b n cap m:Nat}{g:Nat->Int}(h:Rd w k (aB b n cap) n m g){p:Addr}(hp:p.block≠b)(u:Value):Rd (w.setCell p u) k (aB b n cap) n m g:=by
 obtain⟨a,cap',h1,h2,h3,h4⟩:=h;refine⟨a,cap',h1,h2,h3,fun hn=>?_⟩;obtain⟨b',rfl,hc⟩:=h4 hn;simp only[Value.slice.injEq,Option.some.injEq,Addr.mk.injEq,and_true,true_and]at h1;exact⟨b',rfl,fun j hj=>aH om (hc j hj)⟩
theorem RU{w:World}{o:Oper}{a:Act}{K:Act->World->Prop}{Q:Exit->Act->World->Prop}(s x:Operand)(ty:TypeId)
  (ho:o.op=.call {callee:=.builtin .append,args:=#[s,x],argTypes:=#[ty,ty]}) (t:TypeId) (z:Value) (size bytes:Nat) (k:IntKind) (hty:Tryz.prog.underlying ty=Y (.slice t)) (oP:(Tryz.prog.info? t).map (fun i=>(i.zero,i.size,i.bytes))=Y (Y z,size,bytes)) (hzs:z.cells.size=size) (hs0:0<size) (hby:bytes<=1000)
  (base n r:Nat) (g:Nat->Int) (v:Value) (b:Nat) (hs:a.eval s=v) (hown:Ow w base t size k v n g) (hx:a.eval x=aB b r r)
  (hc:∀j,j<r*size->aj w b j (J k (g (n*size+j)))) (hr0:0<r) (hn:n+r<=100000000) (hbase:base<=w.heap.size)
  (h:∀v' w',Ow w' base t size k v' (n+r) g->Below base w w'->(∀p off u,aj w p off u->v.ownBlock≠Y p->aj w' p off u)->(v'.ownBlock=v.ownBlock\/v'.ownBlock=Y w.heap.size)->K (a.put o.dst v') w'):o.wp Tryz.prog a w K Q:=by
 obtain⟨i0,hi,hz0,hz1,hz2⟩:=info_parts oP;refine wp_append_lies _ s x ty ho base t i0 z size bytes hty hi hz0 hz1 hz2 hzs hs0 v n (uv k (n*size) g) hs hown ⟨b,0,none⟩ r r (uv k (r*size) (fun j=>g (n*size+j))) hx (lF _ _ _) ?_ ?_ hr0 (by unfold maxLen;omega) (by have:=Nat.mul_le_mul hn hby;omega) hbase w.heap.size rfl ?_
 ·intro j u hj;have hlt:j<r*size:=by
   rcases Nat.lt_or_ge j (r*size)with c|c
   ·exact c
   ·rw[List.getElem?_eq_none (by rw[lF];exact c)]at hj;cases hj
  rw[DJ _ _ _ _ hlt]at hj;obtain rfl:=Option.some.inj hj;have e:(⟨b,0,none⟩:Addr).add j=⟨b,j,none⟩:=by unfold Addr.add;split<;>simp_all
  rw[e];exact hc j hlt
 ·intro u hu;obtain⟨j,_,rfl⟩:=List.mem_map.1 hu;rfl
 ·intro gb cap' w' hown' hgrow hat _;refine h _ w' ?_ ?_ ?_ ?_
  ·show World.ownsRow _ _ _ _ _ _ _;rw[Nat.add_mul,Xf];exact hown'
  ·refine(Below.refl base w).grown hgrow hbase ?_;intro q hq;exact(World.ownsRow.lt hown q hq).1
  ·intro p off u hu hne;refine(World.cell?_of_block (w:=w) (a:=⟨p,off,none⟩) (hgrow.block p (au hu) (fun e=>hne e.symm))).trans hu
  ·rcases hat with e|e
   ·exact .inl (by rw[e];rfl)
   ·exact .inr (by rw[e];rfl)
theorem h_{w:World}{ops:Array Oper}{rest:List Oper}{o:Oper}{a:Act}{Q:Exit->Act->World->Prop}(hgd:o.guard=none)(s x:Operand)(ty:TypeId)
  (ho:o.op=.call {callee:=.builtin .append,args:=#[s,x],argTypes:=#[ty,ty]}) (t:TypeId) (z:Value) (size bytes:Nat) (k:IntKind) (hty:Tryz.prog.underlying ty=Y (.slice t)) (oP:(Tryz.prog.info? t).map (fun i=>(i.zero,i.size,i.bytes))=Y (Y z,size,bytes)) (hzs:z.cells.size=size) (hs0:0<size) (hby:bytes<=1000)
  (base n r:Nat) (g:Nat->Int) (v:Value) (b:Nat) (hs:a.eval s=v) (hown:Ow w base t size k v n g) (hx:a.eval x=aB b r r)
  (hc:∀j,j<r*size->aj w b j (J k (g (n*size+j)))) (hr0:0<r) (hn:n+r<=100000000) (hbase:base<=w.heap.size)
  (h:∀v' w',Ow w' base t size k v' (n+r) g->Below base w w'->(∀p off u,aj w p off u->v.ownBlock≠Y p->aj w' p off u)->(v'.ownBlock=v.ownBlock\/v'.ownBlock=Y w.heap.size)->wpList Tryz.prog ops Q rest (a.put o.dst v') w'):wpList Tryz.prog ops Q (o::rest) a w:=
 wpList_plain hgd fun _ hK=>RU s x ty ho t z size bytes k hty oP hzs hs0 hby base n r g v b hs hown hx hc hr0 hn hbase fun v' w' h1 h2 h3 h4=>hK _ _ (h v' w' h1 h2 h3 h4)
theorem step_more{w:World}{ops:Array Oper}{o:Oper}{a:Act}{K:Act->World->Prop}{Q:Exit->Act->World->Prop}{E:Prop}(hgd:o.guard=none)(s x:Operand)(ty:TypeId)
  (ho:o.op=.call {callee:=.builtin .append,args:=#[s,x],argTypes:=#[ty,ty]}) (t:TypeId) (z:Value) (size bytes:Nat) (k:IntKind) (hty:Tryz.prog.underlying ty=Y (.slice t)) (oP:(Tryz.prog.info? t).map (fun i=>(i.zero,i.size,i.bytes))=Y (Y z,size,bytes)) (hzs:z.cells.size=size) (hs0:0<size) (hby:bytes<=1000)
  (base n r:Nat) (g:Nat->Int) (v:Value) (b:Nat) (hs:a.eval s=v) (hown:Ow w base t size k v n g) (hx:a.eval x=aB b r r)
  (hc:∀j,j<r*size->aj w b j (J k (g (n*size+j)))) (hr0:0<r) (hn:n+r<=100000000) (hbase:base<=w.heap.size)
  (h:∀v' w',Ow w' base t size k v' (n+r) g->Below base w w'->(∀p off u,aj w p off u->v.ownBlock≠Y p->aj w' p off u)->(v'.ownBlock=v.ownBlock\/v'.ownBlock=Y w.heap.size)->K (a.put o.dst v') w'):if Region.wanted o (yielded ops a.tmps)=true then Oper.wp Tryz.prog o a w K Q else E:=by
 have hw:Region.wanted o (yielded ops a.tmps)=true:=by simp[Region.wanted,hgd]
 rw[if_pos hw];exact RU s x ty ho t z size bytes k hty oP hzs hs0 hby base n r g v b hs hown hx hc hr0 hn hbase h
def Wd(a:Int):Prop:=0<=a/\a<18446744073709551616
structure Ops where
 int:Int->Int
 add:Int->Int->Int
 sub:Int->Int->Int
 mul:Int->Int->Int
 div:Int->Int->Int
 sqrt:Int->Int
structure Ops.In (o:Ops):Prop where
 int:∀n,Wd (o.int n)
 add:∀{a b},Wd a->Wd b->Wd (o.add a b)
 sub:∀{a b},Wd a->Wd b->Wd (o.sub a b)
 mul:∀{a b},Wd a->Wd b->Wd (o.mul a b)
 div:∀{a b},Wd a->Wd b->Wd (o.div a b)
 sqrt:∀{a},Wd a->Wd (o.sqrt a)
abbrev aCq(S:Nat)(a b z:Int):Prop:=Hid (∀w,Calls Tryz.prog S #[J .i64 1,J .i64 0,J .u64 a,J .u64 b] w fun e w'=>∃fl:Int,e=.returned (aK z fl)/\Gb w w')
abbrev Ug(S:Nat)(a b z:Int):Prop:=Hid (∀w,Fm w->Calls Tryz.prog S #[J .i64 1,J .i64 0,J .u64 a,J .u64 b] w fun e w'=>∃fl:Int,e=.returned (aK z fl)/\Gr w w')
structure Ops.S (o:Ops):Prop where
 one:o.int 1=4607182418800017408
 half:o.div 4607182418800017408 (o.int 2)=4602678819172646912
 int:∀n u:Int,-2047<=n->n<=2047->u=n%18446744073709551616->Hid (∀w,CT 36 #[J .i64 1,J .i64 0,J .i64 1,J .u64 u] w fun e w'=>∃fl:Int,e=.returned (aK (o.int n) fl)/\Gb w w')
 add:∀{a b},Wd a->Wd b->aCq 105 a b (o.add a b)
 sub:∀{a b},Wd a->Wd b->aCq 124 a b (o.sub a b)
 mul:∀{a b},Wd a->Wd b->aCq 104 a b (o.mul a b)
 div:∀{a b},Wd a->Wd b->aCq 45 a b (o.div a b)
 sqrt:∀{a},Wd a->Hid (∀w,CT 41 #[J .i64 1,J .i64 0,J .u64 a] w fun e w'=>∃fl:Int,e=.returned (aK (o.sqrt a) fl)/\Gb w w')
structure Ops.I (o:Ops):Prop where
 add:∀{a b},Wd a->Wd b->Ug 186 a b (o.add a b)
 sub:∀{a b},Wd a->Wd b->Ug 134 a b (o.sub a b)
 mul:∀{a b},Wd a->Wd b->Ug 135 a b (o.mul a b)
 div:∀{a b},Wd a->Wd b->Ug 206 a b (o.div a b)
 sqrt:∀{a},Wd a->Hid (∀w,Fm w->CT 205 #[J .i64 1,J .i64 0,J .u64 a] w fun e w'=>∃fl:Int,e=.returned (aK (o.sqrt a) fl)/\Gr w w')
abbrev zh:Int:=4607182418800017408
abbrev jo:Int:=4602678819172646912
def nO(a:Int):Int:=if a<9223372036854775808 then a+9223372036854775808 else a-9223372036854775808
theorem xW{a:Int}(h:Wd a):Wd (nO a):=by unfold nO Wd at*;split<;>omega
def mY(a:Int × Int):Prop:=Wd a.1/\Wd a.2
def aFw(a:Int × Int):Int × Int:=(nO a.1,nO a.2)
def xI(a:Int × Int):Int × Int:=(a.1,nO a.2)
theorem aCj{a:Int × Int}(ha:mY a):mY (aFw a):=⟨xW ha.1,xW ha.2⟩
theorem N7{a:Int × Int}(ha:mY a):mY (xI a):=⟨ha.1,xW ha.2⟩
theorem xY:Wd zh:=⟨de,de⟩
theorem pJ:Wd jo:=⟨de,de⟩
theorem su:Wd 0:=by unfold Wd;omega
namespace Ops
variable (o:Ops)
def cAdd(a b:Int × Int):Int × Int:=(o.add a.1 b.1,o.add a.2 b.2)
def cSub(a b:Int × Int):Int × Int:=(o.sub a.1 b.1,o.sub a.2 b.2)
def cMul(a b:Int × Int):Int × Int:=(o.sub (o.mul a.1 b.1) (o.mul a.2 b.2),o.add (o.mul a.1 b.2) (o.mul a.2 b.1))
def lC(a:Int × Int):Int × Int:=(o.mul a.1 jo,o.mul a.2 jo)
def kJ(a:Int × Int):Int:=o.sqrt (o.mul (o.add zh a.1) jo)
def root(a:Int × Int):Int × Int:=(o.kJ a,o.div a.2 (o.add (o.kJ a) (o.kJ a)))
def rt:Nat->Nat->Int × Int
 |0,_=>(0,0)
 |1,_=>(0,zh)
 |k+2,i=>if i%2=0 then o.root (rt (k+1) (i/2))else aFw (o.root (rt (k+1) (i/2)))
def tr:Nat->(Nat->Int)->Nat->Int × Int
 |0,_,_=>(0,0)
 |1,cs,_=>(cs 0,cs 1)
 |k+2,cs,i=>
  if i%2=0 then o.cAdd (tr (k+1) (fun m=>cs (2*m)) (i/2)) (o.cMul (o.rt (k+2) (2*(i/2))) (tr (k+1) (fun m=>cs (2*m+1)) (i/2)))
  else o.cSub (tr (k+1) (fun m=>cs (2*m)) (i/2)) (o.cMul (o.rt (k+2) (2*(i/2))) (tr (k+1) (fun m=>cs (2*m+1)) (i/2)))
def yx(zs:Nat->Int × Int)(j:Nat):Int × Int:=o.lC (o.cAdd (zs (2*j)) (zs (2*j+1)))
def zK(k:Nat)(zs:Nat->Int × Int)(j:Nat):Int × Int:=o.lC (o.cMul (o.cSub (zs (2*j)) (zs (2*j+1))) (xI (o.rt k (2*j))))
def bk:Nat->(Nat->Int × Int)->Nat->Int
 |0,_,_=>0
 |1,zs,i=>if i%2=0 then(zs 0).1 else(zs 0).2
 |k+2,zs,i=>if i%2=0 then bk (k+1) (o.yx zs) (i/2)else bk (k+1) (o.zK (k+2) zs) (i/2)
variable {o}
theorem In.cAdd(H:o.In){a b:Int × Int}(ha:mY a)(hb:mY b):mY (o.cAdd a b):=⟨H.add ha.1 hb.1,H.add ha.2 hb.2⟩
theorem In.cSub(H:o.In){a b:Int × Int}(ha:mY a)(hb:mY b):mY (o.cSub a b):=⟨H.sub ha.1 hb.1,H.sub ha.2 hb.2⟩
theorem In.cMul(H:o.In){a b:Int × Int}(ha:mY a)(hb:mY b):mY (o.cMul a b):=⟨H.sub (H.mul ha.1 hb.1) (H.mul ha.2 hb.2),H.add (H.mul ha.1 hb.2) (H.mul ha.2 hb.1)⟩
theorem In.lC(H:o.In){a:Int × Int}(ha:mY a):mY (o.lC a):=⟨H.mul ha.1 pJ,H.mul ha.2 pJ⟩
theorem In.kJ(H:o.In){a:Int × Int}(ha:mY a):Wd (o.kJ a):=H.sqrt (H.mul (H.add xY ha.1) pJ)
theorem In.root(H:o.In){a:Int × Int}(ha:mY a):mY (o.root a):=⟨H.kJ ha,H.div ha.2 (H.add (H.kJ ha) (H.kJ ha))⟩
theorem In.rt(H:o.In):∀(k i:Nat),mY (o.rt k i)
 |0,_=>by simp only[Ops.rt];exact⟨su,su⟩
 |1,_=>by simp only[Ops.rt];exact⟨su,xY⟩
 |k+2,i=>by
  have:=In.rt H (k+1) (i/2);simp only[Ops.rt];split
  ·exact H.root this
  ·exact aCj (H.root this)
theorem In.tr(H:o.In):∀(k:Nat) (cs:Nat->Int) (i:Nat),(∀j,Wd (cs j))->mY (o.tr k cs i)
 |0,_,_,_=>by simp only[Ops.tr];exact⟨su,su⟩
 |1,cs,_,h=>by simp only[Ops.tr];exact⟨h 0,h 1⟩
 |k+2,cs,i,h=>by
  have h1:=In.tr H (k+1) (fun m=>cs (2*m)) (i/2) (fun j=>h _);have h2:=In.tr H (k+1) (fun m=>cs (2*m+1)) (i/2) (fun j=>h _);simp only[Ops.tr];split
  ·exact H.cAdd h1 (H.cMul (In.rt H _ _) h2)
  ·exact H.cSub h1 (H.cMul (In.rt H _ _) h2)
theorem In.yx(H:o.In){zs:Nat->Int × Int}(h:∀j,mY (zs j))(j:Nat):mY (o.yx zs j):=H.lC (H.cAdd (h _) (h _))
theorem In.zK(H:o.In)(k:Nat){zs:Nat->Int × Int}(h:∀j,mY (zs j))(j:Nat):mY (o.zK k zs j):=H.lC (H.cMul (H.cSub (h _) (h _)) (N7 (H.rt _ _)))
theorem In.bk(H:o.In):∀(k:Nat) (zs:Nat->Int × Int) (i:Nat),(∀j,mY (zs j))->Wd (o.bk k zs i)
 |0,_,_,_=>by simp only[Ops.bk];exact su
 |1,zs,i,h=>by
  simp only[Ops.bk];split
  ·exact(h 0).1
  ·exact(h 0).2
 |k+2,zs,i,h=>by
  simp only[Ops.bk];split
  ·exact In.bk H (k+1) _ _ (H.yx h)
  ·exact In.bk H (k+1) _ _ (H.zK _ h)
theorem Lj:∀(k:Nat) (cs ds:Nat->Int) (i:Nat),(∀j,j<2^k->cs j=ds j)->o.tr k cs i=o.tr k ds i
 |0,_,_,_,_=>by simp only[Ops.tr]
 |1,cs,ds,_,h=>by simp only[Ops.tr];rw[h 0 om,h 1 (by omega)]
 |k+2,cs,ds,i,h=>by
  have e:2^(k+2)=2*2^(k+1):=by rw[Nat.pow_succ,Nat.mul_comm]
  have h1:=Lj (k+1) (fun m=>cs (2*m)) (fun m=>ds (2*m)) (i/2) (fun j hj=>h _ om);have h2:=Lj (k+1) (fun m=>cs (2*m+1)) (fun m=>ds (2*m+1)) (i/2) (fun j hj=>h _ om);simp only[Ops.tr];rw[h1,h2]
theorem Oa:∀(k:Nat) (zs ys:Nat->Int × Int) (i:Nat),(∀j,2*j<2^k->zs j=ys j)->o.bk k zs i=o.bk k ys i
 |0,_,_,_,_=>by simp only[Ops.bk]
 |1,zs,ys,_,h=>by simp only[Ops.bk];rw[h 0 (by omega)]
 |k+2,zs,ys,i,h=>by
  have e:2^(k+2)=2*2^(k+1):=by rw[Nat.pow_succ,Nat.mul_comm]
  have e':2^(k+1)=2*2^k:=by rw[Nat.pow_succ,Nat.mul_comm]
  simp only[Ops.bk];rw[Oa (k+1) (o.yx zs) (o.yx ys) (i/2) (fun j hj=>by unfold Ops.yx;rw[h _ om,h _ (by omega)]),Oa (k+1) (o.zK (k+2) zs) (o.zK (k+2) ys) (i/2) (fun j hj=>by unfold Ops.zK;rw[h _ om,h _ (by omega)])]
end Ops
def flat(f:Nat->Int × Int)(j:Nat):Int:=if j%2=0 then(f (j/2)).1 else(f (j/2)).2
theorem dh(f:Nat->Int × Int)(j:Nat):flat f (2*j)=(f j).1 :=by unfold flat;rw[if_pos om,show 2*j/2=j by omega]
theorem dn(f:Nat->Int × Int)(j:Nat):flat f (2*j+1)=(f j).2 :=by unfold flat;rw[if_neg om,show(2*j+1)/2=j by omega]
theorem aFm{f g:Nat->Int × Int}{n:Nat}(h:∀j,j<n->f j=g j):∀j,j<n*2->flat f j=flat g j:=by
 intro j hj;unfold flat;rw[h (j/2) (by omega)]
