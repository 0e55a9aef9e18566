import Derived.Test.YthoelefkjpjhfaaGreatDoorG4
import Derived.Deep.AppendLies
import Derived.Test.YthoelefkjpjhfaaGreatDoorG0
import Derived.Test.YthoelefkjpjhfaaGreatDoorG7
set_option linter.all false
open Bool renaming false → D, true → T
open Option renaming some → W
open Go.Proofs.YthoelefkjpjhfaaGreatDoor renaming vI → J
open Go.Value renaming int → Y, bool → U
open Go.IntKind renaming u64 → O
open Go.Ending renaming returned → X
open Go.Proofs.Tryz
namespace Go.Proofs.YthoelefkjpjhfaaGreatDoor
open Go.RowKit
attribute [local go_sem] aB
structure Ch where
 f:(Int->Int->Prop)->Int
 ok:∀P:Int->Int->Prop,(∃Z fl,P Z fl)->∃fl,P (f P) fl
open Classical in
theorem aNy:Nonempty Ch:=⟨⟨λP=>if h:∃Z fl,P Z fl then Classical.choose h else 0,λP h=>by simp only[dif_pos h];exact Classical.choose_spec h⟩⟩
def pick[Inhabited Ch](P:Int->Int->Prop):Int:=(default:Ch).f P
def mQ[Inhabited Ch]{P:Int->Int->Prop}(one:∀{Z fl Z' qQ},P Z fl->P Z' qQ->Z=Z'/\fl=qQ){Z fl:Int}(h:P Z fl):pick P=Z:=by
 obtain⟨qQ,h'⟩:=(default:Ch).ok P ⟨Z,fl,h⟩;exact(one h' h).1
set_option maxRecDepth 1000000
set_option maxHeartbeats 40000000
def aF3{P:Prop}(h:P:=by
 go_enter func168,ntmps168;go_wp2;go_returns;exact⟨rfl,kr⟩):P:=h
def MK{p mn mx fb sp one aN sg nan:Int}(h:zo p mn mx fb sp one aN sg nan)(w:ak):
  QR 238 #[lT p mn mx] w (Y O nan):=by
 have HF:Gx p mn mx fb:=λw=>xZ h w;have HZ:Ag p mn mx 0 aN:=λw=>ou h 0 aN (.inl ⟨rfl,rfl⟩) w;obtain⟨m2,m4,LY,hm4,hor,hb⟩:∃m2 m4:Int,IntKind.i64.wrap (fb-1)=m2/\IntKind.u64.wrap (1*2^m2.toNat)=m4/\bits .or O aN m4=nan/\0<=m2/\m2<=52:=by
  rcases h with⟨rfl,rfl,rfl,rfl,rfl,rfl,rfl,rfl,rfl⟩|⟨rfl,rfl,rfl,rfl,rfl,rfl,rfl,rfl,rfl⟩
  .exact⟨22,4194304,by decide+kernel,by decide+kernel,by decide+kernel,de,de⟩
  .exact⟨51,2251799813685248,by decide+kernel,by decide+kernel,by decide+kernel,de,de⟩
 have aV8:IntKind.u64.wrap (2^m2.toNat)=m4:=by rw[<-hm4,Int.one_mul]
 have Ru:¬m2<0:=om;clear h;go_enter func238,ntmps238;go_wp2;go_region_held3 (λw'=>jU w' w.heap.size 0 1 2 (J p) (J mn) (J mx))((go_split_ands;(repeat' apply And.intro)<;>exact kl))(first|(go_at_call 182;refine(HF _).mono ?_;rintro e w3 ⟨rfl,aO⟩;have DJ:=aO.cells;have DF:=aO.eY;have oO:=aO.size;(try simp only[dV,jg,jW]at oO))|(go_at_call 240;refine(HZ _).mono ?_;rintro e w4 ⟨rfl,bg⟩;have Px:=bg.cells;have Po:=bg.eY;have vZ:=bg.size;(try simp only[dV,jg,jW]at vZ)))
 all_goals go_wp2<;>go_returns
 all_goals exact⟨rfl,kr⟩
def Fm(w:ak):Prop:=
 aB w 0 0 (J 24)/\aB w 0 1 (J (-126))/\aB w 0 2 (J 127)/\
 aB w 0 3 (J 53)/\aB w 0 4 (J (-1022))/\aB w 0 5 (J 1023)
def Fm.gb{w w':ak}(h:Fm w)(k:Gb w w'):Fm w':=⟨k.old h.1,k.old h.2.1,k.old h.2.2.1,k.old h.2.2.2.1,k.old h.2.2.2.2.1,k.old h.2.2.2.2.2⟩
def Fm.gr{w w':ak}(h:Fm w)(k:Gr w w'):Fm w':=h.gb k.gb
def bI.m{f p mx one aN sg nan:Int}(h:bI f p mx one aN sg nan):∃mn fb sp,zo p mn mx fb sp one aN sg nan/\mn=1-mx/\fb=p-1:=by
 rcases h with⟨rfl,rfl,rfl,rfl,rfl,rfl,rfl⟩|⟨rfl,rfl,rfl,rfl,rfl,rfl,rfl⟩
 .exact⟨_,_,_,.inl ⟨rfl,rfl,rfl,rfl,rfl,rfl,rfl,rfl,rfl⟩,rfl,rfl⟩
 .exact⟨_,_,_,.inr ⟨rfl,rfl,rfl,rfl,rfl,rfl,rfl,rfl,rfl⟩,rfl,rfl⟩
def oD{f p mx one aN sg nan mn fb sp:Int}(h:bI f p mx one aN sg nan)(hm:zo p mn mx fb sp one aN sg nan){w:ak}(hw:Fm w):
  KP f w p mn mx T:=by
 obtain⟨c0,c1,c2,c3,c4,c5⟩:=hw;have qY:=aA c0;rcases h with⟨rfl,rfl,rfl,rfl,rfl,rfl,rfl⟩|⟨rfl,rfl,rfl,rfl,rfl,rfl,rfl⟩<;>rcases hm with⟨h1,rfl,h2,rfl,rfl,h3,h4,h5,h6⟩|⟨h1,rfl,h2,rfl,rfl,h3,h4,h5,h6⟩
 .clear h1 h2 h3 h4 h5 h6;exact aF3
 .exfalso;omega
 .exfalso;omega
 .clear h1 h2 h3 h4 h5 h6;exact aF3
def pK(f:Int)(h:¬(f=0\/f=1))(w:ak):
  QR 168 #[J f] w (.tuple #[lT 0 0 0,U D]):=by
 rcases(om:f<0\/2<=f)with c|c
 all_goals
  clear h;exact aF3
def uv(k:IntKind)(m:Nat)(g:Nat->Int):List Value:=(List.range m).map λj=>Value.int k (g j)
def rP(k:IntKind)(m:Nat)(g:Nat->Int):(uv k m g).length =m:=by simp[uv]
def Na(k:IntKind)(m:Nat)(g:Nat->Int)(j:Nat)(hj:j<m):(uv k m g)[j]?=W (Y k (g j)):=by simp[uv,hj]
def aFy{k:IntKind}{m:Nat}{g g':Nat->Int}(h:∀j,j<m->g j=g' j):uv k m g=uv k m g':=by
 unfold uv;refine List.map_congr_left λj hj=>?_;rw[h j (by simpa using hj)]
def aNN(k:IntKind)(m:Nat)(g:Nat->Int)(j:Nat)(x:Int):(uv k m g).set j (Y k x)=uv k m (λi=>if i=j then x else g i):=by
 refine List.ext_getElem? λi=>?_;by_cases hi:i<m
 .rw[Na _ _ _ _ hi,List.getElem?_set];by_cases e:j=i
  .subst e;simp[rP,hi]
  .rw[aH e,Na _ _ _ _ hi,aH (λh=>e h.symm)]
 .rw[List.getElem?_eq_none (by simp[rP];omega),List.getElem?_eq_none (by rw[rP];omega)]
def aFz(k:IntKind)(m r:Nat)(g:Nat->Int):uv k (m+r) g=uv k m g++uv k r (λj=>g (m+j)):=by
 unfold uv;rw[List.range_add,List.map_append,List.map_map];rfl
def Ow(w:ak)(base:Nat)(t:TypeId)(size:Nat)(k:IntKind)(v:Value)(n:Nat)(g:Nat->Int):Prop:=w.ownsRow base t size v n (uv k (n*size) g)
def Rd(w:ak)(k:IntKind)(v:Value)(n m:Nat)(g:Nat->Int):Prop:=
 ∃a cap,v=.slice a n cap/\n<=cap/\cap<=maxLen/\(0<n->∃b,a=W ⟨b,0,none⟩/\∀j,j<m->w.cell? ⟨b,j,none⟩=W (Y k (g j)))
def Rd.gb{w w':ak}{k:IntKind}{v:Value}{n m:Nat}{g:Nat->Int}(h:Rd w k v n m g)(hg:Gb w w'):Rd w' k v n m g:=by
 obtain⟨a,cap,h1,h2,h3,h4⟩:=h;refine⟨a,cap,h1,h2,h3,λhn=>?_⟩;obtain⟨b,hb,hc⟩:=h4 hn;exact⟨b,hb,λj hj=>hg.old (hc j hj)⟩
def Rd.congr{w:ak}{k:IntKind}{v:Value}{n m:Nat}{g g':Nat->Int}(h:Rd w k v n m g)(e:∀j,j<m->g j=g' j):Rd w k v n m g':=by
 obtain⟨a,cap,h1,h2,h3,h4⟩:=h;refine⟨a,cap,h1,h2,h3,λhn=>?_⟩;obtain⟨b,hb,hc⟩:=h4 hn;exact⟨b,hb,λj hj=>by rw[hc j hj,e j hj]⟩
def Rd.at{w:ak}{k:IntKind}{v:Value}{n m:Nat}{g:Nat->Int}(h:Rd w k v n m g)(hn:0<n):∃b cap,v=aF b n cap/\n<=cap/\cap<=maxLen/\∀j,j<m->aB w b j (Y k (g j)):=by
 obtain⟨a,cap,h1,h2,h3,h4⟩:=h;obtain⟨b,rfl,hc⟩:=h4 hn;exact⟨b,cap,h1,h2,h3,hc⟩
def Rd.nil{w:ak}(k:IntKind)(a:Option Addr)(cap:Nat)(hc:cap<=maxLen)(m:Nat)(g:Nat->Int):Rd w k (.slice a 0 cap) 0 m g:=⟨a,cap,rfl,fV _,hc,λh=>bG h om⟩
def Ow.len{w:ak}{base:Nat}{t:TypeId}{size:Nat}{k:IntKind}{v:Value}{n:Nat}{g:Nat->Int}(h:Ow w base t size k v n g):∃a cap,v=.slice a n cap/\n<=cap/\cap<=maxLen:=by
 rcases h.2 with⟨rfl,rfl⟩|⟨b,cap,cur,rfl,_,_,hc,hm,_⟩
 .exact⟨none,0,rfl,dJ _,fV _⟩
 .exact⟨_,cap,rfl,hc,hm⟩
def Ow.at{w:ak}{base:Nat}{t:TypeId}{size:Nat}{k:IntKind}{v:Value}{n:Nat}{g:Nat->Int}(h:Ow w base t size k v n g)(hn:0<n):
  ∃b cap,v=aF b n cap/\base<=b/\b<w.heap.size/\n<=cap/\cap<=maxLen/\∀j,j<n*size->w.cell? ⟨b,j,none⟩=W (Y k (g j))/\w.frozen? ⟨b,j,none⟩=D:=by
 have h0:=h;rcases h.2 with⟨rfl,rfl⟩|⟨b,cap,cur,rfl,hb,hh,hc,hm,_⟩
 .omega
 .refine⟨b,cap,rfl,hb,(Ap.1 hh).1,hc,hm,λj hj=>⟨?_,World.ownsRow.frozenAt h0 j⟩⟩;rw[World.ownsRow.cellAt h0 j hj,Na _ _ _ _ hj]
def Ow.rd{w:ak}{base:Nat}{t:TypeId}{size:Nat}{k:IntKind}{v:Value}{n:Nat}{g:Nat->Int}(h:Ow w base t size k v n g):Rd w k v n (n*size) g:=by
 rcases jL n with rfl|hn
 .obtain⟨a,cap,rfl,_,hc⟩:=h.len;exact Rd.nil k a cap hc _ g
 .obtain⟨b,cap,rfl,_,_,h1,h2,h3⟩:=h.at hn;exact⟨_,cap,rfl,h1,h2,λ_=>⟨b,rfl,λj hj=>(h3 j hj).1⟩⟩
def Ow.gb{w w':ak}{base:Nat}{t:TypeId}{size:Nat}{k:IntKind}{v:Value}{n:Nat}{g:Nat->Int}(h:Ow w base t size k v n g)(hg:Gb w w'):Ow w' base t size k v n g:=by
 refine⟨h.1,?_⟩;rcases h.2 with hn|⟨b,cap,cur,rfl,hb,hh,rest⟩
 .exact .inl hn
 .refine .inr ⟨b,cap,cur,rfl,hb,?_,rest⟩;rw[Below.block hg b (Ap.1 hh).1];exact hh
def Ow.mono{w:ak}{base base':Nat}{t:TypeId}{size:Nat}{k:IntKind}{v:Value}{n:Nat}{g:Nat->Int}(h:Ow w base t size k v n g)(hb:base'<=base):Ow w base' t size k v n g:=by
 refine⟨h.1,?_⟩;rcases h.2 with hn|⟨b,cap,cur,rfl,Dq,hh,rest⟩
 .exact .inl hn
 .exact .inr ⟨b,cap,cur,rfl,yI hb Dq,hh,rest⟩
def Ow.congr{w:ak}{base:Nat}{t:TypeId}{size:Nat}{k:IntKind}{v:Value}{n:Nat}{g g':Nat->Int}(h:Ow w base t size k v n g)(e:∀j,j<n*size->g j=g' j):Ow w base t size k v n g':=by
 have h':w.ownsRow base t size v n (uv k (n*size) g):=h;rw[aFy e]at h';exact h'
def Ow.alloc{w:ak}{base:Nat}{t:TypeId}{size:Nat}{k:IntKind}{v:Value}{n:Nat}{g:Nat->Int}(h:Ow w base t size k v n g)(o:Obj):Ow (w.alloc o) base t size k v n g:=World.ownsRow.alloc h o
def Ow.drew{w:ak}{base:Nat}{t:TypeId}{size:Nat}{k:IntKind}{v:Value}{n:Nat}{g:Nat->Int}(h:Ow w base t size k v n g):Ow w.drew base t size k v n g:=World.ownsRow.drew h
def Ow.ne{w:ak}{base:Nat}{t:TypeId}{size:Nat}{k:IntKind}{v:Value}{n:Nat}{g:Nat->Int}(h:Ow w base t size k v n g){p:Nat}(hp:w.heap.size<=p):v.ownBlock≠W p:=λe=>by
 have:=(World.ownsRow.lt h p e).2;omega
def Rd.kept{w w':ak}{k:IntKind}{b n cap m:Nat}{g:Nat->Int}{v:Value}(h:Rd w k (aF b n cap) n m g)(hk:∀p off u,aB w p off u->v.ownBlock≠W p->aB w' p off u)(lM:v.ownBlock≠W b):Rd w' k (aF b n cap) n m g:=by
 obtain⟨a,cap',h1,h2,h3,h4⟩:=h;refine⟨a,cap',h1,h2,h3,λhn=>?_⟩;obtain⟨b',rfl,hc⟩:=h4 hn;simp only[Value.slice.injEq,Option.some.injEq,Addr.mk.injEq,and_true,true_and]at h1;obtain⟨rfl,rfl⟩:=h1;exact⟨b,rfl,λj hj=>hk _ _ _ (hc j hj) lM⟩
def Ow.nil(w:ak)(base:Nat)(t:TypeId)(size:Nat)(k:IntKind)(g:Nat->Int):Ow w base t size k (.slice none 0 0) 0 g:=by
 refine⟨by simp[uv],.inl ⟨rfl,rfl⟩⟩
def Ow.lit(w:ak)(t:TypeId)(size:Nat)(k:IntKind)(g:Nat->Int):Ow (w.alloc (.cells #[] t)) w.heap.size t size k (aF w.heap.size 0 0) 0 g:=by
 have:=MZ (base:=w.heap.size) (e:=t) (size:=size) w #[] 0 (dJ _) (fV _) (by simp)
 simpa[Ow,uv]using this
def Ow.store{w:ak}{base b cap:Nat}{t:TypeId}{size:Nat}{k:IntKind}{n:Nat}{g:Nat->Int}(h:Ow w base t size k (aF b n cap) n g)(j:Nat)(x:Int):
  Ow (w.setCell ⟨b,j,none⟩ (Y k x)) base t size k (aF b n cap) n (λi=>if i=j then x else g i):=by
 have:=(World.ownsRow.stored h j (Y k x)).1;rw[aNN]at this;exact this
def Ow.other{w:ak}{base b cap:Nat}{t:TypeId}{size:Nat}{k:IntKind}{n:Nat}{g:Nat->Int}(h:Ow w base t size k (aF b n cap) n g){p:Addr}(hp:p.block≠b)(u:Value):
  Ow (w.setCell p u) base t size k (aF b n cap) n g:=by
 refine⟨h.1,?_⟩;rcases h.2 with hn|⟨b',cap',cur,e,Dq,hh,rest⟩
 .exact .inl hn
 .refine .inr ⟨b',cap',cur,e,Dq,?_,rest⟩;simp only[Value.slice.injEq,Option.some.injEq,Addr.mk.injEq,and_true,true_and]at e;rw[Below.heap_setCell _ _ _ _ (by omega)];exact hh
def Rd.other{w:ak}{k:IntKind}{b n cap m:Nat}{g:Nat->Int}(h:Rd w k (aF b n cap) n m g){p:Addr}(hp:p.block≠b)(u:Value):Rd (w.setCell p u) k (aF b n cap) n m g:=by
 obtain⟨a,cap',h1,h2,h3,h4⟩:=h;refine⟨a,cap',h1,h2,h3,λhn=>?_⟩;obtain⟨b',rfl,hc⟩:=h4 hn;simp only[Value.slice.injEq,Option.some.injEq,Addr.mk.injEq,and_true,true_and]at h1;exact⟨b',rfl,λj hj=>aZ om (hc j hj)⟩
def aBY{w:ak}{o:Oper}{a:Act}{K:Act->ak->Prop}{Q:Exit->Act->ak->Prop}(s x:Operand)(ty:TypeId)
  (ho:o.op=.call {callee:=.builtin .append,args:=#[s,x],argTypes:=#[ty,ty]}) (t:TypeId) (z:Value) (size bytes:Nat) (k:IntKind) (LW:prog.underlying ty=W (.slice t)) (xY:(prog.info? t).map (λi=>(i.zero,i.size,i.bytes))=W (W z,size,bytes)) (hzs:z.cells.size=size) (hs0:0<size) (EL:bytes<=1000)
  (base n r:Nat) (g:Nat->Int) (v:Value) (b:Nat) (hs:a.eval s=v) (iG:Ow w base t size k v n g) (hx:a.eval x=aF b r r)
  (hc:∀j,j<r*size->aB w b j (Y k (g (n*size+j)))) (Qv:0<r) (hn:n+r<=100000000) (nN:base<=w.heap.size)
  (h:∀v' w',Ow w' base t size k v' (n+r) g->Below base w w'->(∀p off u,aB w p off u->v.ownBlock≠W p->aB w' p off u)->(v'.ownBlock=v.ownBlock\/v'.ownBlock=W w.heap.size)->K (a.put o.dst v') w'):o.wp prog a w K Q:=by
 obtain⟨i0,hi,mD,jB,mG⟩:=info_parts xY;refine wp_append_lies _ s x ty ho base t i0 z size bytes LW hi mD jB mG hzs hs0 v n (uv k (n*size) g) hs iG ⟨b,0,none⟩ r r (uv k (r*size) (λj=>g (n*size+j))) hx (rP _ _ _) ?_ ?_ Qv (by unfold maxLen;omega) (by have:=Nat.mul_le_mul hn EL;omega) nN w.heap.size rfl ?_
 .intro j u hj;have fJ:j<r*size:=by
   rcases uq j (r*size)with c|c
   .exact c
   .rw[List.getElem?_eq_none (by rw[rP];exact c)]at hj;cases hj
  rw[Na _ _ _ _ fJ]at hj;obtain rfl:=Option.some.inj hj;have e:(⟨b,0,none⟩:Addr).add j=⟨b,j,none⟩:=by unfold Addr.add;split<;>simp_all
  rw[e];exact hc j fJ
 .intro u hu;obtain⟨j,_,rfl⟩:=List.mem_map.1 hu;rfl
 .intro gb cap' w' tZ lS hat _;refine h _ w' ?_ ?_ ?_ ?_
  .show World.ownsRow _ _ _ _ _ _ _;rw[Ak,aFz];exact tZ
  .refine(Below.refl base w).grown lS nN ?_;intro q hq;exact(World.ownsRow.lt iG q hq).1
  .intro p off u hu lM;refine(World.cell?_of_block (w:=w) (a:=⟨p,off,none⟩) (lS.block p (aA hu) (λe=>lM e.symm))).trans hu
  .rcases hat with e|e
   .exact .inl (by rw[e];rfl)
   .exact .inr (by rw[e];rfl)
def nC{w:ak}{ops:Array Oper}{rest:List Oper}{o:Oper}{a:Act}{Q:Exit->Act->ak->Prop}(YD:o.guard=none)(s x:Operand)(ty:TypeId)
  (ho:o.op=.call {callee:=.builtin .append,args:=#[s,x],argTypes:=#[ty,ty]}) (t:TypeId) (z:Value) (size bytes:Nat) (k:IntKind) (LW:prog.underlying ty=W (.slice t)) (xY:(prog.info? t).map (λi=>(i.zero,i.size,i.bytes))=W (W z,size,bytes)) (hzs:z.cells.size=size) (hs0:0<size) (EL:bytes<=1000)
  (base n r:Nat) (g:Nat->Int) (v:Value) (b:Nat) (hs:a.eval s=v) (iG:Ow w base t size k v n g) (hx:a.eval x=aF b r r)
  (hc:∀j,j<r*size->aB w b j (Y k (g (n*size+j)))) (Qv:0<r) (hn:n+r<=100000000) (nN:base<=w.heap.size)
  (h:∀v' w',Ow w' base t size k v' (n+r) g->Below base w w'->(∀p off u,aB w p off u->v.ownBlock≠W p->aB w' p off u)->(v'.ownBlock=v.ownBlock\/v'.ownBlock=W w.heap.size)->wpList prog ops Q rest (a.put o.dst v') w'):wpList prog ops Q (o::rest) a w:=
 wpList_plain YD λ_ hK=>aBY s x ty ho t z size bytes k LW xY hzs hs0 EL base n r g v b hs iG hx hc Qv hn nN λv' w' h1 h2 h3 h4=>hK _ _ (h v' w' h1 h2 h3 h4)
def step_more{w:ak}{ops:Array Oper}{o:Oper}{a:Act}{K:Act->ak->Prop}{Q:Exit->Act->ak->Prop}{E:Prop}(YD:o.guard=none)(s x:Operand)(ty:TypeId)
  (ho:o.op=.call {callee:=.builtin .append,args:=#[s,x],argTypes:=#[ty,ty]}) (t:TypeId) (z:Value) (size bytes:Nat) (k:IntKind) (LW:prog.underlying ty=W (.slice t)) (xY:(prog.info? t).map (λi=>(i.zero,i.size,i.bytes))=W (W z,size,bytes)) (hzs:z.cells.size=size) (hs0:0<size) (EL:bytes<=1000)
  (base n r:Nat) (g:Nat->Int) (v:Value) (b:Nat) (hs:a.eval s=v) (iG:Ow w base t size k v n g) (hx:a.eval x=aF b r r)
  (hc:∀j,j<r*size->aB w b j (Y k (g (n*size+j)))) (Qv:0<r) (hn:n+r<=100000000) (nN:base<=w.heap.size)
  (h:∀v' w',Ow w' base t size k v' (n+r) g->Below base w w'->(∀p off u,aB w p off u->v.ownBlock≠W p->aB w' p off u)->(v'.ownBlock=v.ownBlock\/v'.ownBlock=W w.heap.size)->K (a.put o.dst v') w'):if Region.wanted o (yielded ops a.tmps)=T then Oper.wp prog o a w K Q else E:=by
 have hw:Region.wanted o (yielded ops a.tmps)=T:=by simp[Region.wanted,YD]
 rw[aQ hw];exact aBY s x ty ho t z size bytes k LW xY hzs hs0 EL base n r g v b hs iG hx hc Qv hn nN h
def Wd(a:Int):Prop:=0<=a/\a<18446744073709551616
structure Ops where
 int:Int->Int
 add:Int->Int->Int
 sub:Int->Int->Int
 mul:Int->Int->Int
 div:Int->Int->Int
 sqrt:Int->Int
structure Ops.In (o:Ops):Prop where
 int:∀n,Wd (o.int n)
 add:∀{a b},Wd a->Wd b->Wd (o.add a b)
 sub:∀{a b},Wd a->Wd b->Wd (o.sub a b)
 mul:∀{a b},Wd a->Wd b->Wd (o.mul a b)
 div:∀{a b},Wd a->Wd b->Wd (o.div a b)
 sqrt:∀{a},Wd a->Wd (o.sqrt a)
abbrev aLF(S:Nat)(a b z:Int):Prop:=Hid (∀w,Calls prog S #[J 1,J 0,Y O a,Y O b] w λe w'=>∃fl:Int,e=X (aU z fl)/\Gb w w')
abbrev aC8(S:Nat)(a b z:Int):Prop:=Hid (∀w,Fm w->Calls prog S #[J 1,J 0,Y O a,Y O b] w λe w'=>∃fl:Int,e=X (aU z fl)/\Gr w w')
structure Ops.S (o:Ops):Prop where
 one:o.int 1=4607182418800017408
 half:o.div 4607182418800017408 (o.int 2)=4602678819172646912
 int:∀n u:Int,-2047<=n->n<=2047->u=n%18446744073709551616->Hid (∀w,CT 60 #[J 1,J 0,J 1,Y O u] w λe w'=>∃fl:Int,e=X (aU (o.int n) fl)/\Gb w w')
 add:∀{a b},Wd a->Wd b->aLF 62 a b (o.add a b)
 sub:∀{a b},Wd a->Wd b->aLF 63 a b (o.sub a b)
 mul:∀{a b},Wd a->Wd b->aLF 64 a b (o.mul a b)
 div:∀{a b},Wd a->Wd b->aLF 66 a b (o.div a b)
 sqrt:∀{a},Wd a->Hid (∀w,CT 67 #[J 1,J 0,Y O a] w λe w'=>∃fl:Int,e=X (aU (o.sqrt a) fl)/\Gb w w')
structure Ops.I (o:Ops):Prop where
 add:∀{a b},Wd a->Wd b->aC8 26 a b (o.add a b)
 sub:∀{a b},Wd a->Wd b->aC8 27 a b (o.sub a b)
 mul:∀{a b},Wd a->Wd b->aC8 28 a b (o.mul a b)
 div:∀{a b},Wd a->Wd b->aC8 30 a b (o.div a b)
 sqrt:∀{a},Wd a->Hid (∀w,Fm w->CT 32 #[J 1,J 0,Y O a] w λe w'=>∃fl:Int,e=X (aU (o.sqrt a) fl)/\Gr w w')
abbrev Q8:Int:=4607182418800017408
abbrev KG:Int:=4602678819172646912
def yD(a:Int):Int:=if a<9223372036854775808 then a+9223372036854775808 else a-9223372036854775808
def G_{a:Int}(h:Wd a):Wd (yD a):=by unfold yD Wd at*;split<;>omega
def uN(a:Int × Int):Prop:=Wd a.1/\Wd a.2
def aR2(a:Int × Int):Int × Int:=(yD a.1,yD a.2)
def Zd(a:Int × Int):Int × Int:=(a.1,yD a.2)
def aLt{a:Int × Int}(ha:uN a):uN (aR2 a):=⟨G_ ha.1,G_ ha.2⟩
def Zc{a:Int × Int}(ha:uN a):uN (Zd a):=⟨ha.1,G_ ha.2⟩
def D7:Wd Q8:=⟨de,de⟩
def xA:Wd KG:=⟨de,de⟩
def BM:Wd 0:=by unfold Wd;omega
namespace Ops
variable (o:Ops)
def cAdd(a b:Int × Int):Int × Int:=(o.add a.1 b.1,o.add a.2 b.2)
def cSub(a b:Int × Int):Int × Int:=(o.sub a.1 b.1,o.sub a.2 b.2)
def cMul(a b:Int × Int):Int × Int:=(o.sub (o.mul a.1 b.1) (o.mul a.2 b.2),o.add (o.mul a.1 b.2) (o.mul a.2 b.1))
def uJ(a:Int × Int):Int × Int:=(o.mul a.1 KG,o.mul a.2 KG)
def vK(a:Int × Int):Int:=o.sqrt (o.mul (o.add Q8 a.1) KG)
def root(a:Int × Int):Int × Int:=(o.vK a,o.div a.2 (o.add (o.vK a) (o.vK a)))
def rt:Nat->Nat->Int × Int
 |0,_=>(0,0)
 |1,_=>(0,Q8)
 |k+2,i=>if i%2=0 then o.root (rt (k+1) (i/2))else aR2 (o.root (rt (k+1) (i/2)))
def tr:Nat->(Nat->Int)->Nat->Int × Int
 |0,_,_=>(0,0)
 |1,cs,_=>(cs 0,cs 1)
 |k+2,cs,i=>
  if i%2=0 then o.cAdd (tr (k+1) (λm=>cs (2*m)) (i/2)) (o.cMul (o.rt (k+2) (2*(i/2))) (tr (k+1) (λm=>cs (2*m+1)) (i/2)))
  else o.cSub (tr (k+1) (λm=>cs (2*m)) (i/2)) (o.cMul (o.rt (k+2) (2*(i/2))) (tr (k+1) (λm=>cs (2*m+1)) (i/2)))
def MR(zs:Nat->Int × Int)(j:Nat):Int × Int:=o.uJ (o.cAdd (zs (2*j)) (zs (2*j+1)))
def Qy(k:Nat)(zs:Nat->Int × Int)(j:Nat):Int × Int:=o.uJ (o.cMul (o.cSub (zs (2*j)) (zs (2*j+1))) (Zd (o.rt k (2*j))))
def bk:Nat->(Nat->Int × Int)->Nat->Int
 |0,_,_=>0
 |1,zs,i=>if i%2=0 then(zs 0).1 else(zs 0).2
 |k+2,zs,i=>if i%2=0 then bk (k+1) (o.MR zs) (i/2)else bk (k+1) (o.Qy (k+2) zs) (i/2)
variable {o}
def In.cAdd(H:o.In){a b:Int × Int}(ha:uN a)(hb:uN b):uN (o.cAdd a b):=⟨H.add ha.1 hb.1,H.add ha.2 hb.2⟩
def In.cSub(H:o.In){a b:Int × Int}(ha:uN a)(hb:uN b):uN (o.cSub a b):=⟨H.sub ha.1 hb.1,H.sub ha.2 hb.2⟩
def In.cMul(H:o.In){a b:Int × Int}(ha:uN a)(hb:uN b):uN (o.cMul a b):=⟨H.sub (H.mul ha.1 hb.1) (H.mul ha.2 hb.2),H.add (H.mul ha.1 hb.2) (H.mul ha.2 hb.1)⟩
def In.uJ(H:o.In){a:Int × Int}(ha:uN a):uN (o.uJ a):=⟨H.mul ha.1 xA,H.mul ha.2 xA⟩
def In.vK(H:o.In){a:Int × Int}(ha:uN a):Wd (o.vK a):=H.sqrt (H.mul (H.add D7 ha.1) xA)
def In.root(H:o.In){a:Int × Int}(ha:uN a):uN (o.root a):=⟨H.vK ha,H.div ha.2 (H.add (H.vK ha) (H.vK ha))⟩
def In.rt(H:o.In):∀(k i:Nat),uN (o.rt k i)
 |0,_=>by simp only[Ops.rt];exact⟨BM,BM⟩
 |1,_=>by simp only[Ops.rt];exact⟨BM,D7⟩
 |k+2,i=>by
  have:=In.rt H (k+1) (i/2);simp only[Ops.rt];split
  .exact H.root this
  .exact aLt (H.root this)
def In.tr(H:o.In):∀(k:Nat) (cs:Nat->Int) (i:Nat),(∀j,Wd (cs j))->uN (o.tr k cs i)
 |0,_,_,_=>by simp only[Ops.tr];exact⟨BM,BM⟩
 |1,cs,_,h=>by simp only[Ops.tr];exact⟨h 0,h 1⟩
 |k+2,cs,i,h=>by
  have h1:=In.tr H (k+1) (λm=>cs (2*m)) (i/2) (λj=>h _);have h2:=In.tr H (k+1) (λm=>cs (2*m+1)) (i/2) (λj=>h _);simp only[Ops.tr];split
  .exact H.cAdd h1 (H.cMul (In.rt H _ _) h2)
  .exact H.cSub h1 (H.cMul (In.rt H _ _) h2)
def In.MR(H:o.In){zs:Nat->Int × Int}(h:∀j,uN (zs j))(j:Nat):uN (o.MR zs j):=H.uJ (H.cAdd (h _) (h _))
def In.Qy(H:o.In)(k:Nat){zs:Nat->Int × Int}(h:∀j,uN (zs j))(j:Nat):uN (o.Qy k zs j):=H.uJ (H.cMul (H.cSub (h _) (h _)) (Zc (H.rt _ _)))
def In.bk(H:o.In):∀(k:Nat) (zs:Nat->Int × Int) (i:Nat),(∀j,uN (zs j))->Wd (o.bk k zs i)
 |0,_,_,_=>by simp only[Ops.bk];exact BM
 |1,zs,i,h=>by
  simp only[Ops.bk];split
  .exact(h 0).1
  .exact(h 0).2
 |k+2,zs,i,h=>by
  simp only[Ops.bk];split
  .exact In.bk H (k+1) _ _ (H.MR h)
  .exact In.bk H (k+1) _ _ (H.Qy _ h)
end Ops
def flat(f:Nat->Int × Int)(j:Nat):Int:=if j%2=0 then(f (j/2)).1 else(f (j/2)).2
def fO(f:Nat->Int × Int)(j:Nat):flat f (2*j)=(f j).1 :=by unfold flat;rw[aQ om,(om:2*j/2=j)]
def fP(f:Nat->Int × Int)(j:Nat):flat f (2*j+1)=(f j).2 :=by unfold flat;rw[aH om,(om:(2*j+1)/2=j)]
set_option maxRecDepth 1000000
def WJ{P:Prop}(h:P:=by
 have:=Aj M (2^d);rw[hL,hR,dM]at this;omega):P:=h
def WL{P:Prop}(h:P:=by
 rw[uT];refine(iM hb om (d-1) om).mono (λx bf ⟨v'',k'',h1,h2,h3,h4⟩=>⟨v'',k'',h1,?_,om,h4⟩);rw[Nat.one_mul,hP]at h2;exact h2):P:=h
def aMM{P:Prop}(h:P:=by
 go_wp2_with (first|(go_at_call 132;refine(EF _).mono ?_;rintro x w4 ⟨v1,k1,rfl,iF,kF,Ro⟩;obtain⟨c1,c2,c3⟩:jU w4 w.heap.size 1 2 3 (v) (J e) (U T):=⟨ks,ks,ks⟩)|(go_at_call 150;refine(aBW v1 k1 _ iF kF).mono ?_;rintro x w5 ⟨vP,kP,rfl,hbP,hkP,hg5⟩;obtain⟨d1,d2,d3⟩:jU w5 w.heap.size 1 2 3 (v) (J e) (U T):=⟨ks,ks,ks⟩)|(go_at_call 133;refine(IV _ _ vP kP _ (Big.gb YK kg) hkR hbP hkP).mono ?_;rintro x w6 ⟨rfl,hg6⟩;obtain⟨f1,f2,f3⟩:jU w6 w.heap.size 1 2 3 (v) (J e) (U T):=⟨ks,ks,ks⟩))
 go_returns;first|exact⟨_,rfl,_,Big.gb Vs kg,hkL,kg⟩|exact⟨_,_,rfl,Big.gb Vs kg,hkL,kg⟩):P:=h
def aMN{P:Prop}(h:P:=by
 go_wp2_with (first|(go_at_call 132;refine(EF _).mono ?_;rintro x w4 ⟨v1,k1,rfl,iF,kF,Ro⟩;obtain⟨c1,c2,c3⟩:jU w4 w.heap.size 1 2 3 (v) (J e) (U D):=⟨ks,ks,ks⟩)|(go_at_call 150;refine(aBW v1 k1 _ iF kF).mono ?_;rintro x w5 ⟨vP,kP,rfl,hbP,hkP,hg5⟩;obtain⟨d1,d2,d3⟩:jU w5 w.heap.size 1 2 3 (v) (J e) (U D):=⟨ks,ks,ks⟩)|(go_at_call 133;refine(IV _ _ vP kP _ (Big.gb YK kg) hkR hbP hkP).mono ?_;rintro x w6 ⟨rfl,hg6⟩;obtain⟨f1,f2,f3⟩:jU w6 w.heap.size 1 2 3 (v) (J e) (U D):=⟨ks,ks,ks⟩))
 go_returns;first|exact⟨_,rfl,_,Big.gb Vs kg,hkL,kg⟩|exact⟨_,_,rfl,Big.gb Vs kg,hkL,kg⟩):P:=h
def aMO{P:Prop}(h:P:=by
 have VW:Hid (∀w',Gb w w'->CT 282 #[v,J d] w' λx bf=>∃v' k,x=X v'/\Big bf v' k L/\k<=n/\Gb w' bf):=λw' hg=>hL▸yO (h.gb hg) om d om;have ED:Hid (∀v' k w',Big w' v' k L->k<=n->CT 150 #[v',J d] w' λx bf=>∃v' k,x=X v'/\Big bf v' k (L*2^d)/\k<=n+70000/\Gb w' bf):=λv' k w' hb hk=>(iM hb om d om).mono (λx bf ⟨v'',k'',h1,h2,h3,h4⟩=>⟨v'',k'',h1,h2,om,h4⟩);have Vu:M-L*2^d=R/\L*2^d<=M:=by
  exact WJ
 have HSub:Hid (∀v2 k2 w',Gb w w'->Big w' v2 k2 (L*2^d)->k2<=n+70000->CT 155 #[v,v2] w' λx bf=>∃v' k,x=X v'/\Big bf v' k R/\k<=n/\Gb w' bf):=λv2 k2 w' hg hb hk=>Vu.1▸pJ (h.gb hg) om hb om Vu.2;have EF:Hid (∀w',CT 132 #[Y O 1] w' λx bf=>∃v' k,x=X v'/\Big bf v' k 1/\k<=2/\Gb w' bf):=λw'=>iO 1 om w';have uT:((d:Int)-1)=((d-1:Nat):Int):=om;have aBW:Hid (∀v' k w',Big w' v' k 1->k<=2->CT 150 #[v',J ((d:Int)-1)] w' λx bf=>∃v' k,x=X v'/\Big bf v' k P/\k<=70000/\Gb w' bf):=λv' k w' hb hk=>by
  exact WL
 have IV:Hid (∀v1 k1 v2 k2 w',Big w' v1 k1 R->k1<=n->Big w' v2 k2 P->k2<=70000->QB 133 #[v1,v2] w' (J (jl R P))):=λv1 k1 v2 k2 w' h1 kF h2 m_=>kM h1 om h2 om;have hqe:¬q<=e:=om;clear hR hP hL Vu h uT
 skip
 go_enter func223,ntmps223;go_wp2_with (go_at_call 282;refine(VW _ kg).mono ?_;rintro x w1 ⟨vL,kL,rfl,Vs,hkL,su⟩;obtain⟨a1,a2,a3⟩:jU w1 w.heap.size 1 2 3 (v) (J e) (U rest):=⟨ks,ks,ks⟩);go_region_held3 (λw'=>jU w' w.heap.size 1 2 3 (v) (J e) (U rest))((go_split_ands;(repeat' apply And.intro)<;>exact kb))(first|(go_at_call 150;refine(ED vL kL _ (Big.gb Vs kg) hkL).mono ?_;rintro x w2 ⟨vT,kT,rfl,hbT,hkT,uH⟩)|(go_at_call 155;refine(HSub vT kT _ kg (Big.gb hbT kg) hkT).mono ?_;rintro x w3 ⟨vR,kR,rfl,YK,hkR,uG⟩;obtain⟨bR,aLs,rfl,hcR⟩:=Big.shape YK;have hk0:=Big.some YK hRn;obtain⟨b1,b2,b3⟩:jU w3 w.heap.size 1 2 3 (v) (J e) (U rest):=⟨ks,ks,ks⟩))
 all_goals
  (try go_split_ands)
  go_wp2_with (first|(go_at_call 132;refine(EF _).mono ?_;rintro x w4 ⟨v1,k1,rfl,iF,kF,Ro⟩;obtain⟨c1,c2,c3⟩:jU w4 w.heap.size 1 2 3 (v) (J e) (U rest):=⟨ks,ks,ks⟩)|(go_at_call 150;refine(aBW v1 k1 _ iF kF).mono ?_;rintro x w5 ⟨vP,kP,rfl,hbP,hkP,hg5⟩;obtain⟨d1,d2,d3⟩:jU w5 w.heap.size 1 2 3 (v) (J e) (U rest):=⟨ks,ks,ks⟩)|(go_at_call 133;refine(IV _ _ vP kP _ (Big.gb YK kg) hkR hbP hkP).mono ?_;rintro x w6 ⟨rfl,hg6⟩;obtain⟨f1,f2,f3⟩:jU w6 w.heap.size 1 2 3 (v) (J e) (U rest):=⟨ks,ks,ks⟩))
  go_returns;first|exact⟨_,rfl,_,Big.gb Vs kg,hkL,kg⟩|exact⟨_,_,rfl,Big.gb Vs kg,hkL,kg⟩):P:=h
def aHO{v:Value}{n M:Nat}{w:ak}(h:Big w v n M)(hn:n<=100000)(s e q:Int)(rest:Bool)(e0:-1000000<=e)(e1:e<=1000000)(q0:-1000000<=q)(hq:q<=e):
  CT 223 #[.agg #[J s,v,J e,U rest],J q] w λx w'=>∃v' k,x=X (.tuple #[v',J (bH M e q rest)])/\Big w' v' k (dH M e q)/\k<=n+70000/\Gb w w':=by
 obtain⟨d,hd⟩:∃d:Nat,e-q=(d:Int):=⟨(e-q).toNat,om⟩;have eLo:dH M e q=M*2^d:=by unfold dH;rw[aQ hq,hd];rfl
 have eHa:bH M e q rest=(if rest then 1 else 0):=by unfold bH;rw[aQ hq]
 rw[eLo,eHa];have HS:Hid (∀w',Gb w w'->CT 150 #[v,J d] w' λx bf=>∃v' k,x=X v'/\Big bf v' k (M*2^d)/\k<=n+d/32+1/\Gb w' bf):=λw' hg=>iM (h.gb hg) om d om;clear eLo eHa h;cases rest;all_goals
  go_enter func223,ntmps223;go_wp2_with (go_at_call 150;refine(HS _ kg).mono ?_;rintro x w1 ⟨v',k,rfl,oz,hk,dQ⟩);go_returns;first|exact⟨_,rfl,_,oz,om,kg⟩|exact⟨_,_,rfl,oz,om,kg⟩
def Big.shape{w:ak}{v:Value}{n N:Nat}(h:Big w v n N):∃b cap,v=aF b n cap/\n<=cap:=by
 obtain⟨_,_,b,cap,h2,h3,_⟩:=h;exact⟨b,cap,h2,h3⟩
def Big.none{w:ak}{v:Value}{n N:Nat}(h:Big w v n N)(hN:N=0):n=0:=h.1.iff.mpr hN
def Big.some{w:ak}{v:Value}{n N:Nat}(h:Big w v n N)(hN:N≠0):((n:Int)==0)=D:=by
 have:n≠0:=λe=>hN (h.1.iff.mp e);simp;omega
def aKO{v:Value}{n M:Nat}{w:ak}(h:Big w v n M)(hn:n<=100000)(s e q:Int)(e0:-1000000<=e)(e1:e<=1000000)(q1:q<=1000000)(d:Nat)(hd:q-e=(d:Int))(d1:1<=d)(R P L:Nat)(hR:M%2^d=R)(hP:2^(d-1)=P)(hL:M/2^d=L)(hR0:R=0):
  CT 223 #[.agg #[J s,v,J e,U D],J q] w λx w'=>∃v' k,x=X (.tuple #[v',J 0])/\Big w' v' k L/\k<=n/\Gb w w':=by
 have VW:Hid (∀w',Gb w w'->CT 282 #[v,J d] w' λx bf=>∃v' k,x=X v'/\Big bf v' k L/\k<=n/\Gb w' bf):=λw' hg=>hL▸yO (h.gb hg) om d om;have ED:Hid (∀v' k w',Big w' v' k L->k<=n->CT 150 #[v',J d] w' λx bf=>∃v' k,x=X v'/\Big bf v' k (L*2^d)/\k<=n+70000/\Gb w' bf):=λv' k w' hb hk=>(iM hb om d om).mono (λx bf ⟨v'',k'',h1,h2,h3,h4⟩=>⟨v'',k'',h1,h2,om,h4⟩);have Vu:M-L*2^d=R/\L*2^d<=M:=by
  exact WJ
 have HSub:Hid (∀v2 k2 w',Gb w w'->Big w' v2 k2 (L*2^d)->k2<=n+70000->CT 155 #[v,v2] w' λx bf=>∃v' k,x=X v'/\Big bf v' k R/\k<=n/\Gb w' bf):=λv2 k2 w' hg hb hk=>Vu.1▸pJ (h.gb hg) om hb om Vu.2;have EF:Hid (∀w',CT 132 #[Y O 1] w' λx bf=>∃v' k,x=X v'/\Big bf v' k 1/\k<=2/\Gb w' bf):=λw'=>iO 1 om w';have uT:((d:Int)-1)=((d-1:Nat):Int):=om;have aBW:Hid (∀v' k w',Big w' v' k 1->k<=2->CT 150 #[v',J ((d:Int)-1)] w' λx bf=>∃v' k,x=X v'/\Big bf v' k P/\k<=70000/\Gb w' bf):=λv' k w' hb hk=>by
  exact WL
 have IV:Hid (∀v1 k1 v2 k2 w',Big w' v1 k1 R->k1<=n->Big w' v2 k2 P->k2<=70000->QB 133 #[v1,v2] w' (J (jl R P))):=λv1 k1 v2 k2 w' h1 kF h2 m_=>kM h1 om h2 om;have hqe:¬q<=e:=om;clear hR hP hL Vu h uT;subst hR0;go_enter func223,ntmps223;go_wp2_with (go_at_call 282;refine(VW _ kg).mono ?_;rintro x w1 ⟨vL,kL,rfl,Vs,hkL,su⟩;obtain⟨a1,a2,a3⟩:jU w1 w.heap.size 1 2 3 (v) (J e) (U D):=⟨ks,ks,ks⟩);go_region_held3 (λw'=>jU w' w.heap.size 1 2 3 (v) (J e) (U D))((go_split_ands;(repeat' apply And.intro)<;>exact kb))(first|(go_at_call 150;refine(ED vL kL _ (Big.gb Vs kg) hkL).mono ?_;rintro x w2 ⟨vT,kT,rfl,hbT,hkT,uH⟩)|(go_at_call 155;refine(HSub vT kT _ kg (Big.gb hbT kg) hkT).mono ?_;rintro x w3 ⟨vR,kR,rfl,YK,hkR,uG⟩;obtain⟨bR,aLs,rfl,hcR⟩:=Big.shape YK;obtain rfl:=Big.none YK rfl;obtain⟨b1,b2,b3⟩:jU w3 w.heap.size 1 2 3 (v) (J e) (U D):=⟨ks,ks,ks⟩))
 all_goals
  (try go_split_ands)
  exact aMN
def aKN{v:Value}{n M:Nat}{w:ak}(h:Big w v n M)(hn:n<=100000)(s e q:Int)(e0:-1000000<=e)(e1:e<=1000000)(q1:q<=1000000)(d:Nat)(hd:q-e=(d:Int))(d1:1<=d)(R P L:Nat)(hR:M%2^d=R)(hP:2^(d-1)=P)(hL:M/2^d=L)(hR0:R=0)(hc:jl R P=-1):
  CT 223 #[.agg #[J s,v,J e,U T],J q] w λx w'=>∃v' k,x=X (.tuple #[v',J 1])/\Big w' v' k L/\k<=n/\Gb w w':=by
 have VW:Hid (∀w',Gb w w'->CT 282 #[v,J d] w' λx bf=>∃v' k,x=X v'/\Big bf v' k L/\k<=n/\Gb w' bf):=λw' hg=>hL▸yO (h.gb hg) om d om;have ED:Hid (∀v' k w',Big w' v' k L->k<=n->CT 150 #[v',J d] w' λx bf=>∃v' k,x=X v'/\Big bf v' k (L*2^d)/\k<=n+70000/\Gb w' bf):=λv' k w' hb hk=>(iM hb om d om).mono (λx bf ⟨v'',k'',h1,h2,h3,h4⟩=>⟨v'',k'',h1,h2,om,h4⟩);have Vu:M-L*2^d=R/\L*2^d<=M:=by
  exact WJ
 have HSub:Hid (∀v2 k2 w',Gb w w'->Big w' v2 k2 (L*2^d)->k2<=n+70000->CT 155 #[v,v2] w' λx bf=>∃v' k,x=X v'/\Big bf v' k R/\k<=n/\Gb w' bf):=λv2 k2 w' hg hb hk=>Vu.1▸pJ (h.gb hg) om hb om Vu.2;have EF:Hid (∀w',CT 132 #[Y O 1] w' λx bf=>∃v' k,x=X v'/\Big bf v' k 1/\k<=2/\Gb w' bf):=λw'=>iO 1 om w';have uT:((d:Int)-1)=((d-1:Nat):Int):=om;have aBW:Hid (∀v' k w',Big w' v' k 1->k<=2->CT 150 #[v',J ((d:Int)-1)] w' λx bf=>∃v' k,x=X v'/\Big bf v' k P/\k<=70000/\Gb w' bf):=λv' k w' hb hk=>by
  exact WL
 have IV:Hid (∀v1 k1 v2 k2 w',Big w' v1 k1 R->k1<=n->Big w' v2 k2 P->k2<=70000->QB 133 #[v1,v2] w' (J (jl R P))):=λv1 k1 v2 k2 w' h1 kF h2 m_=>kM h1 om h2 om;have hqe:¬q<=e:=om;clear hR hP hL Vu h uT;subst hR0;go_enter func223,ntmps223;go_wp2_with (go_at_call 282;refine(VW _ kg).mono ?_;rintro x w1 ⟨vL,kL,rfl,Vs,hkL,su⟩;obtain⟨a1,a2,a3⟩:jU w1 w.heap.size 1 2 3 (v) (J e) (U T):=⟨ks,ks,ks⟩);go_region_held3 (λw'=>jU w' w.heap.size 1 2 3 (v) (J e) (U T))((go_split_ands;(repeat' apply And.intro)<;>exact kb))(first|(go_at_call 150;refine(ED vL kL _ (Big.gb Vs kg) hkL).mono ?_;rintro x w2 ⟨vT,kT,rfl,hbT,hkT,uH⟩)|(go_at_call 155;refine(HSub vT kT _ kg (Big.gb hbT kg) hkT).mono ?_;rintro x w3 ⟨vR,kR,rfl,YK,hkR,uG⟩;obtain⟨bR,aLs,rfl,hcR⟩:=Big.shape YK;obtain rfl:=Big.none YK rfl;obtain⟨b1,b2,b3⟩:jU w3 w.heap.size 1 2 3 (v) (J e) (U T):=⟨ks,ks,ks⟩))
 all_goals
  (try go_split_ands)
  exact aMM
def aKM{v:Value}{n M:Nat}{w:ak}(h:Big w v n M)(hn:n<=100000)(s e q:Int)(rest:Bool)(e0:-1000000<=e)(e1:e<=1000000)(q1:q<=1000000)(d:Nat)(hd:q-e=(d:Int))(d1:1<=d)(R P L:Nat)(hR:M%2^d=R)(hP:2^(d-1)=P)(hL:M/2^d=L)(hRn:R≠0)(hc:jl R P=-1):
  CT 223 #[.agg #[J s,v,J e,U rest],J q] w λx w'=>∃v' k,x=X (.tuple #[v',J 1])/\Big w' v' k L/\k<=n/\Gb w w':=by
 exact aMO
def aKL{v:Value}{n M:Nat}{w:ak}(h:Big w v n M)(hn:n<=100000)(s e q:Int)(e0:-1000000<=e)(e1:e<=1000000)(q1:q<=1000000)(d:Nat)(hd:q-e=(d:Int))(d1:1<=d)(R P L:Nat)(hR:M%2^d=R)(hP:2^(d-1)=P)(hL:M/2^d=L)(hRn:R≠0)(hc:jl R P=0):
  CT 223 #[.agg #[J s,v,J e,U D],J q] w λx w'=>∃v' k,x=X (.tuple #[v',J 2])/\Big w' v' k L/\k<=n/\Gb w w':=by
 have VW:Hid (∀w',Gb w w'->CT 282 #[v,J d] w' λx bf=>∃v' k,x=X v'/\Big bf v' k L/\k<=n/\Gb w' bf):=λw' hg=>hL▸yO (h.gb hg) om d om;have ED:Hid (∀v' k w',Big w' v' k L->k<=n->CT 150 #[v',J d] w' λx bf=>∃v' k,x=X v'/\Big bf v' k (L*2^d)/\k<=n+70000/\Gb w' bf):=λv' k w' hb hk=>(iM hb om d om).mono (λx bf ⟨v'',k'',h1,h2,h3,h4⟩=>⟨v'',k'',h1,h2,om,h4⟩);have Vu:M-L*2^d=R/\L*2^d<=M:=by
  exact WJ
 have HSub:Hid (∀v2 k2 w',Gb w w'->Big w' v2 k2 (L*2^d)->k2<=n+70000->CT 155 #[v,v2] w' λx bf=>∃v' k,x=X v'/\Big bf v' k R/\k<=n/\Gb w' bf):=λv2 k2 w' hg hb hk=>Vu.1▸pJ (h.gb hg) om hb om Vu.2;have EF:Hid (∀w',CT 132 #[Y O 1] w' λx bf=>∃v' k,x=X v'/\Big bf v' k 1/\k<=2/\Gb w' bf):=λw'=>iO 1 om w';have uT:((d:Int)-1)=((d-1:Nat):Int):=om;have aBW:Hid (∀v' k w',Big w' v' k 1->k<=2->CT 150 #[v',J ((d:Int)-1)] w' λx bf=>∃v' k,x=X v'/\Big bf v' k P/\k<=70000/\Gb w' bf):=λv' k w' hb hk=>by
  exact WL
 have IV:Hid (∀v1 k1 v2 k2 w',Big w' v1 k1 R->k1<=n->Big w' v2 k2 P->k2<=70000->QB 133 #[v1,v2] w' (J (jl R P))):=λv1 k1 v2 k2 w' h1 kF h2 m_=>kM h1 om h2 om;have hqe:¬q<=e:=om;clear hR hP hL Vu h uT
 skip
 go_enter func223,ntmps223;go_wp2_with (go_at_call 282;refine(VW _ kg).mono ?_;rintro x w1 ⟨vL,kL,rfl,Vs,hkL,su⟩;obtain⟨a1,a2,a3⟩:jU w1 w.heap.size 1 2 3 (v) (J e) (U D):=⟨ks,ks,ks⟩);go_region_held3 (λw'=>jU w' w.heap.size 1 2 3 (v) (J e) (U D))((go_split_ands;(repeat' apply And.intro)<;>exact kb))(first|(go_at_call 150;refine(ED vL kL _ (Big.gb Vs kg) hkL).mono ?_;rintro x w2 ⟨vT,kT,rfl,hbT,hkT,uH⟩)|(go_at_call 155;refine(HSub vT kT _ kg (Big.gb hbT kg) hkT).mono ?_;rintro x w3 ⟨vR,kR,rfl,YK,hkR,uG⟩;obtain⟨bR,aLs,rfl,hcR⟩:=Big.shape YK;have hk0:=Big.some YK hRn;obtain⟨b1,b2,b3⟩:jU w3 w.heap.size 1 2 3 (v) (J e) (U D):=⟨ks,ks,ks⟩))
 all_goals
  (try go_split_ands)
  exact aMN
def aKK{v:Value}{n M:Nat}{w:ak}(h:Big w v n M)(hn:n<=100000)(s e q:Int)(e0:-1000000<=e)(e1:e<=1000000)(q1:q<=1000000)(d:Nat)(hd:q-e=(d:Int))(d1:1<=d)(R P L:Nat)(hR:M%2^d=R)(hP:2^(d-1)=P)(hL:M/2^d=L)(hRn:R≠0)(hc:jl R P=0):
  CT 223 #[.agg #[J s,v,J e,U T],J q] w λx w'=>∃v' k,x=X (.tuple #[v',J 3])/\Big w' v' k L/\k<=n/\Gb w w':=by
 have VW:Hid (∀w',Gb w w'->CT 282 #[v,J d] w' λx bf=>∃v' k,x=X v'/\Big bf v' k L/\k<=n/\Gb w' bf):=λw' hg=>hL▸yO (h.gb hg) om d om;have ED:Hid (∀v' k w',Big w' v' k L->k<=n->CT 150 #[v',J d] w' λx bf=>∃v' k,x=X v'/\Big bf v' k (L*2^d)/\k<=n+70000/\Gb w' bf):=λv' k w' hb hk=>(iM hb om d om).mono (λx bf ⟨v'',k'',h1,h2,h3,h4⟩=>⟨v'',k'',h1,h2,om,h4⟩);have Vu:M-L*2^d=R/\L*2^d<=M:=by
  exact WJ
 have HSub:Hid (∀v2 k2 w',Gb w w'->Big w' v2 k2 (L*2^d)->k2<=n+70000->CT 155 #[v,v2] w' λx bf=>∃v' k,x=X v'/\Big bf v' k R/\k<=n/\Gb w' bf):=λv2 k2 w' hg hb hk=>Vu.1▸pJ (h.gb hg) om hb om Vu.2;have EF:Hid (∀w',CT 132 #[Y O 1] w' λx bf=>∃v' k,x=X v'/\Big bf v' k 1/\k<=2/\Gb w' bf):=λw'=>iO 1 om w';have uT:((d:Int)-1)=((d-1:Nat):Int):=om;have aBW:Hid (∀v' k w',Big w' v' k 1->k<=2->CT 150 #[v',J ((d:Int)-1)] w' λx bf=>∃v' k,x=X v'/\Big bf v' k P/\k<=70000/\Gb w' bf):=λv' k w' hb hk=>by
  exact WL
 have IV:Hid (∀v1 k1 v2 k2 w',Big w' v1 k1 R->k1<=n->Big w' v2 k2 P->k2<=70000->QB 133 #[v1,v2] w' (J (jl R P))):=λv1 k1 v2 k2 w' h1 kF h2 m_=>kM h1 om h2 om;have hqe:¬q<=e:=om;clear hR hP hL Vu h uT
 skip
 go_enter func223,ntmps223;go_wp2_with (go_at_call 282;refine(VW _ kg).mono ?_;rintro x w1 ⟨vL,kL,rfl,Vs,hkL,su⟩;obtain⟨a1,a2,a3⟩:jU w1 w.heap.size 1 2 3 (v) (J e) (U T):=⟨ks,ks,ks⟩);go_region_held3 (λw'=>jU w' w.heap.size 1 2 3 (v) (J e) (U T))((go_split_ands;(repeat' apply And.intro)<;>exact kb))(first|(go_at_call 150;refine(ED vL kL _ (Big.gb Vs kg) hkL).mono ?_;rintro x w2 ⟨vT,kT,rfl,hbT,hkT,uH⟩)|(go_at_call 155;refine(HSub vT kT _ kg (Big.gb hbT kg) hkT).mono ?_;rintro x w3 ⟨vR,kR,rfl,YK,hkR,uG⟩;obtain⟨bR,aLs,rfl,hcR⟩:=Big.shape YK;have hk0:=Big.some YK hRn;obtain⟨b1,b2,b3⟩:jU w3 w.heap.size 1 2 3 (v) (J e) (U T):=⟨ks,ks,ks⟩))
 all_goals
  (try go_split_ands)
  exact aMM
def aKJ{v:Value}{n M:Nat}{w:ak}(h:Big w v n M)(hn:n<=100000)(s e q:Int)(rest:Bool)(e0:-1000000<=e)(e1:e<=1000000)(q1:q<=1000000)(d:Nat)(hd:q-e=(d:Int))(d1:1<=d)(R P L:Nat)(hR:M%2^d=R)(hP:2^(d-1)=P)(hL:M/2^d=L)(hRn:R≠0)(hc:jl R P=1):
  CT 223 #[.agg #[J s,v,J e,U rest],J q] w λx w'=>∃v' k,x=X (.tuple #[v',J 3])/\Big w' v' k L/\k<=n/\Gb w w':=by
 exact aMO
def nR(aj aP:Int)(lo:Nat):chosen aj aP lo 0=lo:=by
 unfold chosen up;rw[aH (by simp)];rfl
def CU(k:Nat):((2^k:Nat):Int)=(2:Int)^k:=by push_cast;rfl
def aC3{f p mx one aN sg nan:Int}(h:bI f p mx one aN sg nan)(aj aP v e g:Int)(v0:0<v)(v1:v<aN)(hn:nX p mx one v e g):
  0<g/\aI g/\-2000<=e/\e<=2000/\bM p (1-mx) mx one aN aj aP g.toNat e D v 0:=by
 obtain⟨b1,b2,b3,b4,b5,b6,b7,b8,b9,b10,b11,b12⟩:=h.bounds;obtain⟨P,hP,aKX,Dn⟩:=h.pow;have S9:one=((2^P:Nat):Int):=by rw[CU];exact Dn
 have xY:aN=one*(2*mx+1):=by rcases h with⟨rfl,rfl,rfl,rfl,rfl,rfl,rfl⟩|⟨rfl,rfl,rfl,rfl,rfl,rfl,rfl⟩<;>decide
 have aCL:2^(P+1)=2*2^P:=by rw[jE];omega
 obtain⟨k,m,e0,hm,hg,he,g1,g2⟩:=hn;obtain⟨G,rfl⟩:=lq (om:0<=g);have Vo:nb G=P+1:=by
  have a1:=zY (N:=G) (k:=P) om;have a2:=vS (N:=G) (k:=P+1) om;omega
 rw[Int.toNat_natCast];rcases hm with⟨hv,rfl,rfl⟩|⟨hv,rfl,rfl⟩
 .obtain⟨V,rfl⟩:=lq (om:0<=m);have hG:G=V*2^k:=by
   have:(G:Int)=((V*2^k:Nat):Int):=by rw[hg,FI,CU]
   omega
  have kF:1<=k:=by
   rcases jL k with c|c
   .subst c;rw[wP,kW]at hG;omega
   .exact c
  have m_:k<=P:=by
   have hVp:1<=V:=om;have:2^k<=G:=by rw[hG];exact Nat.le_mul_of_pos_left _ hVp
   have:=zY this;omega
  refine⟨om,om,om,om,?_⟩;have hq:¬(1-mx-p+1<=e):=om;have hqe:(1-mx-p+1-e).toNat =k:=om;have Rk:0<2^k:=iQ de;have V5:dH G e (1-mx-p+1)=V:=by unfold dH;rw[aH hq,hqe,hG,Nat.mul_div_cancel _ Rk]
  have hha:bH G e (1-mx-p+1) D=0:=by unfold bH;rw[aH hq,hqe];exact FK G k kF (by rw[hG,Nat.mul_mod_left])
  refine⟨nb G+e-1,1-mx,V,_,0,rfl,.inl ⟨om,rfl⟩,hha.symm,by rw[V5,nR],rfl,.inr (.inr ⟨om,?_,?_,.inl ⟨rfl,rfl⟩⟩)⟩
  .rw[Int.sub_self,Int.mul_zero];omega
  .rw[Int.sub_self,Int.mul_zero];omega
 .have Qv:=Int.emod_nonneg v (om:one≠0);have wz:=Int.emod_lt_of_pos v (om:0<one);have hdm:=Int.ediv_mul_add_emod v one;have hk:k=0:=by
   rcases jL k with c|c
   .exact c
   .obtain⟨j,rfl⟩:∃j,k=j+1:=⟨k-1,om⟩;have h2:(1:Int)<=2^j:=by have:(0:Int)<2^j:=Int.pow_pos (by decide);omega
    have:=Yv h2 (om:0<=(v%one+one)*2);rw[Int.pow_succ,Int.mul_comm ((2:Int)^j) 2,<-Int.mul_assoc]at hg;omega
  subst hk;rw[Int.pow_zero,Int.mul_one]at hg;have hq1:1<=v/one:=by
   have:=Int.le_ediv_of_mul_le (om:0<one) (om:1*one<=v);omega
  have ZJ:v/one<2*mx+1:=Int.ediv_lt_of_lt_mul om (by rw[Int.mul_comm];omega);refine⟨om,om,om,om,?_⟩;have jF:(nb G:Int)+e-1=v/one-mx:=om;have hqe:(nb G:Int)+e-1-p+1=e:=om;have V5:dH G e e=G:=by unfold dH;rw[aQ (Int.le_refl e)];simp
  have hha:bH G e e D=0:=by unfold bH;rw[aQ (Int.le_refl e)];rfl
  have hz:(G:Int)+one*(nb G+e-1-(1-mx))=v:=by
   rw[jF,(om:v/one-mx-(1-mx)=v/one-1),Int.mul_sub,Int.mul_one,Int.mul_comm one (v/one)];omega
  refine⟨nb G+e-1,nb G+e-1,G,G,0,rfl,.inr ⟨om,rfl⟩,by rw[hqe,hha],by rw[hqe,V5,nR],by rw[hqe,V5,hha,nR],.inr (.inr ⟨om,?_,?_,.inl ⟨rfl,rfl⟩⟩)⟩
  .rw[hz];exact v1
  .rw[hz]
set_option maxRecDepth 1000000
def aF4{P:Prop}(h:P:=by
 go_enter func158,ntmps158;go_wp2_with (first|(go_at_call 61;first|(with_reducible refine kw (Qp.out _) ?_)|(with_reducible refine kw (TN.out _) ?_))|(go_at_call 126;first|(with_reducible refine ku (fM.out _) λw1 au=>?_;have:=au.bK w;have mD:=au.size)|(with_reducible refine ku (gK.out _) λw2 aC=>?_;have:=aC.bK w;have:=aC.MS w1;have jB:=aC.size))|(go_at_call 140;first|(with_reducible refine ku (jV.out _) λva aT=>?_;have:=aT.bK w;have:=aT.f_ w1;have:=aT.f_ w2)|(with_reducible refine ku (mZ.out _) λvb bJ=>?_;have aG8:=bJ.bK w;have:=bJ.f_ w1;have:=bJ.f_ w2))|(go_at_call 159;refine kw (HO _) ?_))
 exact cO (by simp[results,results158,go_sem,aG8])):P:=h
def aF5{P:Prop}(h:P:=by
 go_enter func158,ntmps158;go_wp2_with (first|(go_at_call 61;first|(with_reducible refine kw (Qp.out _) ?_)|(with_reducible refine kw (TN.out _) ?_))|(go_at_call 126;first|(with_reducible refine ku (fM.out _) λw1 au=>?_;have:=au.bK w;have mD:=au.size)|(with_reducible refine ku (gK.out _) λw2 aC=>?_;have:=aC.bK w;have:=aC.MS w1;have jB:=aC.size))|(go_at_call 140;first|(with_reducible refine ku (jV.out _) λva aT=>?_;have:=aT.bK w;have:=aT.f_ w1;have:=aT.f_ w2)|(with_reducible refine ku (mZ.out _) λvb bJ=>?_;have:=bJ.bK w;have:=bJ.f_ w1;have:=bJ.f_ w2))|(go_at_call 141;refine ku (HL _) λw9 bV=>?_;have jD:=bV.bK w))
 exact cO (by simp[results,results158,go_sem,jD])):P:=h
def Nh{P:Prop}(h:P:=by
 go_enter func74,ntmps74;go_wp2_with (first|(go_at_call 61;first|(with_reducible refine kw (Qp.out _) ?_)|(with_reducible refine kw (TN.out _) ?_))|(go_at_call 126;first|(with_reducible refine ku (gK.out _) λw2 aC=>?_;have:=aC.MS w1;have jB:=aC.size)|(with_reducible refine ku (fM.out _) λw1 au=>?_;have mD:=au.size))|(go_at_call 140;first|(with_reducible refine ku (jV.out _) λva aT=>?_;have:=aT.f_ w1;have:=aT.f_ w2)|(with_reducible refine ku (mZ.out _) λvb bJ=>?_;have:=bJ.f_ w1;have:=bJ.f_ w2))|(go_at_call 159;refine kw (HO _) ?_))
 go_returns;exact⟨rfl,Gr.g⟩):P:=h
def R_(f a b:Int)(s:Bool)(Qp:fF f a D)(w:ak):
  QR 74 #[J f,Y O a,Y O b,U s] w (.tuple #[J 2,J 1]):=by
 exact Nh
def aD2(f a b:Int)(s:Bool)(Qp:fF f a T)(TN:fF f b D)(w:ak):
  QR 74 #[J f,Y O a,Y O b,U s] w (.tuple #[J 2,J 1]):=by
 exact Nh
def aGQ(f a b ca sa xa ga cb sb xb gb r:Int)(s:Bool)(Qp:fF f a T)(TN:fF f b T)(fM:bW f a ca sa xa ga)(gK:bW f b cb sb xb gb)(jV:bY ca sa xa ga D)(mZ:bY cb sb xb gb D)(HO:KW 159 #[J f,Y O a,Y O b] (J r))(w:ak):
  QR 74 #[J f,Y O a,Y O b,U s] w (.tuple #[J r,J 0]):=by
 exact Nh
def aGR(f a b ca sa xa ga cb sb xb gb fl:Int)(s qa qb:Bool)(hq:qa=T\/qa=D/\qb=T)(t4 t5:Bool)(e4:(ca==4)=t4)(e5:(cb==4)=t5)(hfl:fl=if s||t4||t5 then 1 else 0)(Qp:fF f a T)(TN:fF f b T)(fM:bW f a ca sa xa ga)(gK:bW f b cb sb xb gb)(jV:bY ca sa xa ga qa)(mZ:bY cb sb xb gb qb)(w:ak):
  QR 74 #[J f,Y O a,Y O b,U s] w (.tuple #[J 2,J fl]):=by
 rcases hq with rfl|⟨rfl,rfl⟩
 all_goals
  cases s
  .cases t4
   .cases t5
    .subst hfl;exact Nh
    .subst hfl;exact Nh
   .obtain rfl:fl=1:=by rw[hfl];simp
    exact Nh
  .obtain rfl:fl=1:=by rw[hfl];simp
   exact Nh
def NT(f a b z fl:Int)(l:Bool)(Qp:fF f a D)(HL:qJ f z fl)(w:ak):
  Qg f a b l w z fl:=by
 go_enter func158,ntmps158;go_wp2_with (first|(go_at_call 61;first|(with_reducible refine kw (Qp.out _) ?_))|(go_at_call 136;refine ku (HL _) λw9 bV=>?_;have jD:=bV.bK w))
 exact cO (by simp[results,results158,go_sem,jD])
def aAD(f a b z fl:Int)(l:Bool)(Qp:fF f a T)(TN:fF f b D)(HL:qJ f z fl)(w:ak):
  Qg f a b l w z fl:=by
 go_enter func158,ntmps158;go_wp2_with (first|(go_at_call 61;first|(with_reducible refine kw (Qp.out _) ?_)|(with_reducible refine kw (TN.out _) ?_))|(go_at_call 136;refine ku (HL _) λw9 bV=>?_;have jD:=bV.bK w))
 exact cO (by simp[results,results158,go_sem,jD])
def aDG(f a b ca sa xa ga cb sb xb gb z fl:Int)(l qa qb t:Bool)(hq:qa=T\/qa=D/\qb=T)(t4 t5:Bool)(e4:(ca==4)=t4)(e5:(cb==4)=t5)(ht:(t4||t5)=t)(Qp:fF f a T)(TN:fF f b T)(fM:bW f a ca sa xa ga)(gK:bW f b cb sb xb gb)(jV:bY ca sa xa ga qa)(mZ:bY cb sb xb gb qb)(HL:qR f t z fl)(w:ak):
  Qg f a b l w z fl:=by
 rcases hq with rfl|⟨rfl,rfl⟩
 all_goals
  cases t4
  .cases t5
   .obtain rfl:D=t:=ht;exact aF5
   .obtain rfl:T=t:=ht;exact aF5
  .obtain rfl:T=t:=by rw[<-ht];simp
   exact aF5
def aDF(f a b ca sa xa ga cb sb xb gb r:Int)(l q:Bool)(c0:(r==0)=D)(hr:decide (r<=0)=q)(z:Int)(hz:(q==l)=T/\z=a\/(q==l)=D/\z=b)(Qp:fF f a T)(TN:fF f b T)(fM:bW f a ca sa xa ga)(gK:bW f b cb sb xb gb)(jV:bY ca sa xa ga D)(mZ:bY cb sb xb gb D)(HO:KW 159 #[J f,Y O a,Y O b] (J r))(w:ak):
  Qg f a b l w z 0:=by
 rcases hz with⟨h,rfl⟩|⟨h,rfl⟩
 all_goals
  exact aF4
def NS(f a b ca sa xa ga cb sb xb gb r:Int)(l q:Bool)(c0:r=0)(cs:(sa==sb)=T)(hr:T=q)(z:Int)(hz:(q==l)=T/\z=a\/(q==l)=D/\z=b)(Qp:fF f a T)(TN:fF f b T)(fM:bW f a ca sa xa ga)(gK:bW f b cb sb xb gb)(jV:bY ca sa xa ga D)(mZ:bY cb sb xb gb D)(HO:KW 159 #[J f,Y O a,Y O b] (J r))(w:ak):
  Qg f a b l w z 0:=by
 subst c0;subst hr;rcases hz with⟨h,rfl⟩|⟨h,rfl⟩
 all_goals
  exact aF4
def Xq(f a b ca sa xa ga cb sb xb gb r:Int)(l q:Bool)(c0:r=0)(cs:(sa==sb)=D)(d:Int)(hd:IntKind.i64.wrap (sb-sa)=d)(hr:decide (d<=0)=q)(z:Int)(hz:(q==l)=T/\z=a\/(q==l)=D/\z=b)(Qp:fF f a T)(TN:fF f b T)(fM:bW f a ca sa xa ga)(gK:bW f b cb sb xb gb)(jV:bY ca sa xa ga D)(mZ:bY cb sb xb gb D)(HO:KW 159 #[J f,Y O a,Y O b] (J r))(w:ak):
  Qg f a b l w z 0:=by
 subst c0;rcases hz with⟨h,rfl⟩|⟨h,rfl⟩
 all_goals
  exact aF4
