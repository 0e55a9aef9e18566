import Derived.Test.YthoelefkjpjhfaaGreatDoorG4
import Derived.Deep.AppendLies
import Derived.Test.YthoelefkjpjhfaaGreatDoorG0
import Derived.Test.YthoelefkjpjhfaaGreatDoorG7
set_option linter.all false
open Bool renaming false → D, true → T
open Option renaming some → W
open Go.Proofs.YthoelefkjpjhfaaGreatDoor renaming vI → J
open Go.Value renaming int → Y, bool → U
open Go.IntKind renaming u64 → O
open Go.Ending renaming returned → X
open Go.Proofs.Tryz
namespace Go.Proofs.YthoelefkjpjhfaaGreatDoor
open Go.RowKit
attribute [local go_sem] aA
structure Ch where
 f:(Int->Int->Prop)->Int
 ok:∀P:Int->Int->Prop,(∃Z fl,P Z fl)->∃fl,P (f P) fl
open Classical in
theorem aQk:Nonempty Ch:=⟨⟨λP=>if h:∃Z fl,P Z fl then Classical.choose h else 0,λP h=>by simp only[dif_pos h];exact Classical.choose_spec h⟩⟩
def pick[Inhabited Ch](P:Int->Int->Prop):Int:=(default:Ch).f P
def kX[Inhabited Ch]{P:Int->Int->Prop}(one:∀{Z fl Z' oP},P Z fl->P Z' oP->Z=Z'/\fl=oP){Z fl:Int}(h:P Z fl):pick P=Z:=by
 obtain⟨oP,h'⟩:=(default:Ch).ok P ⟨Z,fl,h⟩;exact(one h' h).1
set_option maxRecDepth 1000000
set_option maxHeartbeats 40000000
def aEC{P:Prop}(h:P:=by
 go_enter func168,ntmps168;go_wp2;go_returns;exact⟨rfl,kr⟩):P:=h
def J5{p mn mx fb sp one aI sg nan:Int}(h:wQ p mn mx fb sp one aI sg nan)(w:World):
  QR 238 #[jX p mn mx] w (Y O nan):=by
 have HF:EG p mn mx fb:=λw=>vk h w;have HZ:yB p mn mx 0 aI:=λw=>mD h 0 aI (.inl ⟨rfl,rfl⟩) w;obtain⟨m2,m4,JI,hm4,hor,hb⟩:∃m2 m4:Int,IntKind.i64.wrap (fb-1)=m2/\IntKind.u64.wrap (1*2^m2.toNat)=m4/\bits .or O aI m4=nan/\0<=m2/\m2<=52:=by
  rcases h with⟨rfl,rfl,rfl,rfl,rfl,rfl,rfl,rfl,rfl⟩|⟨rfl,rfl,rfl,rfl,rfl,rfl,rfl,rfl,rfl⟩
  .exact⟨22,4194304,by decide+kernel,by decide+kernel,by decide+kernel,de,de⟩
  .exact⟨51,2251799813685248,by decide+kernel,by decide+kernel,by decide+kernel,de,de⟩
 have aUw:IntKind.u64.wrap (2^m2.toNat)=m4:=by rw[<-hm4,Int.one_mul]
 have PD:¬m2<0:=om;clear h;go_enter func238,ntmps238;go_wp2;go_region_held3 (λw'=>aA w' w.heap.size 0 (J p)/\aA w' w.heap.size 1 (J mn)/\aA w' w.heap.size 2 (J mx))((go_split_ands;(repeat' apply And.intro)<;>exact kl))(first|(go_at_call 182;refine(HF _).mono ?_;rintro e w3 ⟨rfl,aK⟩;have Bo:=aK.cells;have Bg:=aK.dX;have mY:=aK.size;(try simp only[World.size_alloc,World.size_drew,World.size_setCell]at mY))|(go_at_call 240;refine(HZ _).mono ?_;rintro e w4 ⟨rfl,aV⟩;have NG:=aV.cells;have Nz:=aV.dX;have tJ:=aV.size;(try simp only[World.size_alloc,World.size_drew,World.size_setCell]at tJ)))
 all_goals go_wp2<;>go_returns
 all_goals exact⟨rfl,kr⟩
def Fm(w:World):Prop:=
 aA w 0 0 (J 24)/\aA w 0 1 (J (-126))/\aA w 0 2 (J 127)/\
 aA w 0 3 (J 53)/\aA w 0 4 (J (-1022))/\aA w 0 5 (J 1023)
def Fm.gb{w w':World}(h:Fm w)(k:Gb w w'):Fm w':=⟨k.old h.1,k.old h.2.1,k.old h.2.2.1,k.old h.2.2.2.1,k.old h.2.2.2.2.1,k.old h.2.2.2.2.2⟩
def Fm.gr{w w':World}(h:Fm w)(k:Gr w w'):Fm w':=h.gb k.gb
def bD.m{f p mx one aI sg nan:Int}(h:bD f p mx one aI sg nan):∃mn fb sp,wQ p mn mx fb sp one aI sg nan/\mn=1-mx/\fb=p-1:=by
 rcases h with⟨rfl,rfl,rfl,rfl,rfl,rfl,rfl⟩|⟨rfl,rfl,rfl,rfl,rfl,rfl,rfl⟩
 .exact⟨_,_,_,.inl ⟨rfl,rfl,rfl,rfl,rfl,rfl,rfl,rfl,rfl⟩,rfl,rfl⟩
 .exact⟨_,_,_,.inr ⟨rfl,rfl,rfl,rfl,rfl,rfl,rfl,rfl,rfl⟩,rfl,rfl⟩
def mJ{f p mx one aI sg nan mn fb sp:Int}(h:bD f p mx one aI sg nan)(hm:wQ p mn mx fb sp one aI sg nan){w:World}(hw:Fm w):
  Ji f w p mn mx T:=by
 obtain⟨c0,c1,c2,c3,c4,c5⟩:=hw;have uF:=au c0;rcases h with⟨rfl,rfl,rfl,rfl,rfl,rfl,rfl⟩|⟨rfl,rfl,rfl,rfl,rfl,rfl,rfl⟩<;>rcases hm with⟨h1,rfl,h2,rfl,rfl,h3,h4,h5,h6⟩|⟨h1,rfl,h2,rfl,rfl,h3,h4,h5,h6⟩
 .clear h1 h2 h3 h4 h5 h6;exact aEC
 .exfalso;omega
 .exfalso;omega
 .clear h1 h2 h3 h4 h5 h6;exact aEC
def nO(f:Int)(h:¬(f=0\/f=1))(w:World):
  QR 168 #[J f] w (.tuple #[jX 0 0 0,U D]):=by
 rcases(om:f<0\/2<=f)with c|c
 all_goals
  clear h;exact aEC
def uv(k:IntKind)(m:Nat)(g:Nat->Int):List Value:=(List.range m).map λj=>Value.int k (g j)
def pO(k:IntKind)(m:Nat)(g:Nat->Int):(uv k m g).length =m:=by simp[uv]
def Kw(k:IntKind)(m:Nat)(g:Nat->Int)(j:Nat)(hj:j<m):(uv k m g)[j]?=W (Y k (g j)):=by simp[uv,hj]
def aD9{k:IntKind}{m:Nat}{g g':Nat->Int}(h:∀j,j<m->g j=g' j):uv k m g=uv k m g':=by
 unfold uv;refine List.map_congr_left λj hj=>?_;rw[h j (by simpa using hj)]
def aMd(k:IntKind)(m:Nat)(g:Nat->Int)(j:Nat)(x:Int):(uv k m g).set j (Y k x)=uv k m (λi=>if i=j then x else g i):=by
 refine List.ext_getElem? λi=>?_;by_cases hi:i<m
 .rw[Kw _ _ _ _ hi,List.getElem?_set];by_cases e:j=i
  .subst e;simp[pO,hi]
  .rw[if_neg e,Kw _ _ _ _ hi,if_neg (λh=>e h.symm)]
 .rw[List.getElem?_eq_none (by simp[pO];omega),List.getElem?_eq_none (by rw[pO];omega)]
def aEa(k:IntKind)(m r:Nat)(g:Nat->Int):uv k (m+r) g=uv k m g++uv k r (λj=>g (m+j)):=by
 unfold uv;rw[List.range_add,List.map_append,List.map_map];rfl
def Ow(w:World)(base:Nat)(t:TypeId)(size:Nat)(k:IntKind)(v:Value)(n:Nat)(g:Nat->Int):Prop:=w.ownsRow base t size v n (uv k (n*size) g)
def Rd(w:World)(k:IntKind)(v:Value)(n m:Nat)(g:Nat->Int):Prop:=
 ∃a cap,v=.slice a n cap/\n<=cap/\cap<=maxLen/\(0<n->∃b,a=W ⟨b,0,none⟩/\∀j,j<m->w.cell? ⟨b,j,none⟩=W (Y k (g j)))
def Rd.gb{w w':World}{k:IntKind}{v:Value}{n m:Nat}{g:Nat->Int}(h:Rd w k v n m g)(hg:Gb w w'):Rd w' k v n m g:=by
 obtain⟨a,cap,h1,h2,h3,h4⟩:=h;refine⟨a,cap,h1,h2,h3,λhn=>?_⟩;obtain⟨b,hb,hc⟩:=h4 hn;exact⟨b,hb,λj hj=>hg.old (hc j hj)⟩
def Rd.congr{w:World}{k:IntKind}{v:Value}{n m:Nat}{g g':Nat->Int}(h:Rd w k v n m g)(e:∀j,j<m->g j=g' j):Rd w k v n m g':=by
 obtain⟨a,cap,h1,h2,h3,h4⟩:=h;refine⟨a,cap,h1,h2,h3,λhn=>?_⟩;obtain⟨b,hb,hc⟩:=h4 hn;exact⟨b,hb,λj hj=>by rw[hc j hj,e j hj]⟩
def Rd.at{w:World}{k:IntKind}{v:Value}{n m:Nat}{g:Nat->Int}(h:Rd w k v n m g)(hn:0<n):∃b cap,v=aC b n cap/\n<=cap/\cap<=maxLen/\∀j,j<m->aA w b j (Y k (g j)):=by
 obtain⟨a,cap,h1,h2,h3,h4⟩:=h;obtain⟨b,rfl,hc⟩:=h4 hn;exact⟨b,cap,h1,h2,h3,hc⟩
def Rd.nil{w:World}(k:IntKind)(a:Option Addr)(cap:Nat)(hc:cap<=maxLen)(m:Nat)(g:Nat->Int):Rd w k (.slice a 0 cap) 0 m g:=⟨a,cap,rfl,Nat.zero_le _,hc,λh=>absurd h om⟩
def Ow.len{w:World}{base:Nat}{t:TypeId}{size:Nat}{k:IntKind}{v:Value}{n:Nat}{g:Nat->Int}(h:Ow w base t size k v n g):∃a cap,v=.slice a n cap/\n<=cap/\cap<=maxLen:=by
 rcases h.2 with⟨rfl,rfl⟩|⟨b,cap,cur,rfl,_,_,hc,hm,_⟩
 .exact⟨none,0,rfl,Nat.le_refl _,Nat.zero_le _⟩
 .exact⟨_,cap,rfl,hc,hm⟩
def Ow.at{w:World}{base:Nat}{t:TypeId}{size:Nat}{k:IntKind}{v:Value}{n:Nat}{g:Nat->Int}(h:Ow w base t size k v n g)(hn:0<n):
  ∃b cap,v=aC b n cap/\base<=b/\b<w.heap.size/\n<=cap/\cap<=maxLen/\∀j,j<n*size->w.cell? ⟨b,j,none⟩=W (Y k (g j))/\w.frozen? ⟨b,j,none⟩=D:=by
 have h0:=h;rcases h.2 with⟨rfl,rfl⟩|⟨b,cap,cur,rfl,hb,hh,hc,hm,_⟩
 .omega
 .refine⟨b,cap,rfl,hb,(Array.getElem?_eq_some_iff.1 hh).1,hc,hm,λj hj=>⟨?_,World.ownsRow.frozenAt h0 j⟩⟩;rw[World.ownsRow.cellAt h0 j hj,Kw _ _ _ _ hj]
def Ow.rd{w:World}{base:Nat}{t:TypeId}{size:Nat}{k:IntKind}{v:Value}{n:Nat}{g:Nat->Int}(h:Ow w base t size k v n g):Rd w k v n (n*size) g:=by
 rcases Nat.eq_zero_or_pos n with rfl|hn
 .obtain⟨a,cap,rfl,_,hc⟩:=h.len;exact Rd.nil k a cap hc _ g
 .obtain⟨b,cap,rfl,_,_,h1,h2,h3⟩:=h.at hn;exact⟨_,cap,rfl,h1,h2,λ_=>⟨b,rfl,λj hj=>(h3 j hj).1⟩⟩
def Ow.gb{w w':World}{base:Nat}{t:TypeId}{size:Nat}{k:IntKind}{v:Value}{n:Nat}{g:Nat->Int}(h:Ow w base t size k v n g)(hg:Gb w w'):Ow w' base t size k v n g:=by
 refine⟨h.1,?_⟩;rcases h.2 with hn|⟨b,cap,cur,rfl,hb,hh,rest⟩
 .exact .inl hn
 .refine .inr ⟨b,cap,cur,rfl,hb,?_,rest⟩;rw[Below.block hg b (Array.getElem?_eq_some_iff.1 hh).1];exact hh
def Ow.mono{w:World}{base base':Nat}{t:TypeId}{size:Nat}{k:IntKind}{v:Value}{n:Nat}{g:Nat->Int}(h:Ow w base t size k v n g)(hb:base'<=base):Ow w base' t size k v n g:=by
 refine⟨h.1,?_⟩;rcases h.2 with hn|⟨b,cap,cur,rfl,AV,hh,rest⟩
 .exact .inl hn
 .exact .inr ⟨b,cap,cur,rfl,Nat.le_trans hb AV,hh,rest⟩
def Ow.congr{w:World}{base:Nat}{t:TypeId}{size:Nat}{k:IntKind}{v:Value}{n:Nat}{g g':Nat->Int}(h:Ow w base t size k v n g)(e:∀j,j<n*size->g j=g' j):Ow w base t size k v n g':=by
 have h':w.ownsRow base t size v n (uv k (n*size) g):=h;rw[aD9 e]at h';exact h'
def Ow.alloc{w:World}{base:Nat}{t:TypeId}{size:Nat}{k:IntKind}{v:Value}{n:Nat}{g:Nat->Int}(h:Ow w base t size k v n g)(o:Obj):Ow (w.alloc o) base t size k v n g:=World.ownsRow.alloc h o
def Ow.drew{w:World}{base:Nat}{t:TypeId}{size:Nat}{k:IntKind}{v:Value}{n:Nat}{g:Nat->Int}(h:Ow w base t size k v n g):Ow w.drew base t size k v n g:=World.ownsRow.drew h
def Ow.ne{w:World}{base:Nat}{t:TypeId}{size:Nat}{k:IntKind}{v:Value}{n:Nat}{g:Nat->Int}(h:Ow w base t size k v n g){p:Nat}(hp:w.heap.size<=p):v.ownBlock≠W p:=λe=>by
 have:=(World.ownsRow.lt h p e).2;omega
def Rd.kept{w w':World}{k:IntKind}{b n cap m:Nat}{g:Nat->Int}{v:Value}(h:Rd w k (aC b n cap) n m g)(hk:∀p off u,aA w p off u->v.ownBlock≠W p->aA w' p off u)(jV:v.ownBlock≠W b):Rd w' k (aC b n cap) n m g:=by
 obtain⟨a,cap',h1,h2,h3,h4⟩:=h;refine⟨a,cap',h1,h2,h3,λhn=>?_⟩;obtain⟨b',rfl,hc⟩:=h4 hn;simp only[Value.slice.injEq,Option.some.injEq,Addr.mk.injEq,and_true,true_and]at h1;obtain⟨rfl,rfl⟩:=h1;exact⟨b,rfl,λj hj=>hk _ _ _ (hc j hj) jV⟩
def Ow.nil(w:World)(base:Nat)(t:TypeId)(size:Nat)(k:IntKind)(g:Nat->Int):Ow w base t size k (.slice none 0 0) 0 g:=by
 refine⟨by simp[uv],.inl ⟨rfl,rfl⟩⟩
def Ow.lit(w:World)(t:TypeId)(size:Nat)(k:IntKind)(g:Nat->Int):Ow (w.alloc (.cells #[] t)) w.heap.size t size k (aC w.heap.size 0 0) 0 g:=by
 have:=World.ownsRow_lit (base:=w.heap.size) (e:=t) (size:=size) w #[] 0 (Nat.le_refl _) (Nat.zero_le _) (by simp)
 simpa[Ow,uv]using this
def Ow.store{w:World}{base b cap:Nat}{t:TypeId}{size:Nat}{k:IntKind}{n:Nat}{g:Nat->Int}(h:Ow w base t size k (aC b n cap) n g)(j:Nat)(x:Int):
  Ow (w.setCell ⟨b,j,none⟩ (Y k x)) base t size k (aC b n cap) n (λi=>if i=j then x else g i):=by
 have:=(World.ownsRow.stored h j (Y k x)).1;rw[aMd]at this;exact this
def Ow.other{w:World}{base b cap:Nat}{t:TypeId}{size:Nat}{k:IntKind}{n:Nat}{g:Nat->Int}(h:Ow w base t size k (aC b n cap) n g){p:Addr}(hp:p.block≠b)(u:Value):
  Ow (w.setCell p u) base t size k (aC b n cap) n g:=by
 refine⟨h.1,?_⟩;rcases h.2 with hn|⟨b',cap',cur,e,AV,hh,rest⟩
 .exact .inl hn
 .refine .inr ⟨b',cap',cur,e,AV,?_,rest⟩;simp only[Value.slice.injEq,Option.some.injEq,Addr.mk.injEq,and_true,true_and]at e;rw[Below.heap_setCell _ _ _ _ (by omega)];exact hh
def Rd.other{w:World}{k:IntKind}{b n cap m:Nat}{g:Nat->Int}(h:Rd w k (aC b n cap) n m g){p:Addr}(hp:p.block≠b)(u:Value):Rd (w.setCell p u) k (aC b n cap) n m g:=by
 obtain⟨a,cap',h1,h2,h3,h4⟩:=h;refine⟨a,cap',h1,h2,h3,λhn=>?_⟩;obtain⟨b',rfl,hc⟩:=h4 hn;simp only[Value.slice.injEq,Option.some.injEq,Addr.mk.injEq,and_true,true_and]at h1;exact⟨b',rfl,λj hj=>aS om (hc j hj)⟩
def aAB{w:World}{o:Oper}{a:Act}{K:Act->World->Prop}{Q:Exit->Act->World->Prop}(s x:Operand)(ty:TypeId)
  (ho:o.op=.call {callee:=.builtin .append,args:=#[s,x],argTypes:=#[ty,ty]}) (t:TypeId) (z:Value) (size bytes:Nat) (k:IntKind) (JG:Tryz.prog.underlying ty=W (.slice t)) (u_:(Tryz.prog.info? t).map (λi=>(i.zero,i.size,i.bytes))=W (W z,size,bytes)) (hzs:z.cells.size=size) (hs0:0<size) (Dh:bytes<=1000)
  (base n r:Nat) (g:Nat->Int) (v:Value) (b:Nat) (hs:a.eval s=v) (gZ:Ow w base t size k v n g) (hx:a.eval x=aC b r r)
  (hc:∀j,j<r*size->aA w b j (Y k (g (n*size+j)))) (Ox:0<r) (hn:n+r<=100000000) (nN:base<=w.heap.size)
  (h:∀v' w',Ow w' base t size k v' (n+r) g->Below base w w'->(∀p off u,aA w p off u->v.ownBlock≠W p->aA w' p off u)->(v'.ownBlock=v.ownBlock\/v'.ownBlock=W w.heap.size)->K (a.put o.dst v') w'):o.wp Tryz.prog a w K Q:=by
 obtain⟨i0,hi,lF,iR,lu⟩:=info_parts u_;refine wp_append_lies _ s x ty ho base t i0 z size bytes JG hi lF iR lu hzs hs0 v n (uv k (n*size) g) hs gZ ⟨b,0,none⟩ r r (uv k (r*size) (λj=>g (n*size+j))) hx (pO _ _ _) ?_ ?_ Ox (by unfold maxLen;omega) (by have:=Nat.mul_le_mul hn Dh;omega) nN w.heap.size rfl ?_
 .intro j u hj;have fF:j<r*size:=by
   rcases Nat.lt_or_ge j (r*size)with c|c
   .exact c
   .rw[List.getElem?_eq_none (by rw[pO];exact c)]at hj;cases hj
  rw[Kw _ _ _ _ fF]at hj;obtain rfl:=Option.some.inj hj;have e:(⟨b,0,none⟩:Addr).add j=⟨b,j,none⟩:=by unfold Addr.add;split<;>simp_all
  rw[e];exact hc j fF
 .intro u hu;obtain⟨j,_,rfl⟩:=List.mem_map.1 hu;rfl
 .intro gb cap' w' tX kY hat _;refine h _ w' ?_ ?_ ?_ ?_
  .show World.ownsRow _ _ _ _ _ _ _;rw[Nat.add_mul,aEa];exact tX
  .refine(Below.refl base w).grown kY nN ?_;intro q hq;exact(World.ownsRow.lt gZ q hq).1
  .intro p off u hu jV;refine(World.cell?_of_block (w:=w) (a:=⟨p,off,none⟩) (kY.block p (au hu) (λe=>jV e.symm))).trans hu
  .rcases hat with e|e
   .exact .inl (by rw[e];rfl)
   .exact .inr (by rw[e];rfl)
def lG{w:World}{ops:Array Oper}{rest:List Oper}{o:Oper}{a:Act}{Q:Exit->Act->World->Prop}(Z8:o.guard=none)(s x:Operand)(ty:TypeId)
  (ho:o.op=.call {callee:=.builtin .append,args:=#[s,x],argTypes:=#[ty,ty]}) (t:TypeId) (z:Value) (size bytes:Nat) (k:IntKind) (JG:Tryz.prog.underlying ty=W (.slice t)) (u_:(Tryz.prog.info? t).map (λi=>(i.zero,i.size,i.bytes))=W (W z,size,bytes)) (hzs:z.cells.size=size) (hs0:0<size) (Dh:bytes<=1000)
  (base n r:Nat) (g:Nat->Int) (v:Value) (b:Nat) (hs:a.eval s=v) (gZ:Ow w base t size k v n g) (hx:a.eval x=aC b r r)
  (hc:∀j,j<r*size->aA w b j (Y k (g (n*size+j)))) (Ox:0<r) (hn:n+r<=100000000) (nN:base<=w.heap.size)
  (h:∀v' w',Ow w' base t size k v' (n+r) g->Below base w w'->(∀p off u,aA w p off u->v.ownBlock≠W p->aA w' p off u)->(v'.ownBlock=v.ownBlock\/v'.ownBlock=W w.heap.size)->wpList Tryz.prog ops Q rest (a.put o.dst v') w'):wpList Tryz.prog ops Q (o::rest) a w:=
 wpList_plain Z8 λ_ hK=>aAB s x ty ho t z size bytes k JG u_ hzs hs0 Dh base n r g v b hs gZ hx hc Ox hn nN λv' w' h1 h2 h3 h4=>hK _ _ (h v' w' h1 h2 h3 h4)
def step_more{w:World}{ops:Array Oper}{o:Oper}{a:Act}{K:Act->World->Prop}{Q:Exit->Act->World->Prop}{E:Prop}(Z8:o.guard=none)(s x:Operand)(ty:TypeId)
  (ho:o.op=.call {callee:=.builtin .append,args:=#[s,x],argTypes:=#[ty,ty]}) (t:TypeId) (z:Value) (size bytes:Nat) (k:IntKind) (JG:Tryz.prog.underlying ty=W (.slice t)) (u_:(Tryz.prog.info? t).map (λi=>(i.zero,i.size,i.bytes))=W (W z,size,bytes)) (hzs:z.cells.size=size) (hs0:0<size) (Dh:bytes<=1000)
  (base n r:Nat) (g:Nat->Int) (v:Value) (b:Nat) (hs:a.eval s=v) (gZ:Ow w base t size k v n g) (hx:a.eval x=aC b r r)
  (hc:∀j,j<r*size->aA w b j (Y k (g (n*size+j)))) (Ox:0<r) (hn:n+r<=100000000) (nN:base<=w.heap.size)
  (h:∀v' w',Ow w' base t size k v' (n+r) g->Below base w w'->(∀p off u,aA w p off u->v.ownBlock≠W p->aA w' p off u)->(v'.ownBlock=v.ownBlock\/v'.ownBlock=W w.heap.size)->K (a.put o.dst v') w'):if Region.wanted o (yielded ops a.tmps)=T then Oper.wp Tryz.prog o a w K Q else E:=by
 have hw:Region.wanted o (yielded ops a.tmps)=T:=by simp[Region.wanted,Z8]
 rw[if_pos hw];exact aAB s x ty ho t z size bytes k JG u_ hzs hs0 Dh base n r g v b hs gZ hx hc Ox hn nN h
def Wd(a:Int):Prop:=0<=a/\a<18446744073709551616
structure Ops where
 int:Int->Int
 add:Int->Int->Int
 sub:Int->Int->Int
 mul:Int->Int->Int
 div:Int->Int->Int
 sqrt:Int->Int
structure Ops.In (o:Ops):Prop where
 int:∀n,Wd (o.int n)
 add:∀{a b},Wd a->Wd b->Wd (o.add a b)
 sub:∀{a b},Wd a->Wd b->Wd (o.sub a b)
 mul:∀{a b},Wd a->Wd b->Wd (o.mul a b)
 div:∀{a b},Wd a->Wd b->Wd (o.div a b)
 sqrt:∀{a},Wd a->Wd (o.sqrt a)
abbrev aKc(S:Nat)(a b z:Int):Prop:=Hid (∀w,Calls Tryz.prog S #[J 1,J 0,Y O a,Y O b] w λe w'=>∃fl:Int,e=X (aP z fl)/\Gb w w')
abbrev aBI(S:Nat)(a b z:Int):Prop:=Hid (∀w,Fm w->Calls Tryz.prog S #[J 1,J 0,Y O a,Y O b] w λe w'=>∃fl:Int,e=X (aP z fl)/\Gr w w')
structure Ops.S (o:Ops):Prop where
 one:o.int 1=4607182418800017408
 half:o.div 4607182418800017408 (o.int 2)=4602678819172646912
 int:∀n u:Int,-2047<=n->n<=2047->u=n%18446744073709551616->Hid (∀w,CT 60 #[J 1,J 0,J 1,Y O u] w λe w'=>∃fl:Int,e=X (aP (o.int n) fl)/\Gb w w')
 add:∀{a b},Wd a->Wd b->aKc 62 a b (o.add a b)
 sub:∀{a b},Wd a->Wd b->aKc 63 a b (o.sub a b)
 mul:∀{a b},Wd a->Wd b->aKc 64 a b (o.mul a b)
 div:∀{a b},Wd a->Wd b->aKc 66 a b (o.div a b)
 sqrt:∀{a},Wd a->Hid (∀w,CT 67 #[J 1,J 0,Y O a] w λe w'=>∃fl:Int,e=X (aP (o.sqrt a) fl)/\Gb w w')
structure Ops.I (o:Ops):Prop where
 add:∀{a b},Wd a->Wd b->aBI 26 a b (o.add a b)
 sub:∀{a b},Wd a->Wd b->aBI 27 a b (o.sub a b)
 mul:∀{a b},Wd a->Wd b->aBI 28 a b (o.mul a b)
 div:∀{a b},Wd a->Wd b->aBI 30 a b (o.div a b)
 sqrt:∀{a},Wd a->Hid (∀w,Fm w->CT 32 #[J 1,J 0,Y O a] w λe w'=>∃fl:Int,e=X (aP (o.sqrt a) fl)/\Gr w w')
abbrev O_:Int:=4607182418800017408
abbrev Jc:Int:=4602678819172646912
def vM(a:Int):Int:=if a<9223372036854775808 then a+9223372036854775808 else a-9223372036854775808
def EW{a:Int}(h:Wd a):Wd (vM a):=by unfold vM Wd at*;split<;>omega
def rU(a:Int × Int):Prop:=Wd a.1/\Wd a.2
def aQl(a:Int × Int):Int × Int:=(vM a.1,vM a.2)
def XA(a:Int × Int):Int × Int:=(a.1,vM a.2)
def aJZ{a:Int × Int}(ha:rU a):rU (aQl a):=⟨EW ha.1,EW ha.2⟩
def Xz{a:Int × Int}(ha:rU a):rU (XA a):=⟨ha.1,EW ha.2⟩
def BO:Wd O_:=⟨de,de⟩
def uI:Wd Jc:=⟨de,de⟩
def zH:Wd 0:=by unfold Wd;omega
namespace Ops
variable (o:Ops)
def cAdd(a b:Int × Int):Int × Int:=(o.add a.1 b.1,o.add a.2 b.2)
def cSub(a b:Int × Int):Int × Int:=(o.sub a.1 b.1,o.sub a.2 b.2)
def cMul(a b:Int × Int):Int × Int:=(o.sub (o.mul a.1 b.1) (o.mul a.2 b.2),o.add (o.mul a.1 b.2) (o.mul a.2 b.1))
def rP(a:Int × Int):Int × Int:=(o.mul a.1 Jc,o.mul a.2 Jc)
def sQ(a:Int × Int):Int:=o.sqrt (o.mul (o.add O_ a.1) Jc)
def root(a:Int × Int):Int × Int:=(o.sQ a,o.div a.2 (o.add (o.sQ a) (o.sQ a)))
def rt:Nat->Nat->Int × Int
 |0,_=>(0,0)
 |1,_=>(0,O_)
 |k+2,i=>if i%2=0 then o.root (rt (k+1) (i/2))else aQl (o.root (rt (k+1) (i/2)))
def tr:Nat->(Nat->Int)->Nat->Int × Int
 |0,_,_=>(0,0)
 |1,cs,_=>(cs 0,cs 1)
 |k+2,cs,i=>
  if i%2=0 then o.cAdd (tr (k+1) (λm=>cs (2*m)) (i/2)) (o.cMul (o.rt (k+2) (2*(i/2))) (tr (k+1) (λm=>cs (2*m+1)) (i/2)))
  else o.cSub (tr (k+1) (λm=>cs (2*m)) (i/2)) (o.cMul (o.rt (k+2) (2*(i/2))) (tr (k+1) (λm=>cs (2*m+1)) (i/2)))
def J_(zs:Nat->Int × Int)(j:Nat):Int × Int:=o.rP (o.cAdd (zs (2*j)) (zs (2*j+1)))
def OA(k:Nat)(zs:Nat->Int × Int)(j:Nat):Int × Int:=o.rP (o.cMul (o.cSub (zs (2*j)) (zs (2*j+1))) (XA (o.rt k (2*j))))
def bk:Nat->(Nat->Int × Int)->Nat->Int
 |0,_,_=>0
 |1,zs,i=>if i%2=0 then(zs 0).1 else(zs 0).2
 |k+2,zs,i=>if i%2=0 then bk (k+1) (o.J_ zs) (i/2)else bk (k+1) (o.OA (k+2) zs) (i/2)
variable {o}
def In.cAdd(H:o.In){a b:Int × Int}(ha:rU a)(hb:rU b):rU (o.cAdd a b):=⟨H.add ha.1 hb.1,H.add ha.2 hb.2⟩
def In.cSub(H:o.In){a b:Int × Int}(ha:rU a)(hb:rU b):rU (o.cSub a b):=⟨H.sub ha.1 hb.1,H.sub ha.2 hb.2⟩
def In.cMul(H:o.In){a b:Int × Int}(ha:rU a)(hb:rU b):rU (o.cMul a b):=⟨H.sub (H.mul ha.1 hb.1) (H.mul ha.2 hb.2),H.add (H.mul ha.1 hb.2) (H.mul ha.2 hb.1)⟩
def In.rP(H:o.In){a:Int × Int}(ha:rU a):rU (o.rP a):=⟨H.mul ha.1 uI,H.mul ha.2 uI⟩
def In.sQ(H:o.In){a:Int × Int}(ha:rU a):Wd (o.sQ a):=H.sqrt (H.mul (H.add BO ha.1) uI)
def In.root(H:o.In){a:Int × Int}(ha:rU a):rU (o.root a):=⟨H.sQ ha,H.div ha.2 (H.add (H.sQ ha) (H.sQ ha))⟩
def In.rt(H:o.In):∀(k i:Nat),rU (o.rt k i)
 |0,_=>by simp only[Ops.rt];exact⟨zH,zH⟩
 |1,_=>by simp only[Ops.rt];exact⟨zH,BO⟩
 |k+2,i=>by
  have:=In.rt H (k+1) (i/2);simp only[Ops.rt];split
  .exact H.root this
  .exact aJZ (H.root this)
def In.tr(H:o.In):∀(k:Nat) (cs:Nat->Int) (i:Nat),(∀j,Wd (cs j))->rU (o.tr k cs i)
 |0,_,_,_=>by simp only[Ops.tr];exact⟨zH,zH⟩
 |1,cs,_,h=>by simp only[Ops.tr];exact⟨h 0,h 1⟩
 |k+2,cs,i,h=>by
  have h1:=In.tr H (k+1) (λm=>cs (2*m)) (i/2) (λj=>h _);have h2:=In.tr H (k+1) (λm=>cs (2*m+1)) (i/2) (λj=>h _);simp only[Ops.tr];split
  .exact H.cAdd h1 (H.cMul (In.rt H _ _) h2)
  .exact H.cSub h1 (H.cMul (In.rt H _ _) h2)
def In.J_(H:o.In){zs:Nat->Int × Int}(h:∀j,rU (zs j))(j:Nat):rU (o.J_ zs j):=H.rP (H.cAdd (h _) (h _))
def In.OA(H:o.In)(k:Nat){zs:Nat->Int × Int}(h:∀j,rU (zs j))(j:Nat):rU (o.OA k zs j):=H.rP (H.cMul (H.cSub (h _) (h _)) (Xz (H.rt _ _)))
def In.bk(H:o.In):∀(k:Nat) (zs:Nat->Int × Int) (i:Nat),(∀j,rU (zs j))->Wd (o.bk k zs i)
 |0,_,_,_=>by simp only[Ops.bk];exact zH
 |1,zs,i,h=>by
  simp only[Ops.bk];split
  .exact(h 0).1
  .exact(h 0).2
 |k+2,zs,i,h=>by
  simp only[Ops.bk];split
  .exact In.bk H (k+1) _ _ (H.J_ h)
  .exact In.bk H (k+1) _ _ (H.OA _ h)
end Ops
def flat(f:Nat->Int × Int)(j:Nat):Int:=if j%2=0 then(f (j/2)).1 else(f (j/2)).2
def eP(f:Nat->Int × Int)(j:Nat):flat f (2*j)=(f j).1 :=by unfold flat;rw[if_pos om,(om:2*j/2=j)]
def eU(f:Nat->Int × Int)(j:Nat):flat f (2*j+1)=(f j).2 :=by unfold flat;rw[if_neg om,(om:(2*j+1)/2=j)]
set_option maxRecDepth 1000000
def UJ{P:Prop}(h:P:=by
 have:=Nat.div_add_mod M (2^d);rw[hL,hR,Nat.mul_comm]at this;omega):P:=h
def UK{P:Prop}(h:P:=by
 rw[rY];refine(gX hb om (d-1) om).mono (λx aT ⟨v'',k'',h1,h2,h3,h4⟩=>⟨v'',k'',h1,?_,om,h4⟩);rw[Nat.one_mul,hP]at h2;exact h2):P:=h
def aLg{P:Prop}(h:P:=by
 go_wp2_with (first|(go_at_call 132;refine(CY _).mono ?_;rintro x w4 ⟨v1,k1,rfl,gU,jB,Z9⟩;obtain⟨c1,c2,c3⟩:jv w4 w.heap.size 1 2 3 (v) (J e) (U T):=⟨ks,ks,ks⟩)|(go_at_call 150;refine(aAz v1 k1 _ gU jB).mono ?_;rintro x w5 ⟨vP,kP,rfl,hbP,hkP,hg5⟩;obtain⟨d1,d2,d3⟩:jv w5 w.heap.size 1 2 3 (v) (J e) (U T):=⟨ks,ks,ks⟩)|(go_at_call 133;refine(Gg _ _ vP kP _ (Big.gb Xa kg) hkR hbP hkP).mono ?_;rintro x w6 ⟨rfl,hg6⟩;obtain⟨f1,f2,f3⟩:jv w6 w.heap.size 1 2 3 (v) (J e) (U T):=⟨ks,ks,ks⟩))
 go_returns;first|exact⟨_,rfl,_,Big.gb Tq kg,Z5,kg⟩|exact⟨_,_,rfl,Big.gb Tq kg,Z5,kg⟩):P:=h
def aLh{P:Prop}(h:P:=by
 go_wp2_with (first|(go_at_call 132;refine(CY _).mono ?_;rintro x w4 ⟨v1,k1,rfl,gU,jB,Z9⟩;obtain⟨c1,c2,c3⟩:jv w4 w.heap.size 1 2 3 (v) (J e) (U D):=⟨ks,ks,ks⟩)|(go_at_call 150;refine(aAz v1 k1 _ gU jB).mono ?_;rintro x w5 ⟨vP,kP,rfl,hbP,hkP,hg5⟩;obtain⟨d1,d2,d3⟩:jv w5 w.heap.size 1 2 3 (v) (J e) (U D):=⟨ks,ks,ks⟩)|(go_at_call 133;refine(Gg _ _ vP kP _ (Big.gb Xa kg) hkR hbP hkP).mono ?_;rintro x w6 ⟨rfl,hg6⟩;obtain⟨f1,f2,f3⟩:jv w6 w.heap.size 1 2 3 (v) (J e) (U D):=⟨ks,ks,ks⟩))
 go_returns;first|exact⟨_,rfl,_,Big.gb Tq kg,Z5,kg⟩|exact⟨_,_,rfl,Big.gb Tq kg,Z5,kg⟩):P:=h
def aLi{P:Prop}(h:P:=by
 have T_:Hid (∀w',Gb w w'->CT 282 #[v,J d] w' λx aT=>∃v' k,x=X v'/\Big aT v' k L/\k<=n/\Gb w' aT):=λw' hg=>hL▸vY (h.gb hg) om d om;have CX:Hid (∀v' k w',Big w' v' k L->k<=n->CT 150 #[v',J d] w' λx aT=>∃v' k,x=X v'/\Big aT v' k (L*2^d)/\k<=n+70000/\Gb w' aT):=λv' k w' hb hk=>(gX hb om d om).mono (λx aT ⟨v'',k'',h1,h2,h3,h4⟩=>⟨v'',k'',h1,h2,om,h4⟩);have Tv:M-L*2^d=R/\L*2^d<=M:=by
  exact UJ
 have HSub:Hid (∀v2 k2 w',Gb w w'->Big w' v2 k2 (L*2^d)->k2<=n+70000->CT 155 #[v,v2] w' λx aT=>∃v' k,x=X v'/\Big aT v' k R/\k<=n/\Gb w' aT):=λv2 k2 w' hg hb hk=>Tv.1▸nM (h.gb hg) om hb om Tv.2;have CY:Hid (∀w',CT 132 #[Y O 1] w' λx aT=>∃v' k,x=X v'/\Big aT v' k 1/\k<=2/\Gb w' aT):=λw'=>gY 1 om w';have rY:((d:Int)-1)=((d-1:Nat):Int):=om;have aAz:Hid (∀v' k w',Big w' v' k 1->k<=2->CT 150 #[v',J ((d:Int)-1)] w' λx aT=>∃v' k,x=X v'/\Big aT v' k P/\k<=70000/\Gb w' aT):=λv' k w' hb hk=>by
  exact UK
 have Gg:Hid (∀v1 k1 v2 k2 w',Big w' v1 k1 R->k1<=n->Big w' v2 k2 P->k2<=70000->QB 133 #[v1,v2] w' (J (iK R P))):=λv1 k1 v2 k2 w' h1 jB h2 lX=>jD h1 om h2 om;have hqe:¬q<=e:=om;clear hR hP hL Tv h rY
 skip
 go_enter func223,ntmps223;go_wp2_with (go_at_call 282;refine(T_ _ kg).mono ?_;rintro x w1 ⟨vL,kL,rfl,Tq,Z5,rJ⟩;obtain⟨a1,a2,a3⟩:jv w1 w.heap.size 1 2 3 (v) (J e) (U rest):=⟨ks,ks,ks⟩);go_region_held3 (λw'=>aA w' w.heap.size 1 (v)/\aA w' w.heap.size 2 (J e)/\aA w' w.heap.size 3 (U rest))((go_split_ands;(repeat' apply And.intro)<;>exact kb))(first|(go_at_call 150;refine(CX vL kL _ (Big.gb Tq kg) Z5).mono ?_;rintro x w2 ⟨vT,kT,rfl,hbT,hkT,zk⟩)|(go_at_call 155;refine(HSub vT kT _ kg (Big.gb hbT kg) hkT).mono ?_;rintro x w3 ⟨vR,kR,rfl,Xa,hkR,wV⟩;obtain⟨bR,aJY,rfl,hcR⟩:=Big.shape Xa;have hk0:=Big.some Xa hRn;obtain⟨b1,b2,b3⟩:jv w3 w.heap.size 1 2 3 (v) (J e) (U rest):=⟨ks,ks,ks⟩))
 all_goals
  (try go_split_ands)
  go_wp2_with (first|(go_at_call 132;refine(CY _).mono ?_;rintro x w4 ⟨v1,k1,rfl,gU,jB,Z9⟩;obtain⟨c1,c2,c3⟩:jv w4 w.heap.size 1 2 3 (v) (J e) (U rest):=⟨ks,ks,ks⟩)|(go_at_call 150;refine(aAz v1 k1 _ gU jB).mono ?_;rintro x w5 ⟨vP,kP,rfl,hbP,hkP,hg5⟩;obtain⟨d1,d2,d3⟩:jv w5 w.heap.size 1 2 3 (v) (J e) (U rest):=⟨ks,ks,ks⟩)|(go_at_call 133;refine(Gg _ _ vP kP _ (Big.gb Xa kg) hkR hbP hkP).mono ?_;rintro x w6 ⟨rfl,hg6⟩;obtain⟨f1,f2,f3⟩:jv w6 w.heap.size 1 2 3 (v) (J e) (U rest):=⟨ks,ks,ks⟩))
  go_returns;first|exact⟨_,rfl,_,Big.gb Tq kg,Z5,kg⟩|exact⟨_,_,rfl,Big.gb Tq kg,Z5,kg⟩):P:=h
def aGq{v:Value}{n M:Nat}{w:World}(h:Big w v n M)(hn:n<=100000)(s e q:Int)(rest:Bool)(e0:-1000000<=e)(e1:e<=1000000)(q0:-1000000<=q)(hq:q<=e):
  CT 223 #[.agg #[J s,v,J e,U rest],J q] w λx w'=>∃v' k,x=X (.tuple #[v',J (bg M e q rest)])/\Big w' v' k (dw M e q)/\k<=n+70000/\Gb w w':=by
 obtain⟨d,hd⟩:∃d:Nat,e-q=(d:Int):=⟨(e-q).toNat,om⟩;have eLo:dw M e q=M*2^d:=by unfold dw;rw[if_pos hq,hd];rfl
 have eHa:bg M e q rest=(if rest then 1 else 0):=by unfold bg;rw[if_pos hq]
 rw[eLo,eHa];have HS:Hid (∀w',Gb w w'->CT 150 #[v,J d] w' λx aT=>∃v' k,x=X v'/\Big aT v' k (M*2^d)/\k<=n+d/32+1/\Gb w' aT):=λw' hg=>gX (h.gb hg) om d om;clear eLo eHa h;cases rest;all_goals
  go_enter func223,ntmps223;go_wp2_with (go_at_call 150;refine(HS _ kg).mono ?_;rintro x w1 ⟨v',k,rfl,mF,hk,dH⟩);go_returns;first|exact⟨_,rfl,_,mF,om,kg⟩|exact⟨_,_,rfl,mF,om,kg⟩
def Big.shape{w:World}{v:Value}{n N:Nat}(h:Big w v n N):∃b cap,v=aC b n cap/\n<=cap:=by
 obtain⟨_,_,b,cap,h2,h3,_⟩:=h;exact⟨b,cap,h2,h3⟩
def Big.none{w:World}{v:Value}{n N:Nat}(h:Big w v n N)(hN:N=0):n=0:=h.1.iff.mpr hN
def Big.some{w:World}{v:Value}{n N:Nat}(h:Big w v n N)(hN:N≠0):((n:Int)==0)=D:=by
 have:n≠0:=λe=>hN (h.1.iff.mp e);simp;omega
def aJm{v:Value}{n M:Nat}{w:World}(h:Big w v n M)(hn:n<=100000)(s e q:Int)(e0:-1000000<=e)(e1:e<=1000000)(q1:q<=1000000)(d:Nat)(hd:q-e=(d:Int))(d1:1<=d)(R P L:Nat)(hR:M%2^d=R)(hP:2^(d-1)=P)(hL:M/2^d=L)(hR0:R=0):
  CT 223 #[.agg #[J s,v,J e,U D],J q] w λx w'=>∃v' k,x=X (.tuple #[v',J 0])/\Big w' v' k L/\k<=n/\Gb w w':=by
 have T_:Hid (∀w',Gb w w'->CT 282 #[v,J d] w' λx aT=>∃v' k,x=X v'/\Big aT v' k L/\k<=n/\Gb w' aT):=λw' hg=>hL▸vY (h.gb hg) om d om;have CX:Hid (∀v' k w',Big w' v' k L->k<=n->CT 150 #[v',J d] w' λx aT=>∃v' k,x=X v'/\Big aT v' k (L*2^d)/\k<=n+70000/\Gb w' aT):=λv' k w' hb hk=>(gX hb om d om).mono (λx aT ⟨v'',k'',h1,h2,h3,h4⟩=>⟨v'',k'',h1,h2,om,h4⟩);have Tv:M-L*2^d=R/\L*2^d<=M:=by
  exact UJ
 have HSub:Hid (∀v2 k2 w',Gb w w'->Big w' v2 k2 (L*2^d)->k2<=n+70000->CT 155 #[v,v2] w' λx aT=>∃v' k,x=X v'/\Big aT v' k R/\k<=n/\Gb w' aT):=λv2 k2 w' hg hb hk=>Tv.1▸nM (h.gb hg) om hb om Tv.2;have CY:Hid (∀w',CT 132 #[Y O 1] w' λx aT=>∃v' k,x=X v'/\Big aT v' k 1/\k<=2/\Gb w' aT):=λw'=>gY 1 om w';have rY:((d:Int)-1)=((d-1:Nat):Int):=om;have aAz:Hid (∀v' k w',Big w' v' k 1->k<=2->CT 150 #[v',J ((d:Int)-1)] w' λx aT=>∃v' k,x=X v'/\Big aT v' k P/\k<=70000/\Gb w' aT):=λv' k w' hb hk=>by
  exact UK
 have Gg:Hid (∀v1 k1 v2 k2 w',Big w' v1 k1 R->k1<=n->Big w' v2 k2 P->k2<=70000->QB 133 #[v1,v2] w' (J (iK R P))):=λv1 k1 v2 k2 w' h1 jB h2 lX=>jD h1 om h2 om;have hqe:¬q<=e:=om;clear hR hP hL Tv h rY;subst hR0;go_enter func223,ntmps223;go_wp2_with (go_at_call 282;refine(T_ _ kg).mono ?_;rintro x w1 ⟨vL,kL,rfl,Tq,Z5,rJ⟩;obtain⟨a1,a2,a3⟩:jv w1 w.heap.size 1 2 3 (v) (J e) (U D):=⟨ks,ks,ks⟩);go_region_held3 (λw'=>aA w' w.heap.size 1 (v)/\aA w' w.heap.size 2 (J e)/\aA w' w.heap.size 3 (U D))((go_split_ands;(repeat' apply And.intro)<;>exact kb))(first|(go_at_call 150;refine(CX vL kL _ (Big.gb Tq kg) Z5).mono ?_;rintro x w2 ⟨vT,kT,rfl,hbT,hkT,zk⟩)|(go_at_call 155;refine(HSub vT kT _ kg (Big.gb hbT kg) hkT).mono ?_;rintro x w3 ⟨vR,kR,rfl,Xa,hkR,wV⟩;obtain⟨bR,aJY,rfl,hcR⟩:=Big.shape Xa;obtain rfl:=Big.none Xa rfl;obtain⟨b1,b2,b3⟩:jv w3 w.heap.size 1 2 3 (v) (J e) (U D):=⟨ks,ks,ks⟩))
 all_goals
  (try go_split_ands)
  exact aLh
def aJl{v:Value}{n M:Nat}{w:World}(h:Big w v n M)(hn:n<=100000)(s e q:Int)(e0:-1000000<=e)(e1:e<=1000000)(q1:q<=1000000)(d:Nat)(hd:q-e=(d:Int))(d1:1<=d)(R P L:Nat)(hR:M%2^d=R)(hP:2^(d-1)=P)(hL:M/2^d=L)(hR0:R=0)(hc:iK R P=-1):
  CT 223 #[.agg #[J s,v,J e,U T],J q] w λx w'=>∃v' k,x=X (.tuple #[v',J 1])/\Big w' v' k L/\k<=n/\Gb w w':=by
 have T_:Hid (∀w',Gb w w'->CT 282 #[v,J d] w' λx aT=>∃v' k,x=X v'/\Big aT v' k L/\k<=n/\Gb w' aT):=λw' hg=>hL▸vY (h.gb hg) om d om;have CX:Hid (∀v' k w',Big w' v' k L->k<=n->CT 150 #[v',J d] w' λx aT=>∃v' k,x=X v'/\Big aT v' k (L*2^d)/\k<=n+70000/\Gb w' aT):=λv' k w' hb hk=>(gX hb om d om).mono (λx aT ⟨v'',k'',h1,h2,h3,h4⟩=>⟨v'',k'',h1,h2,om,h4⟩);have Tv:M-L*2^d=R/\L*2^d<=M:=by
  exact UJ
 have HSub:Hid (∀v2 k2 w',Gb w w'->Big w' v2 k2 (L*2^d)->k2<=n+70000->CT 155 #[v,v2] w' λx aT=>∃v' k,x=X v'/\Big aT v' k R/\k<=n/\Gb w' aT):=λv2 k2 w' hg hb hk=>Tv.1▸nM (h.gb hg) om hb om Tv.2;have CY:Hid (∀w',CT 132 #[Y O 1] w' λx aT=>∃v' k,x=X v'/\Big aT v' k 1/\k<=2/\Gb w' aT):=λw'=>gY 1 om w';have rY:((d:Int)-1)=((d-1:Nat):Int):=om;have aAz:Hid (∀v' k w',Big w' v' k 1->k<=2->CT 150 #[v',J ((d:Int)-1)] w' λx aT=>∃v' k,x=X v'/\Big aT v' k P/\k<=70000/\Gb w' aT):=λv' k w' hb hk=>by
  exact UK
 have Gg:Hid (∀v1 k1 v2 k2 w',Big w' v1 k1 R->k1<=n->Big w' v2 k2 P->k2<=70000->QB 133 #[v1,v2] w' (J (iK R P))):=λv1 k1 v2 k2 w' h1 jB h2 lX=>jD h1 om h2 om;have hqe:¬q<=e:=om;clear hR hP hL Tv h rY;subst hR0;go_enter func223,ntmps223;go_wp2_with (go_at_call 282;refine(T_ _ kg).mono ?_;rintro x w1 ⟨vL,kL,rfl,Tq,Z5,rJ⟩;obtain⟨a1,a2,a3⟩:jv w1 w.heap.size 1 2 3 (v) (J e) (U T):=⟨ks,ks,ks⟩);go_region_held3 (λw'=>aA w' w.heap.size 1 (v)/\aA w' w.heap.size 2 (J e)/\aA w' w.heap.size 3 (U T))((go_split_ands;(repeat' apply And.intro)<;>exact kb))(first|(go_at_call 150;refine(CX vL kL _ (Big.gb Tq kg) Z5).mono ?_;rintro x w2 ⟨vT,kT,rfl,hbT,hkT,zk⟩)|(go_at_call 155;refine(HSub vT kT _ kg (Big.gb hbT kg) hkT).mono ?_;rintro x w3 ⟨vR,kR,rfl,Xa,hkR,wV⟩;obtain⟨bR,aJY,rfl,hcR⟩:=Big.shape Xa;obtain rfl:=Big.none Xa rfl;obtain⟨b1,b2,b3⟩:jv w3 w.heap.size 1 2 3 (v) (J e) (U T):=⟨ks,ks,ks⟩))
 all_goals
  (try go_split_ands)
  exact aLg
def aJk{v:Value}{n M:Nat}{w:World}(h:Big w v n M)(hn:n<=100000)(s e q:Int)(rest:Bool)(e0:-1000000<=e)(e1:e<=1000000)(q1:q<=1000000)(d:Nat)(hd:q-e=(d:Int))(d1:1<=d)(R P L:Nat)(hR:M%2^d=R)(hP:2^(d-1)=P)(hL:M/2^d=L)(hRn:R≠0)(hc:iK R P=-1):
  CT 223 #[.agg #[J s,v,J e,U rest],J q] w λx w'=>∃v' k,x=X (.tuple #[v',J 1])/\Big w' v' k L/\k<=n/\Gb w w':=by
 exact aLi
def aJj{v:Value}{n M:Nat}{w:World}(h:Big w v n M)(hn:n<=100000)(s e q:Int)(e0:-1000000<=e)(e1:e<=1000000)(q1:q<=1000000)(d:Nat)(hd:q-e=(d:Int))(d1:1<=d)(R P L:Nat)(hR:M%2^d=R)(hP:2^(d-1)=P)(hL:M/2^d=L)(hRn:R≠0)(hc:iK R P=0):
  CT 223 #[.agg #[J s,v,J e,U D],J q] w λx w'=>∃v' k,x=X (.tuple #[v',J 2])/\Big w' v' k L/\k<=n/\Gb w w':=by
 have T_:Hid (∀w',Gb w w'->CT 282 #[v,J d] w' λx aT=>∃v' k,x=X v'/\Big aT v' k L/\k<=n/\Gb w' aT):=λw' hg=>hL▸vY (h.gb hg) om d om;have CX:Hid (∀v' k w',Big w' v' k L->k<=n->CT 150 #[v',J d] w' λx aT=>∃v' k,x=X v'/\Big aT v' k (L*2^d)/\k<=n+70000/\Gb w' aT):=λv' k w' hb hk=>(gX hb om d om).mono (λx aT ⟨v'',k'',h1,h2,h3,h4⟩=>⟨v'',k'',h1,h2,om,h4⟩);have Tv:M-L*2^d=R/\L*2^d<=M:=by
  exact UJ
 have HSub:Hid (∀v2 k2 w',Gb w w'->Big w' v2 k2 (L*2^d)->k2<=n+70000->CT 155 #[v,v2] w' λx aT=>∃v' k,x=X v'/\Big aT v' k R/\k<=n/\Gb w' aT):=λv2 k2 w' hg hb hk=>Tv.1▸nM (h.gb hg) om hb om Tv.2;have CY:Hid (∀w',CT 132 #[Y O 1] w' λx aT=>∃v' k,x=X v'/\Big aT v' k 1/\k<=2/\Gb w' aT):=λw'=>gY 1 om w';have rY:((d:Int)-1)=((d-1:Nat):Int):=om;have aAz:Hid (∀v' k w',Big w' v' k 1->k<=2->CT 150 #[v',J ((d:Int)-1)] w' λx aT=>∃v' k,x=X v'/\Big aT v' k P/\k<=70000/\Gb w' aT):=λv' k w' hb hk=>by
  exact UK
 have Gg:Hid (∀v1 k1 v2 k2 w',Big w' v1 k1 R->k1<=n->Big w' v2 k2 P->k2<=70000->QB 133 #[v1,v2] w' (J (iK R P))):=λv1 k1 v2 k2 w' h1 jB h2 lX=>jD h1 om h2 om;have hqe:¬q<=e:=om;clear hR hP hL Tv h rY
 skip
 go_enter func223,ntmps223;go_wp2_with (go_at_call 282;refine(T_ _ kg).mono ?_;rintro x w1 ⟨vL,kL,rfl,Tq,Z5,rJ⟩;obtain⟨a1,a2,a3⟩:jv w1 w.heap.size 1 2 3 (v) (J e) (U D):=⟨ks,ks,ks⟩);go_region_held3 (λw'=>aA w' w.heap.size 1 (v)/\aA w' w.heap.size 2 (J e)/\aA w' w.heap.size 3 (U D))((go_split_ands;(repeat' apply And.intro)<;>exact kb))(first|(go_at_call 150;refine(CX vL kL _ (Big.gb Tq kg) Z5).mono ?_;rintro x w2 ⟨vT,kT,rfl,hbT,hkT,zk⟩)|(go_at_call 155;refine(HSub vT kT _ kg (Big.gb hbT kg) hkT).mono ?_;rintro x w3 ⟨vR,kR,rfl,Xa,hkR,wV⟩;obtain⟨bR,aJY,rfl,hcR⟩:=Big.shape Xa;have hk0:=Big.some Xa hRn;obtain⟨b1,b2,b3⟩:jv w3 w.heap.size 1 2 3 (v) (J e) (U D):=⟨ks,ks,ks⟩))
 all_goals
  (try go_split_ands)
  exact aLh
def aJi{v:Value}{n M:Nat}{w:World}(h:Big w v n M)(hn:n<=100000)(s e q:Int)(e0:-1000000<=e)(e1:e<=1000000)(q1:q<=1000000)(d:Nat)(hd:q-e=(d:Int))(d1:1<=d)(R P L:Nat)(hR:M%2^d=R)(hP:2^(d-1)=P)(hL:M/2^d=L)(hRn:R≠0)(hc:iK R P=0):
  CT 223 #[.agg #[J s,v,J e,U T],J q] w λx w'=>∃v' k,x=X (.tuple #[v',J 3])/\Big w' v' k L/\k<=n/\Gb w w':=by
 have T_:Hid (∀w',Gb w w'->CT 282 #[v,J d] w' λx aT=>∃v' k,x=X v'/\Big aT v' k L/\k<=n/\Gb w' aT):=λw' hg=>hL▸vY (h.gb hg) om d om;have CX:Hid (∀v' k w',Big w' v' k L->k<=n->CT 150 #[v',J d] w' λx aT=>∃v' k,x=X v'/\Big aT v' k (L*2^d)/\k<=n+70000/\Gb w' aT):=λv' k w' hb hk=>(gX hb om d om).mono (λx aT ⟨v'',k'',h1,h2,h3,h4⟩=>⟨v'',k'',h1,h2,om,h4⟩);have Tv:M-L*2^d=R/\L*2^d<=M:=by
  exact UJ
 have HSub:Hid (∀v2 k2 w',Gb w w'->Big w' v2 k2 (L*2^d)->k2<=n+70000->CT 155 #[v,v2] w' λx aT=>∃v' k,x=X v'/\Big aT v' k R/\k<=n/\Gb w' aT):=λv2 k2 w' hg hb hk=>Tv.1▸nM (h.gb hg) om hb om Tv.2;have CY:Hid (∀w',CT 132 #[Y O 1] w' λx aT=>∃v' k,x=X v'/\Big aT v' k 1/\k<=2/\Gb w' aT):=λw'=>gY 1 om w';have rY:((d:Int)-1)=((d-1:Nat):Int):=om;have aAz:Hid (∀v' k w',Big w' v' k 1->k<=2->CT 150 #[v',J ((d:Int)-1)] w' λx aT=>∃v' k,x=X v'/\Big aT v' k P/\k<=70000/\Gb w' aT):=λv' k w' hb hk=>by
  exact UK
 have Gg:Hid (∀v1 k1 v2 k2 w',Big w' v1 k1 R->k1<=n->Big w' v2 k2 P->k2<=70000->QB 133 #[v1,v2] w' (J (iK R P))):=λv1 k1 v2 k2 w' h1 jB h2 lX=>jD h1 om h2 om;have hqe:¬q<=e:=om;clear hR hP hL Tv h rY
 skip
 go_enter func223,ntmps223;go_wp2_with (go_at_call 282;refine(T_ _ kg).mono ?_;rintro x w1 ⟨vL,kL,rfl,Tq,Z5,rJ⟩;obtain⟨a1,a2,a3⟩:jv w1 w.heap.size 1 2 3 (v) (J e) (U T):=⟨ks,ks,ks⟩);go_region_held3 (λw'=>aA w' w.heap.size 1 (v)/\aA w' w.heap.size 2 (J e)/\aA w' w.heap.size 3 (U T))((go_split_ands;(repeat' apply And.intro)<;>exact kb))(first|(go_at_call 150;refine(CX vL kL _ (Big.gb Tq kg) Z5).mono ?_;rintro x w2 ⟨vT,kT,rfl,hbT,hkT,zk⟩)|(go_at_call 155;refine(HSub vT kT _ kg (Big.gb hbT kg) hkT).mono ?_;rintro x w3 ⟨vR,kR,rfl,Xa,hkR,wV⟩;obtain⟨bR,aJY,rfl,hcR⟩:=Big.shape Xa;have hk0:=Big.some Xa hRn;obtain⟨b1,b2,b3⟩:jv w3 w.heap.size 1 2 3 (v) (J e) (U T):=⟨ks,ks,ks⟩))
 all_goals
  (try go_split_ands)
  exact aLg
def aJh{v:Value}{n M:Nat}{w:World}(h:Big w v n M)(hn:n<=100000)(s e q:Int)(rest:Bool)(e0:-1000000<=e)(e1:e<=1000000)(q1:q<=1000000)(d:Nat)(hd:q-e=(d:Int))(d1:1<=d)(R P L:Nat)(hR:M%2^d=R)(hP:2^(d-1)=P)(hL:M/2^d=L)(hRn:R≠0)(hc:iK R P=1):
  CT 223 #[.agg #[J s,v,J e,U rest],J q] w λx w'=>∃v' k,x=X (.tuple #[v',J 3])/\Big w' v' k L/\k<=n/\Gb w w':=by
 exact aLi
def lQ(aj aJ:Int)(lo:Nat):chosen aj aJ lo 0=lo:=by
 unfold chosen up;rw[if_neg (by simp)];rfl
def Ai(k:Nat):((2^k:Nat):Int)=(2:Int)^k:=by push_cast;rfl
def aBD{f p mx one aI sg nan:Int}(h:bD f p mx one aI sg nan)(aj aJ v e g:Int)(v0:0<v)(v1:v<aI)(hn:lW p mx one v e g):
  0<g/\aG g/\-2000<=e/\e<=2000/\bH p (1-mx) mx one aI aj aJ g.toNat e D v 0:=by
 obtain⟨b1,b2,b3,b4,b5,b6,b7,b8,b9,b10,b11,b12⟩:=h.bounds;obtain⟨P,hP,aJu,AQ⟩:=h.pow;have Qu:one=((2^P:Nat):Int):=by rw[Ai];exact AQ
 have u_:aI=one*(2*mx+1):=by rcases h with⟨rfl,rfl,rfl,rfl,rfl,rfl,rfl⟩|⟨rfl,rfl,rfl,rfl,rfl,rfl,rfl⟩<;>decide
 have aBm:2^(P+1)=2*2^P:=by rw[Nat.pow_succ];omega
 obtain⟨k,m,e0,hm,hg,he,g1,g2⟩:=hn;obtain⟨G,rfl⟩:=Int.eq_ofNat_of_zero_le (om:0<=g);have Tf:nb G=P+1:=by
  have a1:=yg (N:=G) (k:=P) om;have a2:=sW (N:=G) (k:=P+1) om;omega
 rw[Int.toNat_natCast];rcases hm with⟨hv,rfl,rfl⟩|⟨hv,rfl,rfl⟩
 .obtain⟨V,rfl⟩:=Int.eq_ofNat_of_zero_le (om:0<=m);have hG:G=V*2^k:=by
   have:(G:Int)=((V*2^k:Nat):Int):=by rw[hg,Int.natCast_mul,Ai]
   omega
  have jB:1<=k:=by
   rcases Nat.eq_zero_or_pos k with c|c
   .subst c;rw[Nat.pow_zero,Nat.mul_one]at hG;omega
   .exact c
  have lX:k<=P:=by
   have hVp:1<=V:=om;have:2^k<=G:=by rw[hG];exact Nat.le_mul_of_pos_left _ hVp
   have:=yg this;omega
  refine⟨om,om,om,om,?_⟩;have hq:¬(1-mx-p+1<=e):=om;have hqe:(1-mx-p+1-e).toNat =k:=om;have Px:0<2^k:=Nat.pow_pos de;have Uf:dw G e (1-mx-p+1)=V:=by unfold dw;rw[if_neg hq,hqe,hG,Nat.mul_div_cancel _ Px]
  have hha:bg G e (1-mx-p+1) D=0:=by unfold bg;rw[if_neg hq,hqe];exact DZ G k jB (by rw[hG,Nat.mul_mod_left])
  refine⟨nb G+e-1,1-mx,V,_,0,rfl,.inl ⟨om,rfl⟩,hha.symm,by rw[Uf,lQ],rfl,.inr (.inr ⟨om,?_,?_,.inl ⟨rfl,rfl⟩⟩)⟩
  .rw[Int.sub_self,Int.mul_zero];omega
  .rw[Int.sub_self,Int.mul_zero];omega
 .have Ox:=Int.emod_nonneg v (om:one≠0);have tK:=Int.emod_lt_of_pos v (om:0<one);have hdm:=Int.ediv_mul_add_emod v one;have hk:k=0:=by
   rcases Nat.eq_zero_or_pos k with c|c
   .exact c
   .obtain⟨j,rfl⟩:∃j,k=j+1:=⟨k-1,om⟩;have h2:(1:Int)<=2^j:=by have:(0:Int)<2^j:=Int.pow_pos (by decide);omega
    have:=Int.mul_le_mul_of_nonneg_left h2 (om:0<=(v%one+one)*2);rw[Int.pow_succ,Int.mul_comm ((2:Int)^j) 2,<-Int.mul_assoc]at hg;omega
  subst hk;rw[Int.pow_zero,Int.mul_one]at hg;have hq1:1<=v/one:=by
   have:=Int.le_ediv_of_mul_le (om:0<one) (om:1*one<=v);omega
  have X7:v/one<2*mx+1:=Int.ediv_lt_of_lt_mul om (by rw[Int.mul_comm];omega);refine⟨om,om,om,om,?_⟩;have iT:(nb G:Int)+e-1=v/one-mx:=om;have hqe:(nb G:Int)+e-1-p+1=e:=om;have Uf:dw G e e=G:=by unfold dw;rw[if_pos (Int.le_refl e)];simp
  have hha:bg G e e D=0:=by unfold bg;rw[if_pos (Int.le_refl e)];rfl
  have hz:(G:Int)+one*(nb G+e-1-(1-mx))=v:=by
   rw[iT,(om:v/one-mx-(1-mx)=v/one-1),Int.mul_sub,Int.mul_one,Int.mul_comm one (v/one)];omega
  refine⟨nb G+e-1,nb G+e-1,G,G,0,rfl,.inr ⟨om,rfl⟩,by rw[hqe,hha],by rw[hqe,Uf,lQ],by rw[hqe,Uf,hha,lQ],.inr (.inr ⟨om,?_,?_,.inl ⟨rfl,rfl⟩⟩)⟩
  .rw[hz];exact v1
  .rw[hz]
set_option maxRecDepth 1000000
def aED{P:Prop}(h:P:=by
 go_enter func158,ntmps158;go_wp2_with (first|(go_at_call 61;first|(with_reducible refine kw (Oq.out _) ?_)|(with_reducible refine kw (QN.out _) ?_))|(go_at_call 126;first|(with_reducible refine ku (eH.out _) λw1 ak=>?_;have:=ak.bG w;have lF:=ak.size)|(with_reducible refine ku (fP.out _) λw2 aB=>?_;have:=aB.bG w;have:=aB.Ko w1;have iR:=aB.size))|(go_at_call 140;first|(with_reducible refine ku (jk.out _) λva aO=>?_;have:=aO.bG w;have:=aO.fG w1;have:=aO.fG w2)|(with_reducible refine ku (lD.out _) λvb bC=>?_;have aFK:=bC.bG w;have:=bC.fG w1;have:=bC.fG w2))|(go_at_call 159;refine kw (HO _) ?_))
 exact bW (by simp[results,Tryz.results158,go_sem,aFK])):P:=h
def aEE{P:Prop}(h:P:=by
 go_enter func158,ntmps158;go_wp2_with (first|(go_at_call 61;first|(with_reducible refine kw (Oq.out _) ?_)|(with_reducible refine kw (QN.out _) ?_))|(go_at_call 126;first|(with_reducible refine ku (eH.out _) λw1 ak=>?_;have:=ak.bG w;have lF:=ak.size)|(with_reducible refine ku (fP.out _) λw2 aB=>?_;have:=aB.bG w;have:=aB.Ko w1;have iR:=aB.size))|(go_at_call 140;first|(with_reducible refine ku (jk.out _) λva aO=>?_;have:=aO.bG w;have:=aO.fG w1;have:=aO.fG w2)|(with_reducible refine ku (lD.out _) λvb bC=>?_;have:=bC.bG w;have:=bC.fG w1;have:=bC.fG w2))|(go_at_call 141;refine ku (HL _) λw9 bM=>?_;have iQ:=bM.bG w))
 exact bW (by simp[results,Tryz.results158,go_sem,iQ])):P:=h
def Kz{P:Prop}(h:P:=by
 go_enter func74,ntmps74;go_wp2_with (first|(go_at_call 61;first|(with_reducible refine kw (Oq.out _) ?_)|(with_reducible refine kw (QN.out _) ?_))|(go_at_call 126;first|(with_reducible refine ku (fP.out _) λw2 aB=>?_;have:=aB.Ko w1;have iR:=aB.size)|(with_reducible refine ku (eH.out _) λw1 ak=>?_;have lF:=ak.size))|(go_at_call 140;first|(with_reducible refine ku (jk.out _) λva aO=>?_;have:=aO.fG w1;have:=aO.fG w2)|(with_reducible refine ku (lD.out _) λvb bC=>?_;have:=bC.fG w1;have:=bC.fG w2))|(go_at_call 159;refine kw (HO _) ?_))
 go_returns;exact⟨rfl,Gr.g⟩):P:=h
def P5(f a b:Int)(s:Bool)(Oq:dZ f a D)(w:World):
  QR 74 #[J f,Y O a,Y O b,U s] w (.tuple #[J 2,J 1]):=by
 exact Kz
def aCD(f a b:Int)(s:Bool)(Oq:dZ f a T)(QN:dZ f b D)(w:World):
  QR 74 #[J f,Y O a,Y O b,U s] w (.tuple #[J 2,J 1]):=by
 exact Kz
def aFq(f a b ca sa xa ga cb sb xb gb r:Int)(s:Bool)(Oq:dZ f a T)(QN:dZ f b T)(eH:bP f a ca sa xa ga)(fP:bP f b cb sb xb gb)(jk:bQ ca sa xa ga D)(lD:bQ cb sb xb gb D)(HO:KW 159 #[J f,Y O a,Y O b] (J r))(w:World):
  QR 74 #[J f,Y O a,Y O b,U s] w (.tuple #[J r,J 0]):=by
 exact Kz
def aFr(f a b ca sa xa ga cb sb xb gb fl:Int)(s qa qb:Bool)(hq:qa=T\/qa=D/\qb=T)(t4 t5:Bool)(e4:(ca==4)=t4)(e5:(cb==4)=t5)(hfl:fl=if s||t4||t5 then 1 else 0)(Oq:dZ f a T)(QN:dZ f b T)(eH:bP f a ca sa xa ga)(fP:bP f b cb sb xb gb)(jk:bQ ca sa xa ga qa)(lD:bQ cb sb xb gb qb)(w:World):
  QR 74 #[J f,Y O a,Y O b,U s] w (.tuple #[J 2,J fl]):=by
 rcases hq with rfl|⟨rfl,rfl⟩
 all_goals
  cases s
  .cases t4
   .cases t5
    .subst hfl;exact Kz
    .subst hfl;exact Kz
   .obtain rfl:fl=1:=by rw[hfl];simp
    exact Kz
  .obtain rfl:fl=1:=by rw[hfl];simp
   exact Kz
def Ls(f a b z fl:Int)(l:Bool)(Oq:dZ f a D)(HL:oJ f z fl)(w:World):
  Oi f a b l w z fl:=by
 go_enter func158,ntmps158;go_wp2_with (first|(go_at_call 61;first|(with_reducible refine kw (Oq.out _) ?_))|(go_at_call 136;refine ku (HL _) λw9 bM=>?_;have iQ:=bM.bG w))
 exact bW (by simp[results,Tryz.results158,go_sem,iQ])
def YU(f a b z fl:Int)(l:Bool)(Oq:dZ f a T)(QN:dZ f b D)(HL:oJ f z fl)(w:World):
  Oi f a b l w z fl:=by
 go_enter func158,ntmps158;go_wp2_with (first|(go_at_call 61;first|(with_reducible refine kw (Oq.out _) ?_)|(with_reducible refine kw (QN.out _) ?_))|(go_at_call 136;refine ku (HL _) λw9 bM=>?_;have iQ:=bM.bG w))
 exact bW (by simp[results,Tryz.results158,go_sem,iQ])
def aCh(f a b ca sa xa ga cb sb xb gb z fl:Int)(l qa qb t:Bool)(hq:qa=T\/qa=D/\qb=T)(t4 t5:Bool)(e4:(ca==4)=t4)(e5:(cb==4)=t5)(ht:(t4||t5)=t)(Oq:dZ f a T)(QN:dZ f b T)(eH:bP f a ca sa xa ga)(fP:bP f b cb sb xb gb)(jk:bQ ca sa xa ga qa)(lD:bQ cb sb xb gb qb)(HL:oU f t z fl)(w:World):
  Oi f a b l w z fl:=by
 rcases hq with rfl|⟨rfl,rfl⟩
 all_goals
  cases t4
  .cases t5
   .obtain rfl:D=t:=ht;exact aEE
   .obtain rfl:T=t:=ht;exact aEE
  .obtain rfl:T=t:=by rw[<-ht];simp
   exact aEE
def aCg(f a b ca sa xa ga cb sb xb gb r:Int)(l q:Bool)(c0:(r==0)=D)(hr:decide (r<=0)=q)(z:Int)(hz:(q==l)=T/\z=a\/(q==l)=D/\z=b)(Oq:dZ f a T)(QN:dZ f b T)(eH:bP f a ca sa xa ga)(fP:bP f b cb sb xb gb)(jk:bQ ca sa xa ga D)(lD:bQ cb sb xb gb D)(HO:KW 159 #[J f,Y O a,Y O b] (J r))(w:World):
  Oi f a b l w z 0:=by
 rcases hz with⟨h,rfl⟩|⟨h,rfl⟩
 all_goals
  exact aED
def Lp(f a b ca sa xa ga cb sb xb gb r:Int)(l q:Bool)(c0:r=0)(cs:(sa==sb)=T)(hr:T=q)(z:Int)(hz:(q==l)=T/\z=a\/(q==l)=D/\z=b)(Oq:dZ f a T)(QN:dZ f b T)(eH:bP f a ca sa xa ga)(fP:bP f b cb sb xb gb)(jk:bQ ca sa xa ga D)(lD:bQ cb sb xb gb D)(HO:KW 159 #[J f,Y O a,Y O b] (J r))(w:World):
  Oi f a b l w z 0:=by
 subst c0;subst hr;rcases hz with⟨h,rfl⟩|⟨h,rfl⟩
 all_goals
  exact aED
def Vp(f a b ca sa xa ga cb sb xb gb r:Int)(l q:Bool)(c0:r=0)(cs:(sa==sb)=D)(d:Int)(hd:IntKind.i64.wrap (sb-sa)=d)(hr:decide (d<=0)=q)(z:Int)(hz:(q==l)=T/\z=a\/(q==l)=D/\z=b)(Oq:dZ f a T)(QN:dZ f b T)(eH:bP f a ca sa xa ga)(fP:bP f b cb sb xb gb)(jk:bQ ca sa xa ga D)(lD:bQ cb sb xb gb D)(HO:KW 159 #[J f,Y O a,Y O b] (J r))(w:World):
  Oi f a b l w z 0:=by
 subst c0;rcases hz with⟨h,rfl⟩|⟨h,rfl⟩
 all_goals
  exact aED
