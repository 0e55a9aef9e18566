import Derived.Test.YthoelefkjpjhfaaGreatDoorT5
import Derived.Test.YthoelefkjpjhfaaGreatDoorM3
set_option linter.all false
set_option maxRecDepth 1000000
set_option maxHeartbeats 40000000
open Option renaming none → V, some → E
open Go.Proofs.YthoelefkjpjhfaaGreatDoor renaming vI → J, vU → Y
open Go.Ending renaming returned → Z
open Go.Value renaming bool → O, tuple → X
open Go.Proofs.Tryz
namespace Go.Proofs.YthoelefkjpjhfaaGreatDoor
open Go.RowKit
attribute [local go_sem] aA dB
variable{w w' W1 wr W:World}{t s p0 A:ByteArray}{b lb m n kB o mb o1 c1 G g cb nb cap j:Nat}{u k r h e z x y K N p a M mu inv scale:Int}{v:Value}{qs ps':List ByteArray}{bF:Bool}
def aKd{P:Prop}(h:P:=by
 go_enter func14,ntmps14;go_upto_region 2 with(go_at_call 24;refine HS.out.mono ?_;rintro e w1 ⟨rfl,Pv⟩;subst Pv);clear HS;go_upto_region 3 with(fail);have hi0:(0:Int)<((n+1:Nat):Int):=om;have q1:=λob=>aZ ob q0;clear JH;go_upto_region 4 with(refine Gj rfl _ _ rfl mb rfl rfl (HL _ (HG1.out.trans (Gb.alloc (Gb.refl _) _))) ?_);clear q1 q0 hi0 HL;go_wp2_with (first|(go_at_call 76;refine(HC _ (HZ _ (by simp[go_sem]) (by simp[go_sem]) (by simp[go_sem]) (by simp[go_sem]) ((Gb.alloc (Gb.refl _) _).trans (Gb.alloc (Gb.refl _) _))) ((Gb.alloc (Gb.refl _) _).trans (Gb.alloc (Gb.refl _) _))).mono ?_;rintro e w5 ⟨rfl,Ja,hk5⟩;obtain⟨vl,⟨d0,y0,d1,y1⟩,_⟩:=Ja.ln)|(go_at_call 87;refine(HC _ (HZ _ (by simp[go_sem]) (by simp[go_sem]) (by simp[go_sem]) (by simp[go_sem]) ((Gb.alloc (Gb.refl _) _).trans (Gb.alloc (Gb.refl _) _))) ((Gb.alloc (Gb.refl _) _).trans (Gb.alloc (Gb.refl _) _))).mono ?_;rintro e w5 ⟨rfl,Ja,hk5⟩;obtain⟨vl,⟨d0,y0,d1,y1⟩,_⟩:=Ja.ln)|(go_at_call 89;refine(HC _ (HZ _ (by simp[go_sem]) (by simp[go_sem]) (by simp[go_sem]) (by simp[go_sem]) ((Gb.alloc (Gb.refl _) _).trans (Gb.alloc (Gb.refl _) _))) ((Gb.alloc (Gb.refl _) _).trans (Gb.alloc (Gb.refl _) _))).mono ?_;rintro e w5 ⟨rfl,Ja,hk5⟩;obtain⟨vl,⟨d0,y0,d1,y1⟩,_⟩:=Ja.ln)|(go_at_call 99;refine(HC _ (HZ _ (by simp[go_sem]) (by simp[go_sem]) (by simp[go_sem]) (by simp[go_sem]) ((Gb.alloc (Gb.refl _) _).trans (Gb.alloc (Gb.refl _) _))) ((Gb.alloc (Gb.refl _) _).trans (Gb.alloc (Gb.refl _) _))).mono ?_;rintro e w5 ⟨rfl,Ja,hk5⟩;obtain⟨vl,⟨d0,y0,d1,y1⟩,_⟩:=Ja.ln)|(go_at_call 29;refine(HC _ (HZ _ (by simp[go_sem]) (by simp[go_sem]) (by simp[go_sem]) (by simp[go_sem]) ((Gb.alloc (Gb.refl _) _).trans (Gb.alloc (Gb.refl _) _))) ((Gb.alloc (Gb.refl _) _).trans (Gb.alloc (Gb.refl _) _))).mono ?_;rintro e w5 ⟨rfl,Ja,hk5⟩;obtain⟨vl,⟨d0,y0,d1,y1⟩,_⟩:=Ja.ln)|(go_at_call 35;refine(HC _ (HZ _ (by simp[go_sem]) (by simp[go_sem]) (by simp[go_sem]) (by simp[go_sem]) ((Gb.alloc (Gb.refl _) _).trans (Gb.alloc (Gb.refl _) _))) ((Gb.alloc (Gb.refl _) _).trans (Gb.alloc (Gb.refl _) _))).mono ?_;rintro e w5 ⟨rfl,Ja,hk5⟩;obtain⟨vl,⟨d0,y0,d1,y1⟩,_⟩:=Ja.ln)|(go_at_call 36;refine(HC _ (HZ _ (by simp[go_sem]) (by simp[go_sem]) (by simp[go_sem]) (by simp[go_sem]) ((Gb.alloc (Gb.refl _) _).trans (Gb.alloc (Gb.refl _) _))) ((Gb.alloc (Gb.refl _) _).trans (Gb.alloc (Gb.refl _) _))).mono ?_;rintro e w5 ⟨rfl,Ja,hk5⟩;obtain⟨vl,⟨d0,y0,d1,y1⟩,_⟩:=Ja.ln)|(go_at_call 37;refine(HC _ (HZ _ (by simp[go_sem]) (by simp[go_sem]) (by simp[go_sem]) (by simp[go_sem]) ((Gb.alloc (Gb.refl _) _).trans (Gb.alloc (Gb.refl _) _))) ((Gb.alloc (Gb.refl _) _).trans (Gb.alloc (Gb.refl _) _))).mono ?_;rintro e w5 ⟨rfl,Ja,hk5⟩;obtain⟨vl,⟨d0,y0,d1,y1⟩,_⟩:=Ja.ln)|(go_at_call 42;refine(HC _ (HZ _ (by simp[go_sem]) (by simp[go_sem]) (by simp[go_sem]) (by simp[go_sem]) ((Gb.alloc (Gb.refl _) _).trans (Gb.alloc (Gb.refl _) _))) ((Gb.alloc (Gb.refl _) _).trans (Gb.alloc (Gb.refl _) _))).mono ?_;rintro e w5 ⟨rfl,Ja,hk5⟩;obtain⟨vl,⟨d0,y0,d1,y1⟩,_⟩:=Ja.ln)|(go_at_call 43;refine(HC _ (HZ _ (by simp[go_sem]) (by simp[go_sem]) (by simp[go_sem]) (by simp[go_sem]) ((Gb.alloc (Gb.refl _) _).trans (Gb.alloc (Gb.refl _) _))) ((Gb.alloc (Gb.refl _) _).trans (Gb.alloc (Gb.refl _) _))).mono ?_;rintro e w5 ⟨rfl,Ja,hk5⟩;obtain⟨vl,⟨d0,y0,d1,y1⟩,_⟩:=Ja.ln))
 go_returns;exact⟨rfl,Ja.gb⟩):P:=h
def aQx(HS:SpI w W1 s n)(rJ:Gb w W1)(q0:aA W1 w.heap.size 0 (.string p0))(JH:∀w',(Instr.slice 26 (aC w.heap.size (n+1) (n+1)) (E (J 1)) V V).run Tryz.prog w'=.ok (.slice (E ⟨w.heap.size,o1,V⟩) n c1) w')(hG:G=76\/G=87\/G=89\/G=99)(HL:LkI w mb p0 (X #[.agg #[J p,fnc G #[.pointer (E ⟨cb,0,V⟩)]],O true]))(hp:(p != 0)=false\/(p != 0)=true/\(p != (n:Int))=false)(hq:qs.length=n)(HR:Hid (oQ W1 (.slice (E ⟨w.heap.size,o1,V⟩) n c1) n (λj=>qs.getD j default)))(hz:W1.heap.size=w.heap.size+1)(HC:Hid (∀w1,LS w w1 W1.heap.size qs false->Gb W1 w1->Calls Tryz.prog G #[lp W1.heap.size,.pointer (E ⟨cb,0,V⟩)] w1 λe w'=>e=Z (.string A)/\LS w w' W1.heap.size ps' bF/\Lk W1.heap.size w1 w')):QB 14 #[.map (E mb),.string s] w (.string (if bF then je else A)):=by
 have HG1:Hid (Gb w W1):=rJ;clear rJ;have HZ:Hid (∀w1,aA w1 W1.heap.size 0 (.slice (E ⟨w.heap.size,o1,V⟩) n c1)->dB w1 W1.heap.size 0->aA w1 W1.heap.size 1 (O false)->dB w1 W1.heap.size 1->Gb W1 w1->LS w w1 W1.heap.size qs false):=λw1 d0 y0 d1 y1 hg=>⟨HG1.out.trans hg,om,_,⟨d0,y0,d1,y1⟩,by rw[hq];exact HR.out.gb hg,λb o n c e=>by
  simp only[Value.slice.injEq,Option.some.injEq,Addr.mk.injEq,and_true]at e;omega⟩
 clear HR hq hz;rcases hG with rfl|rfl|rfl|rfl<;>cases bF<;>rcases hp with hp|⟨hp,hpn⟩
 all_goals
  exact aKd
def aQv(HS:SpI w W1 s n)(rJ:Gb w W1)(q0:aA W1 w.heap.size 0 (.string p0))(JH:∀w',(Instr.slice 26 (aC w.heap.size (n+1) (n+1)) (E (J 1)) V V).run Tryz.prog w'=.ok (.slice (E ⟨w.heap.size,o1,V⟩) n c1) w')(hG:G=29\/G=35\/G=36\/G=37\/G=42\/G=43)(HL:LkI w mb p0 (X #[.agg #[J p,fnc G #[]],O true]))(hp:(p != 0)=false\/(p != 0)=true/\(p != (n:Int))=false)(hq:qs.length=n)(HR:Hid (oQ W1 (.slice (E ⟨w.heap.size,o1,V⟩) n c1) n (λj=>qs.getD j default)))(hz:W1.heap.size=w.heap.size+1)(HC:Hid (∀w1,LS w w1 W1.heap.size qs false->Gb W1 w1->Calls Tryz.prog G #[lp W1.heap.size] w1 λe w'=>e=Z (.string A)/\LS w w' W1.heap.size ps' bF/\Lk W1.heap.size w1 w')):QB 14 #[.map (E mb),.string s] w (.string (if bF then je else A)):=by
 have HG1:Hid (Gb w W1):=rJ;clear rJ;have HZ:Hid (∀w1,aA w1 W1.heap.size 0 (.slice (E ⟨w.heap.size,o1,V⟩) n c1)->dB w1 W1.heap.size 0->aA w1 W1.heap.size 1 (O false)->dB w1 W1.heap.size 1->Gb W1 w1->LS w w1 W1.heap.size qs false):=λw1 d0 y0 d1 y1 hg=>⟨HG1.out.trans hg,om,_,⟨d0,y0,d1,y1⟩,by rw[hq];exact HR.out.gb hg,λb o n c e=>by
  simp only[Value.slice.injEq,Option.some.injEq,Addr.mk.injEq,and_true]at e;omega⟩
 clear HR hq hz;rcases hG with rfl|rfl|rfl|rfl|rfl|rfl<;>cases bF<;>rcases hp with hp|⟨hp,hpn⟩
 all_goals
  exact aKd
def aPi(a b:UInt8):aQ 16 (tx [a,b])=if nG a.toNat<0\/nG b.toNat<0 then V else E (nG a.toNat*16+nG b.toNat):=by
 have h1:=FV a.toNat;have h2:=FV b.toNat;unfold aQ;rw[if_neg (by rw[eF];simp),show(tx [a,b]).data.toList =[a,b] from rfl,kH];by_cases ca:nG a.toNat<0
 .rw[if_pos (.inl ca),if_pos (.inl ca)]
 .rw[if_neg om,kH];by_cases cb:nG b.toNat<0
  .rw[if_pos (.inl cb),if_pos (.inr cb)]
  .rw[if_neg om,if_neg om,kH]
   congr 1
   omega
def aAh:∀l:List UInt8,uj l=if FU l then E (Ug l)else V
 |[]=>rfl
 |[_]=>rfl
 |a::b::l=>by
  have ih:=aAh l;rw[uj,FU,Ug,aPi,ih];unfold mQ;rw[aPi];by_cases c:nG a.toNat<0\/nG b.toNat<0
  .simp[c]
  .rw[if_neg c,if_neg c];cases FU l<;>simp
def uO(a b:List UInt8):tx (a++b)=tx a++tx b:=by
 apply ByteArray.ext;simp[ByteArray.data_append]
def aF7(a b:Int):numsL [a,b]=tx (Lib.itoa a)++tx [32]++tx (Lib.itoa b):=by
 rw[<-uO,<-uO];unfold numsL lJ;simp[Lib.join,List.intercalate,List.range_succ]
def aF6(a b c d:Int):numsL [a,b,c,d]=tx (Lib.itoa a)++tx [32]++tx (Lib.itoa b)++tx [32]++tx (Lib.itoa c)++tx [32]++tx (Lib.itoa d):=by
 rw[<-uO,<-uO,<-uO,<-uO,<-uO,<-uO];unfold numsL lJ;simp[Lib.join,List.intercalate,List.range_succ]
def okS(s:ByteArray):Bool:=decide (s.size<=5)&&rX s
def Sm(s:ByteArray):okS s=true↔s.size<=5/\∃m,s=tx (Lib.itoa m):=by
 unfold okS;rw[Bool.and_eq_true,decide_eq_true_iff];refine⟨λh=>⟨h.1,_,(V7 s).1 h.2⟩,λh=>⟨h.1,(V7 s).2 h.2 h.1⟩⟩
def aGv{b:Int}(h:tx (Lib.itoa a)=tx (Lib.itoa b)):a=b:=by
 obtain⟨a1,a2,_⟩:=canon (s:=tx (Lib.itoa a)) (m:=a) rfl;obtain⟨b1,b2,_⟩:=canon (s:=tx (Lib.itoa a)) (m:=b) h;rw[a1]at b1;have:=Option.some.inj b1;omega
def VZ(s:ByteArray)(hs:s.size<=1048576)(w:World):CT 52 #[.string s] w λe w'=>(∃x,e=Z (X #[J x,O (okS s)])/\(okS s=true->x=nV s))/\Gr w w':=(aI2 s hs w).mono λe w' ⟨hg,n,ok,he,h1,h2,_,_⟩=>by
 have e1:ok=okS s:=by
  by_cases c:okS s=true
  .rw[c];exact h1.2 ((Sm s).1 c)
  .have c':okS s=false:=by simpa using c
   rw[c'];cases ok with
   |false=>rfl
   |true=>exact absurd ((Sm s).2 (h1.1 rfl)) c
 refine⟨⟨n,by rw[<-e1];exact he,λc=>?_⟩,hg⟩;have hn:=h2 (by rw[e1];exact c);have hm:=(V7 s).1 (by unfold okS at c;rw[Bool.and_eq_true]at c;exact c.2);exact aGv (hn.symm.trans hm)
def aAG{P:Prop}(h:P:=by
 have HNj:=HN j fF;obtain⟨t,ht⟩:=dK (g j);obtain⟨z,hzv⟩:=dK (nV (g j));have e0:Hid ((λq=>nV (g q)) (j*1+0)=z):=by show _=_;rw[<-hzv,Nat.mul_one,Nat.add_zero]
 rw[hzv,ht]at HNj;rw[ht]at x0;clear ht hzv;go_wp2_with (first|(go_at_call 52;refine ku (HNj _) λw2 aB=>?_)|(at_builtin;refine lG rfl _ _ 80 rfl 3 (J 0) 1 8 .i64 Tryz.underlying80 aM9 rfl de de w.heap.size j 1 (λq=>nV (g q)) _ w2.heap.size rfl (BH _ kg) rfl (Ag (g:=λq=>nV (g q)) (m:=j*1) (by simp[go_sem]) e0.out) om om (by have:=aB.size;rw[World.size_alloc];omega) ?_;intro v' w3 oD qm _ _))
 go_roundw
 case rel=>exact⟨j+1,om,by go_num,oD,Gb.below kg qm (Nat.le_refl _)⟩
 case measure=>simp[intOf]<;>omega):P:=h
def aM9:(Tryz.prog.info? 3).map (λi=>(i.zero,i.size,i.bytes))=E (E (J 0),1,8):=by kernel_rfl
def DF(hs:s.size<=1048576)(h:okS s=true):KR 52 #[.string s] (X #[J (nV s),O true]):=λw=>(VZ s hs w).mono λe w' ⟨⟨x,e1,e2⟩,hg⟩=>⟨by rw[e1,e2 h,h],hg⟩
def VL{g:Nat->ByteArray}(hr:oQ w v n g)(hn:n<=1000000)(hz:∀j,j<n->(g j).size <=1048576)(m:Nat)(hm:m<n)(Bc:∀j,j<m->okS (g j)=true)(CP:okS (g m)=false):QB 19 #[v] w (.string (tx [114,101,106,101,99,116,101,100])):=by
 obtain⟨a,cap,rfl,_,_,aW⟩:=hr;obtain⟨b,o,rfl,hc⟩:=aW om;have HC:Hid (∀j,j<n->aA w b (o+j) (.string (g j))):=hc;have HN:Hid (∀j,j<m->KR 52 #[.string (g j)] (X #[J (nV (g j)),O true])):=λj hj=>DF (hz j om) (Bc j hj);have HM:Hid (∀w,CT 52 #[.string (g m)] w λe w'=>∃x,e=Z (X #[J x,O false])/\Gr w w'):=λw=>(VZ (g m) (hz m hm) w).mono λe w' ⟨⟨x,e1,_⟩,hg⟩=>⟨x,by rw[e1,CP],hg⟩;clear hc aW hz Bc CP;go_enter func19,ntmps19;go_wp2;go_loopw [3,4] (λs i wr=>∃j:Nat,j<=m/\i=J (j:Int)/\Ow wr w.heap.size 3 1 .i64 s j (λq=>nV (g q))/\Gb w wr) (λ_ i _=>n-(intOf i).toNat)
 case atStart=>exact⟨0,Nat.zero_le _,rfl,Ow.lit w _ _ _ _,kg⟩
 case round=>
  obtain⟨j,hj,rfl,iU,dH⟩:=hrel;have uF:=dH.size;have jc:(j:Int)<(n:Int):=om;have x0:aA wr b (o+j) (.string (g j)):=dH.old (HC j om);have BH:Hid (∀w2,Gb wr w2->Ow w2 w.heap.size 3 1 .i64 _ j (λq=>nV (g q))):=λw2 hg=>iU.gb hg;clear iU;by_cases fF:j<m
  .exact aAG
  .obtain rfl:j=m:=om;generalize g j=t at*
   go_wp2_with (go_at_call 52;refine(HM _).mono ?_;rintro e w2 ⟨x,rfl,aB⟩);go_returns;exact⟨rfl,dH.trans aB.gb⟩
def Dz{g:Nat->ByteArray}(hr:oQ w v n g)(hn:n<=1000000)(hz:∀j,j<n->(g j).size <=1048576)(Bc:∀j,j<n->okS (g j)=true)(hK:nV (g 0)=K)(hN0:0<=N)(hN1:N<=64)(aNc:n=0\/0<n/\K<1\/0<n/\¬K<1/\6<K\/0<n/\¬K<1/\¬6<K/\KW 46 #[J K] (J N)/\((n:Int) != 1+2*N)=true):QB 19 #[v] w (.string (tx [114,101,106,101,99,116,101,100])):=by
 obtain⟨a,cap,rfl,_,_,aW⟩:=hr;have HC:Hid (∀j,j<n->∃b o,a=E ⟨b,o,V⟩/\aA w b (o+j) (.string (g j))):=λj hj=>by
  obtain⟨b,o,e,hc⟩:=aW om;exact⟨b,o,e,hc j hj⟩
 have HN:Hid (∀j,j<n->KR 52 #[.string (g j)] (X #[J (nV (g j)),O true])):=λj hj=>DF (hz j om) (Bc j hj);have HK:Hid (nV (g 0)=K):=hK;have u1:IntKind.i64.wrap (2*N)=2*N:=wi;have u2:IntKind.i64.wrap (1+2*N)=1+2*N:=wi;clear aW hz Bc hK;go_enter func19,ntmps19;go_wp2;go_loopw [3,4] (λs i wr=>∃j:Nat,j<=n/\i=J (j:Int)/\Ow wr w.heap.size 3 1 .i64 s j (λq=>nV (g q))/\Gb w wr) (λ_ i _=>n-(intOf i).toNat)
 case atStart=>exact⟨0,Nat.zero_le _,rfl,Ow.lit w _ _ _ _,kg⟩
 case round=>
  obtain⟨j,hj,rfl,iU,dH⟩:=hrel;have uF:=dH.size;by_cases fF:j<n
  .have jc:(j:Int)<(n:Int):=om;obtain⟨b,o,rfl,hx⟩:=HC j fF;have x0:aA wr b (o+j) (.string (g j)):=dH.old hx;have BH:Hid (∀w2,Gb wr w2->Ow w2 w.heap.size 3 1 .i64 _ j (λq=>nV (g q))):=λw2 hg=>iU.gb hg;clear iU aNc hx;exact aAG
  .obtain rfl:j=n:=om;have jc:¬(j:Int)<(j:Int):=om;rcases Nat.eq_zero_or_pos j with rfl|hp
   .obtain⟨a',cap',rfl,_⟩:=iU.len;clear iU aNc HN HC;go_wp2;go_returns;exact⟨rfl,dH⟩
   .obtain⟨b',cap',rfl,_,_,_,_,ND⟩:=iU.at hp;have x0:=(ND 0 om).1;rw[HK.out]at x0;have j0:((j:Int)==0)=false:=beq_false_of_ne om;have j1:(0:Int)<(j:Int):=om;clear iU ND HN HC;rcases aNc with c|⟨_,c⟩|⟨_,c,c2⟩|⟨_,c,c2,HZ,c3⟩
    .omega
    all_goals
     go_wp2_with (go_at_call 46;refine kw (HZ _) ?_);go_returns;exact⟨rfl,dH⟩
def TK:Tryz.prog.elem 80=3:=by kernel_rfl
def PY{g:Nat->Int}(n h:Nat)(M:Int)(hM:M=(h:Int)+1)(hn:n=2*h+1)(h1:1<=h)(yI:n<=cap)(w_:cap<=maxLen)(hc:∀j,j<n->aA wr nb j (J (g j))):∃v1 v2,(∀w,(Instr.slice 80 (aC nb n cap) (E (J 1)) (E (J M)) V).run Tryz.prog w=.ok v1 w)/\(∀w,(Instr.slice 80 (aC nb n cap) (E (J M)) V V).run Tryz.prog w=.ok v2 w)/\iD wr v1 h (λj=>g (1+j))/\iD wr v2 h (λj=>g (1+h+j)):=by
 have z:=Tryz.sizeOf3;subst hM;have e1:((h:Int)+1).toNat =h+1:=om;refine⟨.slice (E ⟨nb,1,V⟩) h (cap-1),.slice (E ⟨nb,h+1,V⟩) h (cap-(h+1)),λw=>?_,λw=>?_,?_,?_⟩
 .rw[run_slice_lh (P:=Tryz.prog) w 80 _ n cap (by rw[TK];exact Tryz.underlying80) .i64 .i64 1 ((h:Int)+1) om om (by omega)];have c:¬cap=1:=om;simp[sliced,TK,z,Addr.add,e1,c]
 .rw[run_slice_l (P:=Tryz.prog) w 80 _ n cap (by rw[TK];exact Tryz.underlying80) .i64 ((h:Int)+1) om (by omega)];have c:¬cap=h+1:=om;have c2:n-(h+1)=h:=om;simp[sliced,TK,z,Addr.add,e1,c,c2]
 .exact⟨_,_,rfl,om,om,λ_=>⟨nb,1,rfl,λj hj=>hc _ om⟩⟩
 .exact⟨_,_,rfl,om,om,λ_=>⟨nb,h+1,rfl,λj hj=>(hc _ om).trans (by show E (Value.int .i64 (g (h+1+j)))=E (Value.int .i64 (g (1+h+j)));rw[Nat.add_comm h 1])⟩⟩
def aFR{g:Nat->ByteArray}(hr:oQ w v n g)(hn:n<=1000000)(hz:∀j,j<n->(g j).size <=1048576)(Bc:∀j,j<n->okS (g j)=true){h:Nat}(hK:nV (g 0)=K)(HZ:KW 46 #[J K] (J N))(hN:N=(h:Int))(hM:M=(h:Int)+1)(h1:1<=h)(h64:h<=64)(k1:¬K<1)(k6:¬6<K)(hnh:n=2*h+1)(HP:Hid (∀w' v1 v2,iD w' v1 h (λj=>nV (g (1+j)))->iD w' v2 h (λj=>nV (g (1+h+j)))->CT 53 #[J K,v1,v2] w' λe aT=>∃v,e=Z (X #[v,O false])/\Gb w' aT)):QB 19 #[v] w (.string (tx [114,101,106,101,99,116,101,100])):=by
 obtain⟨a,cap,rfl,_,_,aW⟩:=hr;have HC:Hid (∀j,j<n->∃b o,a=E ⟨b,o,V⟩/\aA w b (o+j) (.string (g j))):=λj hj=>by
  obtain⟨b,o,e,hc⟩:=aW om;exact⟨b,o,e,hc j hj⟩
 have HN:Hid (∀j,j<n->KR 52 #[.string (g j)] (X #[J (nV (g j)),O true])):=λj hj=>DF (hz j om) (Bc j hj);have HK:Hid (nV (g 0)=K):=hK;have u1:IntKind.i64.wrap (2*N)=2*N:=wi;have u2:IntKind.i64.wrap (1+2*N)=1+2*N:=wi;have u3:IntKind.i64.wrap (N+1)=M:=wi;have HNM:Hid (N=(h:Int)/\M=(h:Int)+1):=⟨hN,hM⟩;have u4:((n:Int) != 1+2*N)=false:=by rw[bne_eq_false_iff_eq];omega
 have HNH:Hid (n=2*h+1):=hnh;clear hN hM hnh;clear aW hz Bc hK;go_enter func19,ntmps19;go_wp2;go_loopw [3,4] (λs i wr=>∃j:Nat,j<=n/\i=J (j:Int)/\Ow wr w.heap.size 3 1 .i64 s j (λq=>nV (g q))/\Gb w wr) (λ_ i _=>n-(intOf i).toNat)
 case atStart=>exact⟨0,Nat.zero_le _,rfl,Ow.lit w _ _ _ _,kg⟩
 case round=>
  obtain⟨j,hj,rfl,iU,dH⟩:=hrel;have uF:=dH.size;by_cases fF:j<n
  .have jc:(j:Int)<(n:Int):=om;obtain⟨b,o,rfl,hx⟩:=HC j fF;have x0:aA wr b (o+j) (.string (g j)):=dH.old hx;have BH:Hid (∀w2,Gb wr w2->Ow w2 w.heap.size 3 1 .i64 _ j (λq=>nV (g q))):=λw2 hg=>iU.gb hg;clear iU HZ HP hx;exact aAG
  .obtain rfl:j=n:=om;have jc:¬(j:Int)<(j:Int):=om;have hnh:=HNH.out;obtain⟨b',cap',rfl,_,_,yI,w_,ND⟩:=iU.at om;have x0:=(ND 0 om).1;rw[HK.out]at x0;obtain⟨v1,v2,s1,s2,tK,qU⟩:=PY (wr:=wr) (nb:=b') (g:=λq=>nV (g q)) (cap:=cap') j h M HNM.out.2 hnh h1 yI w_ (λq hq=>(ND q om).1);have HR1:Hid (iD wr v1 h (λq=>nV (g (1+q)))):=tK;have HR2:Hid (iD wr v2 h (λq=>nV (g (1+h+q)))):=qU;have j0:((j:Int)==0)=false:=beq_false_of_ne om;have j1:(0:Int)<(j:Int):=om;clear iU ND HN HC tK qU hnh h1 h64 yI w_;go_wp2_with (go_at_call 46;refine kw (HZ _) ?_);go_region_held3 (λw'=>aA w' b' 0 (J K))((first|(with_reducible assumption)|exact kb))((go_at_call 53;refine(HP _ _ _ (HR1.out.gb kg) (HR2.out.gb kg)).mono ?_;rintro e w2 ⟨v,rfl,aB⟩))
   all_goals
    go_wp2;go_returns;exact⟨rfl,dH.trans kg⟩
def Qo(a:List UInt8):∀l:List (List UInt8),l≠[]->Lib.join (l++[a]) [32]=Lib.join l [32]++[32]++a
 |[],h=>absurd rfl h
 |[x],_=>by simp[Lib.join,List.intercalate]
 |x::y::l,_=>by
  have ih:=Qo a (y::l) (by simp);have e:∀z,Lib.join (x::y::z) [32]=x++([32]++Lib.join (y::z) [32]):=λz=>by simp[Lib.join,List.intercalate]
  rw[show x::y::l++[a]=x::y::(l++[a]) from rfl,e,e,show y::(l++[a])=y::l++[a] from rfl,ih];simp
def aMT(g:Nat->Int):lJ 1 g=tx (Lib.itoa (g 0)):=by
 unfold lJ;simp[Lib.join,List.intercalate]
def aCV(g:Nat->Int)(hj:1<=j):lJ (j+1) g=lJ j g++tx [32]++tx (Lib.itoa (g j)):=by
 unfold lJ;rw[List.range_succ,List.map_append,List.map_cons,List.map_nil,Qo _ _ jl,uO,uO]
def P_(n:Nat)(g:Nat->Int)(hg:∀j,j<n->-9223372036854775808<=g j/\g j<=9223372036854775807):(lJ n g).size <=n*21:=by
 unfold lJ;rw[eF];have:=Nc 20 ((List.range n).map λj=>Lib.itoa (g j)) (λx hx=>by
  obtain⟨j,hj,rfl⟩:=List.mem_map.1 hx;have hj:=List.mem_range.1 hj;exact iI (g j) (hg j hj).1 (hg j hj).2)
 rwa [List.length_map,List.length_range]at this
def aFQ{g:Nat->ByteArray}(hr:oQ w v n g)(hn:n<=1000000)(hz:∀j,j<n->(g j).size <=1048576)(Bc:∀j,j<n->okS (g j)=true){h:Nat}(hK:nV (g 0)=K)(HZ:KW 46 #[J K] (J N))(hN:N=(h:Int))(hM:M=(h:Int)+1)(h1:1<=h)(h64:h<=64)(k1:¬K<1)(k6:¬6<K)(hnh:n=2*h+1){G:Nat->Int}(hG:∀j,j<h->-9223372036854775808<=G j/\G j<=9223372036854775807)(HP:Hid (∀w' v1 v2,iD w' v1 h (λj=>nV (g (1+j)))->iD w' v2 h (λj=>nV (g (1+h+j)))->CT 53 #[J K,v1,v2] w' λe aT=>∃v,e=Z (X #[v,O true])/\Ow aT w'.heap.size 3 1 .i64 v h G/\Gb w' aT)):QB 19 #[v] w (.string (lJ h G)):=by
 have HS:Hid (∀j,j<h->KR 45 #[J (G j)] (.string (tx (Lib.itoa (G j))))):=λj hj w=>uP (G j) (hG j hj).1 (hG j hj).2 w;have HG:Hid (∀j,j<h->-9223372036854775808<=G j/\G j<=9223372036854775807):=hG;have H1:Hid (1<=h/\h<=64):=⟨h1,h64⟩;clear hG;obtain⟨a,cap,rfl,_,_,aW⟩:=hr;have HC:Hid (∀j,j<n->∃b o,a=E ⟨b,o,V⟩/\aA w b (o+j) (.string (g j))):=λj hj=>by
  obtain⟨b,o,e,hc⟩:=aW om;exact⟨b,o,e,hc j hj⟩
 have HN:Hid (∀j,j<n->KR 52 #[.string (g j)] (X #[J (nV (g j)),O true])):=λj hj=>DF (hz j om) (Bc j hj);have HK:Hid (nV (g 0)=K):=hK;have u1:IntKind.i64.wrap (2*N)=2*N:=wi;have u2:IntKind.i64.wrap (1+2*N)=1+2*N:=wi;have u3:IntKind.i64.wrap (N+1)=M:=wi;have HNM:Hid (N=(h:Int)/\M=(h:Int)+1):=⟨hN,hM⟩;have u4:((n:Int) != 1+2*N)=false:=by rw[bne_eq_false_iff_eq];omega
 have HNH:Hid (n=2*h+1):=hnh;clear hN hM hnh;clear aW hz Bc hK;go_enter func19,ntmps19;go_wp2;go_loopw [3,4] (λs i wr=>∃j:Nat,j<=n/\i=J (j:Int)/\Ow wr w.heap.size 3 1 .i64 s j (λq=>nV (g q))/\Gb w wr) (λ_ i _=>n-(intOf i).toNat)
 case atStart=>exact⟨0,Nat.zero_le _,rfl,Ow.lit w _ _ _ _,kg⟩
 case round=>
  obtain⟨j,hj,rfl,iU,dH⟩:=hrel;have uF:=dH.size;by_cases fF:j<n
  .have jc:(j:Int)<(n:Int):=om;obtain⟨b,o,rfl,hx⟩:=HC j fF;have x0:aA wr b (o+j) (.string (g j)):=dH.old hx;have BH:Hid (∀w2,Gb wr w2->Ow w2 w.heap.size 3 1 .i64 _ j (λq=>nV (g q))):=λw2 hg=>iU.gb hg;clear iU HZ HP hx HS;exact aAG
  .obtain rfl:j=n:=om;have jc:¬(j:Int)<(j:Int):=om;have hnh:=HNH.out;obtain⟨b',cap',rfl,_,_,yI,w_,ND⟩:=iU.at om;have x0:=(ND 0 om).1;rw[HK.out]at x0;obtain⟨v1,v2,s1,s2,tK,qU⟩:=PY (wr:=wr) (nb:=b') (g:=λq=>nV (g q)) (cap:=cap') j h M HNM.out.2 hnh h1 yI w_ (λq hq=>(ND q om).1);have HR1:Hid (iD wr v1 h (λq=>nV (g (1+q)))):=tK;have HR2:Hid (iD wr v2 h (λq=>nV (g (1+h+q)))):=qU;have j0:((j:Int)==0)=false:=beq_false_of_ne om;have j1:(0:Int)<(j:Int):=om;clear iU ND HN HC tK qU hnh h1 h64 yI w_;go_wp2_with (go_at_call 46;refine kw (HZ _) ?_);go_region_held3 (λw'=>aA w' b' 0 (J K))((first|(with_reducible assumption)|exact kb))((go_at_call 53;refine(HP _ _ _ (HR1.out.gb kg) (HR2.out.gb kg)).mono ?_;rintro e w2 ⟨v,rfl,Oy,aB⟩;obtain⟨b2,cap2,rfl,_,_,d1,d2,aPY⟩:=Oy.at H1.out.1;have HY:Hid (∀q,q<h->aA w2 b2 q (J (G q))):=λq hq=>(aPY q om).1;clear aPY))
   all_goals
    have y0:=HY 0 H1.out.1;have HS0:=HS 0 H1.out.1;have qV:=HG 0 H1.out.1;have e1:Hid (tx (Lib.itoa (G 0))=lJ 1 G):=(aMT G).symm;have l1:(0:Int)<(h:Int):=by have:=H1.out.1;omega
    generalize lF:tx (Lib.itoa (G 0))=t0 at*
    generalize hg0:G 0=z0 at*
    clear hg0 qV;go_wp2_with (go_at_call 45;refine ku (HS0 _) λw3 aK=>?_);have H2:Hid (Gb w w3):=dH.trans kg;have HY3:Hid (∀q,q<h->aA w3 b2 q (J (G q))):=λq hq=>aK.old (HY q hq);clear HY HS0 y0 x0 HZ HP HR1 HR2 s1 s2 aK lF;go_loopw [10,11] (λs i wr'=>∃q:Nat,1<=q/\q<=h/\s=.string (lJ q G)/\i=J (q:Int)/\Gb w3 wr') (λ_ i _=>h-(intOf i).toNat)
    case atStart=>exact⟨1,Nat.le_refl _,H1.out.1,by rw[e1.out],rfl,kg⟩
    case round=>
     obtain⟨q,hq1,hqh,rfl,rfl,wV⟩:=hrel;have hn:=HNM.out.1;by_cases fF:q<h
     .have l2:(q:Int)<N:=om;have l3:(q:Int)<(h:Int):=om;have y1:=wV.old (HY3 q fF);have HSq:=HS q fF;have z1:=P_ q G (λj hj=>HG j om);have z2:=iI (G q) (HG q fF).1 (HG q fF).2;have h64:=H1.out.2;rw[<-eF]at z2;have e2:Hid (lJ q G++tx [32]++tx (Lib.itoa (G q))=lJ (q+1) G):=(aCV G hq1).symm;generalize tx (Lib.itoa (G q))=t2 at*
      generalize G q=z at*
      generalize lJ q G=t1 at*
      have c1:¬9223372036854775807<t1.size+1:=om;have c2:t1.size+1<=9223372036854775807:=om;have c3:¬9223372036854775807<t1.size+1+t2.size:=om;have c4:t1.size+1+t2.size<=9223372036854775807:=om;have hq6:q<64:=om;clear hn z1 z2 h64 e1;go_wp2_with (go_at_call 45;refine ku (HSq _) λw4 aV=>?_);go_roundw
      case rel=>exact⟨q+1,om,om,by rw[<-e2.out],by go_num,kg⟩
      case measure=>exact uz
     .obtain rfl:q=h:=om;have l2:¬(q:Int)<N:=om;clear hn e1;go_wp2;go_returns;exact⟨rfl,H2.out.trans wV⟩
def Vk(hm:Wo mu)(hi:Wo inv)(hs:Wo scale)(s:ByteArray)(hz:s.size<=1048576)(hn:¬(s.size<=20000/\isC mu inv scale=true))(hw:Fm w):
  QR 105 #[Y mu,Y inv,Y scale,.string s] w (O1 ⟨1,0,0,0⟩):=by
 have HC:Hid (∀w',Gr w w'->QR 199 #[Y mu,Y inv,Y scale] w' (O (isC mu inv scale))):=λw' hg=>Qp hm hi hs (hw.gr hg);generalize isC mu inv scale=b at*
 clear hm hi hs hw;rcases(show(20000:Int)<s.size\/(¬(20000:Int)<s.size/\b=false) by
  rcases(om:(20000:Int)<s.size\/¬(20000:Int)<s.size)with h|h
  .exact .inl h
  .refine .inr ⟨h,?_⟩;cases b
   .rfl
   .exact absurd ⟨om,rfl⟩ hn)with h|⟨h,rfl⟩
 .clear hn;go_enter func105,ntmps105;go_wp2;go_returns;exact⟨rfl,kr⟩
 .clear hn;go_enter func105,ntmps105;go_wp2_with (go_at_call 199;refine ku (HC _ kr) λw1 ak=>?_;have oM:=ak.OB w);exact bW (by simp[results,Tryz.results105,go_sem,oM])
def Tail(s:ByteArray)(k:Nat)(t:ByteArray):Prop:=t.size+17*k=s.size/\∀i,g_ t i=g_ s (17*k+i)
def Tail.next{k:Nat}(h:Tail s k t)(ht:17<=t.size):Tail s (k+1) (t.extract 17 t.size):=by
 refine⟨by rw[ByteArray.size_extract];have:=h.1;omega,λi=>?_⟩;rw[Ep _ _ _ _ (Nat.le_refl _)];split
 .rw[h.2];congr 1;omega
 .unfold g_;rw[dif_neg (by have:=h.1;omega)]
def Tail.num{k:Nat}(h:Tail s k t)(p n:Nat):num t p n=num s (17*k+p) n:=Fp n λi _=>by rw[h.2];congr 1;omega
def tU(t:ByteArray):Int:=if 17<=t.size then num t 0 8 else 0
def tC(t:ByteArray):Int:=if 17<=t.size then g_ t 8 else 0
def tV(t:ByteArray):Int:=if 17<=t.size then num t 9 8 else 0
def tL(t:ByteArray):ByteArray:=if 17<=t.size then t.extract 17 t.size else t
def Nx(lb:Nat)(t:ByteArray)(w w':World):Prop:=Gr (w.setCell ⟨lb,0,V⟩ (.string (tL t))) w'\/(tL t=t/\Gr w w')
def aGa(t:ByteArray)(lb:Nat)(hs:t.size<=1048576)(hc:aA w lb 0 (.string t))(hz:dB w lb 0):
  CT 273 #[.pointer (E ⟨lb,0,V⟩)] w λe w'=>e=Z (X #[Yx (tU t) (tC t) (tV t),O (decide (17<=t.size))])/\Nx lb t w w':=by
 unfold tU tC tV Nx tL;by_cases h:17<=t.size
 .rw[if_pos h,if_pos h,if_pos h,if_pos h,decide_eq_true h];exact(aF9 t lb h hs hc hz).mono λe w' hh=>⟨hh.1,.inl hh.2⟩
 .rw[if_neg h,if_neg h,if_neg h,if_neg h,decide_eq_false h];exact(aI6 t lb om hc).mono λe w' hh=>⟨hh.1,.inr ⟨rfl,hh.2⟩⟩
structure Md (w:World) (b kB m lb:Nat) (r h e u k:Int) (t:ByteArray):Prop where
 rs:Rs w b
 k0:aA w kB 0 (Y r)
 k1:aA w kB 1 (Y h)
 k2:aA w kB 2 (Y e)
 m0:aA w m 0 (J 2)
 m1:aA w m 1 (J 0)
 m2:aA w m 2 (J u)
 m3:aA w m 3 (J k)
 z0:dB w m 0
 z1:dB w m 1
 z2:dB w m 2
 z3:dB w m 3
 l0:aA w lb 0 (.string t)
 lz:dB w lb 0
structure On (w:World) (o:Nat) (x y z:Int):Prop where
 o0:aA w o 0 (Y x)
 o1:aA w o 1 (.int .u8 y)
 o2:aA w o 2 (Y z)
 z0:dB w o 0
 z1:dB w o 1
 z2:dB w o 2
def Rs.set(h:Rs w b)(hb:g≠b)(o:Nat)(v:Value):Rs (w.setCell ⟨g,o,V⟩ v) b:=
 ⟨aS hb h.r0,aS hb h.r1,aS hb h.r2,aS hb h.r3,bf h.y0,bf h.y1,bf h.y2,bf h.y3⟩
def Md.gr(H:Md w b kB m lb r h e u k t)(g:Gr w w'):Md w' b kB m lb r h e u k t:=
 ⟨H.rs.gb g.gb,g.old H.k0,g.old H.k1,g.old H.k2,g.old H.m0,g.old H.m1,g.old H.m2,g.old H.m3,iw g H.z0,iw g H.z1,iw g H.z2,iw g H.z3,g.old H.l0,iw g H.lz⟩
def On.gr(H:On w o x y z)(g:Gr w w'):On w' o x y z:=
 ⟨g.old H.o0,g.old H.o1,g.old H.o2,iw g H.z0,iw g H.z1,iw g H.z2⟩
def Md.off(H:Md w b kB m lb r h e u k t)(i:Nat)(v:Value)(h1:o≠b)(h2:o≠kB)(h3:o≠m)(h4:o≠lb):Md (w.setCell ⟨o,i,V⟩ v) b kB m lb r h e u k t:=
 ⟨H.rs.set h1 _ _,aS h2 H.k0,aS h2 H.k1,aS h2 H.k2,aS h3 H.m0,aS h3 H.m1,aS h3 H.m2,aS h3 H.m3,bf H.z0,bf H.z1,bf H.z2,bf H.z3,aS h4 H.l0,bf H.lz⟩
def Md.adv(H:Md w b kB m lb r h e u k t)(h1:m≠b)(h2:m≠kB)(h3:m≠lb)(u' k':Int):Md ((w.setCell ⟨m,2,V⟩ (J u')).setCell ⟨m,3,V⟩ (J k')) b kB m lb r h e u' k' t:=
 ⟨(H.rs.set h1 _ _).set h1 _ _,aS h2 (aS h2 H.k0),aS h2 (aS h2 H.k1),aS h2 (aS h2 H.k2),bI de (bI de H.m0),bI de (bI de H.m1),bI de (dn (jS H.m2)),dn (has_set (jS H.m3)),bf (bf H.z0),bf (bf H.z1),bf (bf H.z2),bf (bf H.z3),aS h3 (aS h3 H.l0),bf (bf H.lz)⟩
def Md.left(H:Md w b kB m lb r h e u k t)(h1:lb≠b)(h2:lb≠kB)(h3:lb≠m)(t':ByteArray):Md (w.setCell ⟨lb,0,V⟩ (.string t')) b kB m lb r h e u k t':=
 ⟨H.rs.set h1 _ _,aS h2 H.k0,aS h2 H.k1,aS h2 H.k2,aS h3 H.m0,aS h3 H.m1,aS h3 H.m2,aS h3 H.m3,bf H.z0,bf H.z1,bf H.z2,bf H.z3,dn (jS H.l0),bf H.lz⟩
def Md.nx(H:Md w b kB m lb r h e u k t)(h1:lb≠b)(h2:lb≠kB)(h3:lb≠m)(hn:Nx lb t w w'):Md w' b kB m lb r h e u k (tL t):=by
 rcases hn with g|⟨e1,g⟩
 .exact(H.left h1 h2 h3 _).gr g
 .rw[e1];exact H.gr g
def On.off(H:On w o x y z)(h:g≠o)(i:Nat)(v:Value):On (w.setCell ⟨g,i,V⟩ v) o x y z:=
 ⟨aS h H.o0,aS h H.o1,aS h H.o2,bf H.z0,bf H.z1,bf H.z2⟩
def On.nx(H:On w o x y z)(h:lb≠o)(hn:Nx lb t w w'):On w' o x y z:=by
 rcases hn with g|⟨_,g⟩
 .exact(H.off h _ _).gr g
 .exact H.gr g
def On.put(H:On w o x y z)(x' y' z':Int):On (((w.setCell ⟨o,0,V⟩ (Y x')).setCell ⟨o,1,V⟩ (.int .u8 y')).setCell ⟨o,2,V⟩ (Y z')) o x' y' z':=
 ⟨bI de (bI de (dn (jS H.o0))),bI de (dn (has_set (jS H.o1))),dn (has_set (has_set (jS H.o2))),bf (bf (bf H.z0)),bf (bf (bf H.z1)),bf (bf (bf H.z2))⟩
def Nx.gr(hn:Nx lb t w w')(g:Gr W w)(h:W.heap.size<=lb):Gr W w':=by
 rcases hn with k|⟨_,k⟩
 .exact(g.setCell h _).trans k
 .exact g.trans k
def Nx.size(hn:Nx lb t w w'):w.heap.size<=w'.heap.size:=by
 rcases hn with k|⟨_,k⟩
 .have:=k.size;rw[World.size_setCell]at this;exact this
 .exact k.size
def aF2(w:World)(x y z:Int):On (w.alloc (.cells #[Y x,.int .u8 y,Y z] 227)) w.heap.size x y z:=
 ⟨kb,kb,kb,kb,kb,kb⟩
def aM2(h:Rs w b)(r n e:Int)(s:ByteArray):Md (((w.alloc (.cells #[Y r,Y n,Y e] 223)).alloc (.cells #[J 2,J 0,J 0,J 0] 90)).alloc (.cells #[.string s] 9)) b w.heap.size (w.heap.size+1) (w.heap.size+1+1) r n e 0 0 s:=by
 obtain⟨r0,r1,r2,r3,y0,y1,y2,y3⟩:=h;exact⟨⟨kb,kb,kb,kb,kb,kb,kb,kb⟩,kb,kb,kb,kb,kb,kb,kb,kb,kb,kb,kb,kb,kb⟩
structure Mk7 (w:World) (m:Nat) (a z u k:Int):Prop where
 c0:aA w m 0 (J a)
 c1:aA w m 1 (J z)
 c2:aA w m 2 (J u)
 c3:aA w m 3 (J k)
 z1:dB w m 1
def Mk7.gr(H:Mk7 w m a z u k)(g:Gr w w'):Mk7 w' m a z u k:=
 ⟨g.old H.c0,g.old H.c1,g.old H.c2,g.old H.c3,iw g H.z1⟩
def Md.mk0(H:Md w b kB m lb r h e u k t):Mk7 (w.setCell ⟨m,0,V⟩ (J 0)) m 0 0 u k:=
 ⟨dn (jS H.m0),bI de H.m1,bI de H.m2,bI de H.m3,bf H.z1⟩
def aGY{x:World}(h:Gr w x)(hb:w.heap.size<=b)(v0 v1 v2 v3:Value):Gr w ((((x.setCell ⟨b,0,V⟩ v0).setCell ⟨b,1,V⟩ v1).setCell ⟨b,2,V⟩ v2).setCell ⟨b,3,V⟩ v3):=
 (((h.setCell hb _).setCell hb _).setCell hb _).setCell hb _
def RH{o:O7}(H:o.I)(HI:o.In)(hm:Wo mu)(hi:Wo inv)(hs:Wo scale)(s:ByteArray)(hz:s.size<=20000)(hn:isC mu inv scale=true)(hw:Fm w)(hT:Tl w)(hD:Dc w):
  CT 105 #[Y mu,Y inv,Y scale,.string s] w λe w'=>∃r,Tried (o.Jf mu inv scale s) (o.zAt mu s) s.size r/\e=Z (O1 r)/\Gr w w':=by
 have hf:∀(z fl:Int) (w:World),(Instr.field 100 (aP z fl) 0).run Tryz.prog w=.ok (Y z) w:=λz fl w=>by kernel_rfl
 have HC:Hid (∀w',Gr w w'->QR 199 #[Y mu,Y inv,Y scale] w' (O true)):=λw' hg=>by have:=Qp hm hi hs (hw.gr hg);rw[hn]at this;exact this
 have hrm:=HI.jW hm;have xg:=HI.sub hm hrm;have hii:=HI.mul hi hi;have EP:=HI.mul hii (Wo.c vC);have hsc:=HI.mul hs (Wo.c c63);have hsh:=HI.fix hsc;have HR:Hid (∀w',Gr w w'->CT 96 #[J 1,J 4,Y mu,O false] w' λe aT=>∃fl:Int,e=Z (aP (o.jW mu) fl)/\Gr w' aT):=λw' hg=>H.jW.out mu hm w' (hw.gr hg);have HA:Hid (∀w',Gr w w'->QR 200 #[Y mu,Y (o.jW mu)] w' (Y (o.above mu))):=λw' hg=>H.minus.out _ _ hm hrm w' (hw.gr hg);have X5:Hid (∀w',Gr w w'->QR 201 #[Y inv,Y inv] w' (Y (o.mul inv inv))):=λw' hg=>H.times.out _ _ hi hi w' (hw.gr hg);have Gf:Hid (∀w',Gr w w'->QR 201 #[Y (o.mul inv inv),Y 4602678819172646912] w' (Y (o.narrow inv))):=λw' hg=>H.times.out _ _ hii (Wo.c _) w' (hw.gr hg);have HM3:Hid (∀w',Gr w w'->QR 201 #[Y scale,Y 4890909195324358656] w' (Y (o.mul scale c63))):=λw' hg=>H.times.out _ _ hs (Wo.c _) w' (hw.gr hg);have HF:Hid (∀w',Gr w w'->QR 202 #[Y (o.mul scale c63)] w' (Y (o.shr scale))):=λw' hg=>H.fix.out _ hsc w' (hw.gr hg);have HT:Hid (∀w',Gr w w'->CT 94 #[J 1,J 2,J 1,Y (o.jW mu)] w' λe aT=>∃fl:Int,e=Z (aP (o.whole (o.jW mu)) fl)/\Gr w' aT):=λw' hg=>H.whole.out _ hm (of_decide_eq_true (Qq hn).1) w' (hw.gr hg);have HX:Hid (∀k,∀w',Gr w w'->QR 204 #[aQj (o.above mu) (o.narrow inv) (o.shr scale),Yx (num s (17*k) 8) (g_ s (17*k+8)) (num s (17*k+9) 8)] w' (X #[J (Um (jU (num s (17*k) 8)) (g_ s (17*k+8))),O (o.Jf mu inv scale s k)])):=λk w' hg=>
  aDT H HI xg EP hsh (Qa s _) (xQ s _).1 (xQ s _).2 (Qa s _) (hw.gr hg) (hT.below hg.below) (hD.below hg.below)
 have HZ:Hid (∀k,o.zAt mu s k=wrap64 (Um (jU (num s (17*k) 8)) (g_ s (17*k+8))+wrap64 (o.whole (o.jW mu)))):=λk=>rfl;have uF:¬(20000:Int)<s.size:=om;generalize o.whole (o.jW mu)=T at*
 generalize o.Jf mu inv scale s=acc at*
 generalize o.zAt mu s=zz at*
 generalize o.shr scale=sh at*
 generalize o.mul scale c63=sc at*
 generalize o.narrow inv=nw at*
 generalize o.above mu=ab at*
 generalize o.mul inv inv=ii at*
 generalize o.jW mu=rm at*
 clear H HI hn hm hi hs hw hT hD hrm xg hii EP hsc hsh;go_enter func105,ntmps105;go_upto_region 3 with(go_at_call 199;refine ku (HC _ kr) λw1 ak=>?_);go_upto_region 4 with(go_at_call 96;refine(HR _ kr).mono ?_;rintro e w2 ⟨f2,rfl,aB⟩);go_upto_region 5 with(first|(go_at_call 200;refine ku (HA _ kr) λw3 aK=>?_)|(go_at_call 201;first|(with_reducible refine ku (X5.out _ kr) λw4 aV=>?_)|(with_reducible refine ku (Gf.out _ kr) λw5 bJ=>?_)|(with_reducible refine ku (HM3.out _ kr) λw6 fK=>?_))|(go_at_call 202;refine ku (HF _ kr) λw7 ji=>?_))
 have G7:Hid (Gr (w.alloc (.cells #[J 0,J 0,J 0,J 0] 90)) w7):=(show Gr _ w7 from kr);clear ak aB aK aV bJ fK ji HC HR HA X5 Gf HM3 HF;go_upto_region 7 with(go_at_call 203;refine(aBR _ _).mono ?_;rintro e w8 ⟨rfl,ZX⟩);have hM8:=aM2 ((aFu w).gb G7.out.gb) ab nw sh s;have G8:Hid (Gr w w8):=(show Gr w w8 from by subst ZX;have:=G7.out;exact kr);have hb7:w.heap.size<w7.heap.size:=by have:=G7.out.size;simp only[World.size_alloc]at this;omega
 have hs8:w8.heap.size=w7.heap.size+1+1+1:=by subst ZX;simp only[World.size_alloc]
 rw[<-ZX]at hM8⊢
 have HM8:Hid _:=hM8;have HN8:Hid (CT 273 #[.pointer (E ⟨w7.heap.size+1+1,0,V⟩)] w8 λe w'=>e=Z (X #[Yx (tU s) (tC s) (tV s),O (decide (17<=s.size))])/\Nx (w7.heap.size+1+1) s w8 w'):=aGa s _ om hM8.l0 hM8.lz;clear hM8 ZX G7;obtain⟨b,hb⟩:=dK (w.heap.size);obtain⟨kb,hkb⟩:=dK (w7.heap.size);obtain⟨m,hm⟩:=dK (kb+1);obtain⟨lb,hlb⟩:=dK (m+1);rw[hkb]at HN8 HM8 hb7 hs8⊢
 rw[hb]at HM8 hb7⊢
 rw[hm]at HN8 HM8 hs8⊢
 rw[hlb]at HN8 HM8 hs8⊢
 go_wp2_with (go_at_call 273;refine HN8.out.mono ?_;rintro e w9 ⟨rfl,hnx⟩);have hM9:=HM8.out.nx (om:lb≠b) (om:lb≠kb) (om:lb≠m) hnx;have hG9:Gr w w9:=hnx.gr G8.out om;have hs9:=hnx.size;have HM0:Hid (Md (w9.alloc (.cells #[Y (tU s),.int .u8 (tC s),Y (tV s)] 227)) b kb m lb ab nw sh 0 0 (tL s)):=hM9.gr kr;have HO0:Hid _:=aF2 w9 (tU s) (tC s) (tV s);have HG0:Hid (Gr w (w9.alloc (.cells #[Y (tU s),.int .u8 (tC s),Y (tV s)] 227))):=(show Gr w _ from kr);clear hM9 hG9 HM8 HN8 hnx G8;go_loopw [13,14] (λs13 s14 wr=>∃(k:Nat) (t:ByteArray) (ob:Nat),Tail s k t/\lb<ob/\s13=.pointer (E ⟨ob,0,V⟩)/\s14=O (decide (17<=t.size))/\(∀j,j<k->acc j=false)/\Md wr b kb m lb ab nw sh (17*(k:Int)) k (tL t)/\On wr ob (tU t) (tC t) (tV t)/\Gr w wr) (λ_ _ wr=>s.size+17-pR wr m)
 case atStart=>exact⟨0,s,w9.heap.size,⟨om,λi=>by congr 1;omega⟩,om,rfl,rfl,λj hj=>absurd hj om,HM0.out,HO0.out,HG0.out⟩
 case round=>
  obtain⟨k,t,ob,ht,hob,rfl,rfl,ha,hM,hO,hG⟩:=hrel
  rename_i wr
  have HA:Hid (∀j,j<k->acc j=false):=ha;have HG:Hid (Gr w wr):=hG;obtain⟨u,hu⟩:=dK (17*(k:Int));rw[hu]at hM;have HMr:Hid (Md wr b kb m lb ab nw sh u k (tL t)):=hM;have HOr:Hid (On wr ob (tU t) (tC t) (tV t)):=hO;have p2:=hM.m2;have HU:Hid (pR wr m=u.toNat):=by show _=_;simp only[pR,p2]
  have uF:=ht.1;clear ha hG HM0 HO0 HG0;by_cases rG:17<=t.size
  .have hen:decide (17<=t.size)=true:=decide_eq_true rG;rw[hen];have aLR:=ht.next rG;have hL:tL t=t.extract 17 t.size:=if_pos rG;have hU:tU t=num s (17*k) 8:=(if_pos rG).trans (ht.num 0 8);have hC:tC t=g_ s (17*k+8):=(if_pos rG).trans (ht.2 8);have hV:tV t=num s (17*k+9) 8:=(if_pos rG).trans (ht.num 9 8);rw[hU,hC,hV]at HOr;have HXk:=HX k;have HZk:=HZ k;have hzn:=Yc _ (g_ s (17*k+8)) (Eu (num s (17*k) 8));have hn8:=Qa s (17*k);have hb8:=xQ s (17*k+8);have hv8:=Qa s (17*k+9);generalize Um (jU (num s (17*k) 8)) (g_ s (17*k+8))=zv at*
   generalize num s (17*k) 8=xu at*
   generalize num s (17*k+9) 8=xv at*
   generalize g_ s (17*k+8)=xc at*
   have HXX:Hid _:=HXk;have HZZ:Hid _:=HZk;have HTL:Hid (Tail s (k+1) (tL t)):=by show Tail _ _ _;rw[hL];exact aLR
   have hTs:(tL t).size <=1048576:=by have:=HTL.out.1;omega
   generalize tL t=t' at*
   have p3:=hM.m3;have z2:=hM.z2;have z3:=hM.z3;have u0:0<=u:=om;have u1:u<=20000:=om;have k1:(k:Int)<=20000:=om;clear HXk HZk HX HZ hen aLR hL hU hC hV hM hO;go_upto_region 12 with fail;obtain⟨wa,hwa⟩:=dK ((wr.setCell ⟨m,2,V⟩ (J (u+17))).setCell ⟨m,3,V⟩ (J ((k:Int)+1)));have HMa:Hid (Md wa b kb m lb ab nw sh (u+17) ((k:Int)+1) t'):=by rw[<-hwa];exact HMr.out.adv om om om _ _
   have HOa:Hid (On wa ob xu xc xv):=by rw[<-hwa];exact(HOr.out.off om _ _).off om _ _
   have HGa:Hid (Gr w wa):=by rw[<-hwa];exact(HG.out.setCell (om:w.heap.size<=m) _).setCell (om:w.heap.size<=m) _
   rw[hwa];clear hwa p2 p3 z2 z3 HMr HOr HG;have k0:=HMa.out.k0;have k1':=HMa.out.k1;have k2:=HMa.out.k2;have o0:=HOa.out.o0;have o1:=HOa.out.o1;have o2:=HOa.out.o2;go_upto_region 13 with(go_at_call 204;refine ku (HXX _ HGa.out) λwb o_=>?_);have HMb:Hid (Md wb b kb m lb ab nw sh (u+17) ((k:Int)+1) t'):=HMa.out.gr o_;have HOb:Hid (On wb ob xu xc xv):=HOa.out.gr o_;have HGb:Hid (Gr w wb):=HGa.out.trans o_;clear HMa HOa HGa k0 k1' k2 o0 o1 o2 o_ HXX;cases aAb:acc k
   .have o0:=HOb.out.o0;have o1:=HOb.out.o1;have o2:=HOb.out.o2;have Uf:=au HMb.out.l0;have HNx:Hid (∀wc,Gr wb wc->CT 273 #[.pointer (E ⟨lb,0,V⟩)] wc λe w'=>e=Z (X #[Yx (tU t') (tC t') (tV t'),O (decide (17<=t'.size))])/\Nx lb t' wc w'):=λwc hg=>aGa t' lb hTs (HMb.out.gr hg).l0 (HMb.out.gr hg).lz;have HMc:Hid (Md (wb.alloc (.cells #[Y xu,.int .u8 xc,Y xv] 227)) b kb m lb ab nw sh (u+17) ((k:Int)+1) t'):=HMb.out.gr kr;have HOc:Hid _:=aF2 wb xu xc xv;have HGc:Hid (Gr w (wb.alloc (.cells #[Y xu,.int .u8 xc,Y xv] 227))):=(show Gr w _ from by have:=HGb.out;exact kr);clear HMb HOb HT;go_wp2_with (go_at_call 273;refine(HNx _ kr).mono ?_;rintro e wd ⟨rfl,hnx⟩;have HMd:Hid _:=HMc.out.nx (om:lb≠b) (om:lb≠kb) (om:lb≠m) hnx;have HOd:Hid _:=HOc.out.nx (om:lb≠wb.heap.size) hnx;have HGd:Hid (Gr w wd):=hnx.gr HGc.out (by omega);have d0:=HOd.out.o0;have d1:=HOd.out.o1;have d2:=HOd.out.o2;have e0:=HOd.out.z0;have e1:=HOd.out.z1;have e2:=HOd.out.z2);go_roundw
    case rel=>
     refine⟨k+1,t',wb.heap.size,HTL.out,Uf,rfl,rfl,λj hj=>?_,?_,HOd.out.put _ _ _,?_⟩
     .rcases Nat.lt_or_ge j k with h|h
      .exact HA j h
      .obtain rfl:j=k:=om;exact aAb
     .rw[(om:17*((k+1:Nat):Int)=u+17)];exact((HMd.out.off 0 _ om om om om).off 1 _ om om om om).off 2 _ om om om om
     .exact((HGd.out.setCell (om:w.heap.size<=wb.heap.size) _).setCell (om:w.heap.size<=wb.heap.size) _).setCell (om:w.heap.size<=wb.heap.size) _
    case measure=>
     have h1:=HU.out;have p2:=(((HMd.out.off 0 (Y (tU t')) (om:wb.heap.size≠b) (om:wb.heap.size≠kb) (om:wb.heap.size≠m) (om:wb.heap.size≠lb)).off 1 (.int .u8 (tC t')) (om:wb.heap.size≠b) (om:wb.heap.size≠kb) (om:wb.heap.size≠m) (om:wb.heap.size≠lb)).off 2 (Y (tV t')) (om:wb.heap.size≠b) (om:wb.heap.size≠kb) (om:wb.heap.size≠m) (om:wb.heap.size≠lb)).m2;show s.size+17-pR _ m<s.size+17-pR wr m;simp only[pR]at h1⊢
     rw[p2,h1];show s.size+17-(u+17).toNat <_;omega
   .have m0:=HMb.out.m0;have y0:=HMb.out.z0;go_upto_region 15 with fail;obtain⟨wx,hwx⟩:=dK (wb.setCell ⟨m,0,V⟩ (J 0));have HK:Hid (Mk7 wx m 0 0 (u+17) ((k:Int)+1)):=by rw[<-hwx];exact HMb.out.mk0
    have HRs:Hid (Rs wx b):=by rw[<-hwx];exact HMb.out.rs.set om _ _
    have HGx:Hid (Gr w wx):=by rw[<-hwx];exact HGb.out.setCell (om:w.heap.size<=m) _
    rw[hwx];clear hwx m0 y0 HMb HOb HGb;go_upto_region 16 with(go_at_call 94;refine(HT _ HGx.out).mono ?_;rintro e wy ⟨f6,rfl,aBo⟩;have hK:=HK.out.gr aBo;have c0:=hK.c0;have c1:=hK.c1;have c2:=hK.c2;have c3:=hK.c3;have z1:=hK.z1);obtain⟨r0,r1,r2,r3,y0,y1,y2,y3⟩:=HRs.out.gb aBo.gb;have HRy:Hid (Rs wy b):=HRs.out.gb aBo.gb;have hmb:m≠b:=om;clear hK;go_wp2;have hw:zz k=wrap64 (zv+wrap64 T):=HZZ.out;rw[<-hw];obtain⟨e0,e1,e2,e3⟩:=aJD (HRy.out.set hmb 1 (J (zz k))) (J 0) (J (zz k)) (J (u+17)) (J ((k:Int)+1));refine bodyPost_ret (v:=O1 ⟨0,zz k,u+17,(k:Int)+1⟩) (by simp[results,Tryz.results105,go_sem,e0,e1,e2,e3]) rfl ⟨_,.inl ⟨k,by have:=HTL.out.1;omega,aAb,HA.out,by rw[<-hu]⟩,rfl,?_⟩;exact aGY ((HGx.out.trans aBo).setCell (om:w.heap.size<=m) _) om _ _ _ _
  .have hen:decide (17<=t.size)=false:=decide_eq_false rG;rw[hen];obtain⟨⟨r0,r1,r2,r3,y0,y1,y2,y3⟩,_,_,_,m0,m1,m2,m3,_,_,_,_,_,_⟩:=hM;clear HX HZ HT hO HOr;go_wp2;obtain⟨e0,e1,e2,e3⟩:=aJD HMr.out.rs (J 2) (J 0) (J u) (J k);refine bodyPost_ret (v:=O1 ⟨2,0,u,(k:Int)⟩) (by simp[results,Tryz.results105,go_sem,e0,e1,e2,e3]) rfl ⟨_,.inr ⟨k,om,om,HA.out,by rw[<-hu]⟩,rfl,?_⟩;exact aGY HG.out om _ _ _ _
