import Derived.Test.YtmiekgjgpmfekaaGreatDoorN6
import Derived.Test.YtmiekgjgpmfekaaGreatDoorDr
import Derived.Test.YtmiekgjgpmfekaaGreatDoorVc
import Derived.Test.YtmiekgjgpmfekaaGreatDoorT8
import Derived.Test.YtmiekgjgpmfekaaGreatDoorCards
import Derived.Test.YtmiekgjgpmfekaaGreatDoorTie
import Derived.Lib.SmallJoins
import Derived.SevenTiedAt
set_option linter.all false
set_option maxRecDepth 1000000
open Bool renaming true → V
open Go.Proofs.YtmiekgjgpmfekaaGreatDoor renaming vI → J
open Go.IntKind renaming u64 → Y
open Go.Ending renaming returned → O
open Go.Proofs.Tryz
namespace Go.Proofs.YtmiekgjgpmfekaaGreatDoor
open Go.RowKit
attribute [local go_sem] aj
def TiS(ti:Int->Int):Prop:=∀c,Wd c->Hid (∀w,CT 63 #[J 1,J 0,J 1,.int Y c] w fun e w'=>∃fl:Int,e=O (aK (ti c) fl)/\Gb w w')
def TiI(ti:Int->Int):Prop:=∀c,Wd c->Hid (∀w,Fm w->CT 37 #[J 1,J 0,J 1,.int Y c] w fun e w'=>∃fl:Int,e=O (aK (ti c) fl)/\Gr w w')
def J5(k:Int)(L M:Nat)(f g:Nat->Int):Prop:=1<=k/\k<=6/\(L=2^k.toNat/\∀i,i<L->zX (f i))/\(M=2^k.toNat/\∀i,i<M->zX (g i))
def pZ(o:Ops)(k:Nat)(f g:Nat->Int)(j:Nat):Int × Int:=o.cMul (o.tr k (fun j=>o.int (f j)) j) (o.tr k (fun j=>o.int (g j)) j)
def pF(o:Ops)(ti:Int->Int)(k:Nat)(f g:Nat->Int)(j:Nat):Int:=IntKind.i64.wrap (ti (o.bk k (pZ o k f g) j))
theorem EF{o:Ops}(HI:o.In)(k:Nat)(f g:Nat->Int)(j:Nat):mY (pZ o k f g j):=HI.cMul (HI.tr _ _ _ fun _=>HI.int _) (HI.tr _ _ _ fun _=>HI.int _)
abbrev Ba(F:Nat)(k:Int)(vf vg:Value)(w:World)(b:Bool)(n:Nat)(f:Nat->Int):Prop:=Calls Tryz.prog F #[J k,vf,vg] w fun e w'=>∃v,e=O (.tuple #[v,.bool b])/\Ow w' w.heap.size 3 1 .i64 v n f/\Gb w w'
theorem jI{w':World}{b n:Nat}{t:TypeId}{v:Value}{k:IntKind}{g:Nat->Int}(ho:Ow w' b t 1 k v n g):Rd w' k v n n g:=by have:=ho.rd;rw[Nat.mul_one]at this;exact this
theorem uJ{k:Nat}(h:k<=6):2^k<=64:=Nat.pow_le_pow_right (show 0<2 by decide) h
theorem JX{o:Ops}(H:o.S)(HI:o.In){ti:Int->Int}(HT:TiS ti)(k:Int){L M:Nat}{f g:Nat->Int}(hfit:J5 k L M f g){vf vg:Value}{w:World}(hrf:lg w vf L f)(hrg:lg w vg M g):
  Ba 30 k vf vg w V (2^k.toNat) (pF o ti k.toNat f g):=by
 obtain⟨h1,h6,⟨hL,hf⟩,hM,hg⟩:=hfit;obtain⟨n,hn⟩:∃n,n=2^k.toNat:=⟨_,rfl⟩;obtain⟨h,hh⟩:∃h,h=2^(k.toNat-1):=⟨_,rfl⟩;have CV:n<=64:=by rw[hn];exact uJ om
 have aBS:h<=64:=by rw[hh];exact uJ om
 have hn0:0<n:=by rw[hn];exact Nat.pow_pos de
 have hh0:0<h:=by rw[hh];exact Nat.pow_pos de
 have tn:tN k n=h:=by unfold tN;rw[if_pos ⟨h1,h6,hn⟩,hh]
 have bn:bN k h=n:=by unfold bN;rw[if_pos ⟨h1,h6,hh⟩,hn]
 have hwi:∀(f:Nat->Int) (j:Nat),Wd (o.int (f j)):=fun f j=>HI.int _;have hTr:∀(f:Nat->Int) (w':World) (u:Value),Rd w' Y u n n (fun j=>o.int (f j))->CT 16 #[J k,u] w' fun e w''=>∃b cap,e=O (aB b h cap)/\b<w''.heap.size/\(∀q,q<h*2->aj w'' b q (.int Y (flat (o.tr k.toNat (fun j=>o.int (f j))) q)))/\Gb w' w'':=fun f w' u hr=>by
  refine(vJ H HI k om hr (hwi f)).mono fun e w'' ⟨v,e1,e2,e3⟩=>?_;rw[tn]at e2;obtain⟨b,cap,rfl,_,c2,_,_,c3⟩:=e2.at hh0;exact⟨b,cap,e1,c2,fun q hq=>(c3 q hq).1,e3⟩
 rw[<-hn]at hL hM⊢
 rw[hL]at hrf hf;rw[hM]at hrg hg;exact GL k (n:Int) n h om om hn0 hh0 om om vf vg w (fun j=>o.int (f j)) (fun j=>o.int (g j)) (o.bk k.toNat (pZ o k.toNat f g)) (fun j=>ti (o.bk k.toNat (pZ o k.toNat f g) j)) (o.tr k.toNat (fun j=>o.int (f j))) (o.tr k.toNat (fun j=>o.int (g j))) (pZ o k.toNat f g)
  (fun w=>qc k k.toNat om om _ (by rw[hn]) w)
  (nT hrf hn0 om hf _ rfl)
  (nT hrg hn0 om hg _ rfl)
  (fun w' hg'=>(Df H (hrf.gb hg') hn0 om hf).mono fun e w'' ⟨v,e1,e2,e3⟩=>⟨v,e1,jI e2,e3⟩)
  (fun w' hg'=>(Df H (hrg.gb hg') hn0 om hg).mono fun e w'' ⟨v,e1,e2,e3⟩=>⟨v,e1,jI e2,e3⟩)
  (fun w' u hr=>hTr f w' u hr)
  (fun w' u hr=>hTr g w' u hr)
  (fun j hj w'=>Dv H HI (HI.tr k.toNat _ j (hwi f)).1 (HI.tr k.toNat _ j (hwi f)).2 (HI.tr k.toNat _ j (hwi g)).1 (HI.tr k.toNat _ j (hwi g)).2 w')
  (fun w' u hr=>by
   show Calls _ _ _ _ _;refine(aAE H HI k om hr (EF HI _ f g)).mono fun e w'' ⟨v,e1,e2,e3⟩=>?_;rw[bn]at e2;obtain⟨b,cap,rfl,_,c2,_,_,c3⟩:=e2.at hn0;exact⟨b,cap,e1,c2,fun q hq=>(c3 q om).1,e3⟩)
  (fun j hj w'=>(HT _ (HI.bk _ _ _ (EF HI _ f g))).out w')
theorem aHd(n:Nat)(hn0:0<n){L:Nat}(hL:L<=2000000)(f:Nat->Int):∃p:Bool,(p=V↔L=n/\∀i,i<L->zX (f i))/\
  (∀{v:Value} {w:World},lg w v L f->QW 76 #[v,J (n:Int)] w (.bool p)):=by
 by_cases h:L=n
 ·subst h;rcases Zn L f with hy|⟨m,hm,hlt,hbad⟩
  ·exact⟨V,by simp;exact hy,fun hr=>nT hr hn0 hL hy _ rfl⟩
  ·exact⟨false,⟨fun h=>Bool.noConfusion h,fun h=>absurd (h.2 m hm) hbad⟩,fun hr=>NW hr hL m hm hlt hbad _ rfl⟩
 ·exact⟨false,⟨fun h=>Bool.noConfusion h,fun h'=>absurd h'.1 h⟩,fun hr=>Ie hr _ om⟩
theorem aAB{k:Int}{L M:Nat}{f g:Nat->Int}(hfit:¬J5 k L M f g)(hL:L<=2000000)(hM:M<=2000000){vf vg:Value}{w:World}(hf:lg w vf L f)(hg:lg w vg M g):oK 30 k vf vg w:=by
 by_cases h:1<=k/\k<=6
 ·obtain⟨n,hn⟩:∃n,n=2^k.toNat:=⟨_,rfl⟩;have hn0:0<n:=by rw[hn];exact Nat.pow_pos de
  obtain⟨p,hp,ps⟩:=aHd n hn0 hL f;obtain⟨q,hq,qs⟩:=aHd n hn0 hM g;have hpq:p=false\/p=V/\q=false:=by
   cases p
   ·exact .inl rfl
   ·cases q
    ·exact .inr ⟨rfl,rfl⟩
    ·exact absurd ⟨h.1,h.2,by rw[<-hn];exact hp.1 rfl,by rw[<-hn];exact hq.1 rfl⟩ hfit
  have hs:KW 50 #[J k] (J (n:Int)):=fun w=>qc k k.toNat om om _ (by rw[hn]) w;rcases hpq with rfl|⟨rfl,rfl⟩
  ·exact SN k n om om vf vg w hs (ps hf)
  ·exact SL k n om om vf vg w hs (ps hf) (qs hg)
 ·exact SK k om vf vg w
set_option maxRecDepth 1000000
set_option maxHeartbeats 40000000
theorem uw{P:Prop}(h:P:=by
 rcases(show k=1\/k=2\/k=3\/k=4\/k=5\/k=6 by omega)with rfl|rfl|rfl|rfl|rfl|rfl<;>simp at hk<;>simp[hk]):P:=h
theorem uy{P:Prop}(h:P:=by
 have:=Fv H HI k.toNat om om hw;rw[Int.toNat_of_nonneg (by omega)]at this;exact this.mono fun e w' ⟨v,e1,e2,e3⟩=>⟨v,e1,e2.cr om,e3⟩):P:=h
theorem Ol{o:Ops}(H:o.I)(HI:o.In)(k:Int){w:World}{v:Value}{n:Nat}{cs:Nat->Int}(hn:n<=2000000)(hw:Fm w)(hr:Rd w Y v n n cs)(hcs:∀j,Wd (cs j))(h:1<=k/\k<=6)(hk:n=2^k.toNat):
  J7 18 #[J k,v] w (tN k n) (o.tr k.toNat cs):=by
 have HL:KW 47 #[J k] (.bool V):=fun w=>log_any _ V (by simp;omega) w;have ht:tN k n=2^(k.toNat-1):=by unfold tN;rw[if_pos ⟨h.1,h.2,hk⟩]
 rw[ht];have HC:Hid (CT 48 #[J k] w fun e w'=>∃cv,e=O cv/\CR o w' cv (k.toNat+1)/\Gb w w'):=by
  exact uy
 have HT:Hid (∀w' cv,Gb w w'->CR o w' cv (k.toNat+1)->J7 55 #[cv,v] w' (2^(k.toNat-1)) (o.tr k.toNat cs)):=fun w' cv hg hc=>BA H HI k.toNat om om (hw.gb hg) (by rw[<-hk];exact hr.gb hg) hcs hc;obtain⟨a,cap,rfl,_⟩:=hr;have hkk:(2:Int)^k.toNat=(n:Int):=by rw[hk];simp
 generalize 2^(k.toNat-1)=N at*
 generalize o.tr k.toNat cs=f at*
 generalize k.toNat+1=n1 at*
 have hcase:k=1/\n=2\/k=2/\n=4\/k=3/\n=8\/k=4/\n=16\/k=5/\n=32\/k=6/\n=64:=by
  exact uw
 clear hkk hk ht H HI hw hcs h;rcases hcase with⟨rfl,rfl⟩|⟨rfl,rfl⟩|⟨rfl,rfl⟩|⟨rfl,rfl⟩|⟨rfl,rfl⟩|⟨rfl,rfl⟩
 all_goals
  go_enter func18,ntmps18;go_wp2_with (first
   |(go_at_call 47;refine kw (HL _) ?_)
   |(go_at_call 48;refine HC.out.mono ?_;rintro e w1 ⟨cv,rfl,hcr,ak⟩)
   |(go_at_call 55;refine(HT _ _ ak hcr).mono ?_;rintro e w2 ⟨v2,rfl,ho2,aA⟩))
  go_returns;exact⟨_,rfl,Ow.mono ho2 ak.size,ak.trans aA⟩
theorem aFM{o:Ops}(H:o.I)(HI:o.In)(k:Int){w:World}{v:Value}{n:Nat}{zs:Nat->Int × Int}(hn:n<=2000000)(hw:Fm w)(hr:Rd w Y v n (n*2) (flat zs))(hcs:∀j,mY (zs j))(h:1<=k/\k<=6)(hk:n=2^(k.toNat-1)):
  J6 27 #[J k,v] w (bN k n) (o.bk k.toNat zs):=by
 have HL:KW 47 #[J k] (.bool V):=fun w=>log_any _ V (by simp;omega) w;have ht:bN k n=2^k.toNat:=by unfold bN;rw[if_pos ⟨h.1,h.2,hk⟩]
 rw[ht];have HC:Hid (CT 48 #[J k] w fun e w'=>∃cv,e=O cv/\CR o w' cv (k.toNat+1)/\Gb w w'):=by
  exact uy
 have HT:Hid (∀w' cv,Gb w w'->CR o w' cv (k.toNat+1)->J6 73 #[cv,v] w' (2^k.toNat) (o.bk k.toNat zs)):=fun w' cv hg hc=>aAl H HI k.toNat om om (hw.gb hg) (by rw[<-hk];exact hr.gb hg) hcs hc;obtain⟨a,cap,rfl,_⟩:=hr;generalize 2^k.toNat=N at*
 generalize o.bk k.toNat zs=f at*
 generalize k.toNat+1=n1 at*
 have hcase:k=1/\n=1\/k=2/\n=2\/k=3/\n=4\/k=4/\n=8\/k=5/\n=16\/k=6/\n=32:=by
  exact uw
 clear hk ht H HI hw hcs h;rcases hcase with⟨rfl,rfl⟩|⟨rfl,rfl⟩|⟨rfl,rfl⟩|⟨rfl,rfl⟩|⟨rfl,rfl⟩|⟨rfl,rfl⟩
 all_goals
  go_enter func27,ntmps27;go_wp2_with (first
   |(go_at_call 47;refine kw (HL _) ?_)
   |(go_at_call 48;refine HC.out.mono ?_;rintro e w1 ⟨cv,rfl,hcr,ak⟩)
   |(go_at_call 73;refine(HT _ _ ak hcr).mono ?_;rintro e w2 ⟨v2,rfl,ho2,aA⟩))
  go_returns;exact⟨_,rfl,Ow.mono ho2 ak.size,ak.trans aA⟩
section
variable [Inhabited Ch]
theorem SG:TiS tiW:=fun c hc w=>(yV f64 0 1 c de de hc.1 hc.2 hc.2 w).mono fun e w' ⟨Z,fl,hp,he,hg⟩=>⟨fl,by rw[DV hp];exact he,hg⟩
theorem SH:TiI tiW:=fun c hc w hw=>by
 obtain⟨x,hx⟩:=fE f64 c hc.1 hc.2;exact(nI f64 0 1 de rfl hc.1 hc.2 hc.2 hx hw).mono fun e w' ⟨Z,fl,hp,he,hg⟩=>⟨fl,by rw[DV (.inl ⟨_,_,_,_,_,_,x,f64,hc.2,de,de,hx,hp⟩)];exact he,hg⟩
end
set_option maxRecDepth 1000000
theorem aJg(p q:Int)(w:World):(Op.equalIn 10000 59 (aG p q) (aG p q)).run Tryz.prog w=.ok V w:=by
 have u4:=Tryz.underlying33;have a4:=Tryz.isAgg33;have z4:=Tryz.sizeOf33;have hS:Tryz.prog.underlying 59=some (.struct (Tryz.prog.fieldsOf 59)):=by kernel_rfl
 rw[show(10000:Nat)=9999+1 from rfl,run_equalIn_agg w 9999 59 _ _ hS (by kernel_rfl)];simp only[Program.fieldsOf,Tryz.underlying59];go_simp
theorem QC(a:Option Addr)(len cap:Nat)(hlen:len<=1048576)(K:Int){w:World}
  (HD:Hid (CT 29 #[.slice a len cap] w fun e w'=>∃vf vg,e=O (.tuple #[J K,vf,vg])/\Gb w w'/\Hid (∀w'',Gb w' w''->oK 30 K vf vg w''))):
  QB 9 #[.slice a len cap] w (.bool V):=by
 have hl:¬(1048576:Int)<(len:Int):=om;go_enter func9,ntmps9;go_wp2_with (first
  |(go_at_call 29;refine HD.out.mono ?_;rintro e w1 ⟨vf,vg,rfl,ak,HP⟩)
  |(go_at_call 30;refine(HP _ kg).mono ?_;rintro e w2 ⟨v,rfl,_,aA⟩))
 go_returns;exact⟨rfl,kg⟩
theorem M_(a:Option Addr)(len cap:Nat)(hlen:len<=1048576)(K:Int)(n h:Nat)(hn0:0<n)(hn:n<=64)(hh0:0<h)(hh:h<=64)(f ws:Nat->Int)(us:Nat->Int)(zs:Nat->Int × Int)(bs:Nat->Int){w:World}
  (HU:Hid (∀j,j<n->IntKind.u64.wrap (f j)=us j))
  (HD:Hid (CT 29 #[.slice a len cap] w fun e w'=>∃bf cf vg,e=O (.tuple #[J K,aB bf n cf,vg])/\Gb w w'/\Hid (∀j,j<n->aj w' bf j (J (f j)))/\Hid (∀w'',Gb w' w''->CT 30 #[J K,aB bf n cf,vg] w'' fun e w3=>∃v,e=O (.tuple #[v,.bool V])/\Gb w'' w3)))
  (HF:Hid (∀j,j<n->∀w,CT 36 #[J 1,J 0,J 1,.int Y (us j)] w fun e w'=>∃fl:Int,e=O (aK (ws j) fl)/\Gb w w'))
  (HS:Hid (∀w' v,Rd w' Y v n n ws->CT 16 #[J K,v] w' fun e w''=>∃b cp,e=O (aB b h cp)/\Hid (∀q,q<h*2->aj w'' b q (.int Y (flat zs q)))/\Gb w' w''))
  (HI:Hid (∀w' v,Gb w w'->Rd w' Y v n n ws->CT 18 #[J K,v] w' fun e w''=>∃b cp,e=O (aB b h cp)/\Hid (Rd w'' Y (aB b h cp) h (h*2) (flat zs))/\Gb w' w''))
  (HB:Hid (∀w' v,Gb w w'->Rd w' Y v h (h*2) (flat zs)->CT 27 #[J K,v] w' fun e w''=>∃b cp,e=O (aB b n cp)/\Hid (∀q,q<n->aj w'' b q (.int Y (bs q)))/\Gb w' w''))
  (HT:Hid (∀j,j<n->∀w',Gb w w'->CT 37 #[J 1,J 0,J 1,.int Y (bs j)] w' fun e w''=>∃fl:Int,e=O (aK (us j) fl)/\Gr w' w'')):
  QB 9 #[.slice a len cap] w (.bool V):=by
 have hl:¬(1048576:Int)<(len:Int):=om;have hfd:∀(z fl:Int) (w:World),(Instr.field 56 (aK z fl) 0).run Tryz.prog w=.ok (.int Y z) w:=fun z fl w=>by kernel_rfl
 go_enter func9,ntmps9;go_upto_region 4 with(go_at_call 29;refine HD.out.mono ?_;rintro e w1 ⟨bf,cf,vg,rfl,ak,HCf,HP⟩);go_upto_region 5 with(go_at_call 30;refine(HP _ (Gb.refl _)).mono ?_;rintro e w2 ⟨v0,rfl,aA⟩);have HG2:Hid (Gb w w2):=ak.trans aA;have HC2:Hid (∀w',Gb w2 w'->∀j,j<n->aj w' bf j (J (f j))):=fun w' hg j hj=>hg.old (aA.old (HCf j hj));have hs2:w.heap.size<=w2.heap.size:=HG2.out.size;clear HP HD ak aA HCf;go_wp2;go_loopw [8,9,10] (fun s8 s9 s10 wr=>∃(i:Nat) (vc vd:Value),vc=s8/\vd=s9/\i<=n/\s10=J i/\Ow wr w2.heap.size 33 1 Y s8 i ws/\Ow wr w2.heap.size 33 1 Y s9 i ws/\(∀p,s8.ownBlock=some p->s9.ownBlock≠some p)/\Gb w2 wr) (fun _ _ i _=>n-(intOf i).toNat)
 case atStart=>
  have oA:=(Ow.lit w2 33 1 Y ws).alloc (.cells #[] 33);have oB:=(Ow.lit (w2.alloc (.cells #[] 33)) 33 1 Y ws).mono (show w2.heap.size<=(w2.alloc (.cells #[] 33)).heap.size by rw[World.size_alloc];omega);rw[World.size_alloc]at oB;refine⟨0,_,_,rfl,rfl,om,rfl,oA,oB,?_,kg⟩;intro p h h';simp[Value.ownBlock]at h h';omega
 case round=>
  obtain⟨i,vc,vd,rfl,rfl,hi,rfl,hOc,hOd,hdis,hG⟩:=hrel;have HOc:Hid (∀w',Gb wr w'->Ow w' w2.heap.size 33 1 Y vc i ws):=fun w' hg=>hOc.gb hg;have HOd:Hid (∀w',Gb wr w'->Ow w' w2.heap.size 33 1 Y vd i ws):=fun w' hg=>hOd.gb hg;have Uf:Hid (∀p,vc.ownBlock=some p->vd.ownBlock≠some p):=hdis;have Kw:Hid (Gb w2 wr):=hG;have hsz:=hG.size;clear hOc hOd hdis hG;by_cases hlt:(i:Int)<(n:Int)
  ·have c0:=HC2 wr Kw.out i om;have qE:Hid (∀w,CT 36 #[J 1,J 0,J 1,.int Y (us i)] w fun e w'=>∃fl:Int,e=O (aK (ws i) fl)/\Gb w w'):=HF i om;have hu:=HU i om;have HE:Hid (ws (i*1+0)=ws i):=by show _=_;rw[Nat.mul_one,Nat.add_zero]
   obtain⟨z,hz⟩:∃z,ws i=z:=⟨_,rfl⟩;rw[hz]at qE HE;clear hz;generalize f i=fi at*
   generalize us i=ui at*
   go_upto_region 13 with(go_at_call 36;refine(qE _).mono ?_;rintro e w3 ⟨fl,rfl,aF⟩);have hs3:=aF.size;have HX':=HE.out;go_upto_region 14 with(at_builtin;refine kE rfl _ _ 27 rfl 33 (.int Y 0) 1 8 Y Tryz.underlying27 ER rfl de de w2.heap.size i 1 ws _ w3.heap.size rfl (HOc _ kg) rfl (nM (g:=ws) (m:=i*1) (by simp[go_sem]) HX') om om (by rw[World.size_alloc];omega) vd i ws (HOd _ kg) Uf.out ?_;intro v4 w4 aGJ aGI hd4 hb4);have HG4:Hid (Gb w2 w4):=Gb.below (show Gb w2 _ by have:=Kw.out;exact kg) hb4 (Nat.le_refl _);have aJv:Hid (∀w',Gb w4 w'->Ow w' w2.heap.size 33 1 Y vd i ws):=fun w' hg=>aGI.gb hg;have aJw:Hid (∀w',Gb w4 w'->Ow w' w2.heap.size 33 1 Y v4 (i+1) ws):=fun w' hg=>aGJ.gb hg;have HD4:Hid (∀p,vd.ownBlock=some p->v4.ownBlock≠some p):=fun p h h'=>hd4 p h' h;have hs4:=HG4.out.size;clear aGJ aGI hd4 hb4;go_wp2_with (at_builtin;refine kE rfl _ _ 27 rfl 33 (.int Y 0) 1 8 Y Tryz.underlying27 ER rfl de de w2.heap.size i 1 ws _ w4.heap.size rfl (aJv _ kg) rfl (nM (g:=ws) (m:=i*1) (by simp[go_sem]) HX') om om (by rw[World.size_alloc];omega) v4 (i+1) ws (aJw _ kg) HD4.out ?_;intro v5 w5 aIL aIN hd5 hb5);have hg5:Gb w2 w5:=Gb.below (show Gb w2 _ by have:=HG4.out;exact kg) hb5 (Nat.le_refl _);clear hb5;go_roundw
   case rel=>exact⟨i+1,_,_,rfl,rfl,om,by go_num,aIN,aIL,fun p e e'=>hd5 p e' e,hg5⟩
   case measure=>simp[intOf];omega
  ·obtain rfl:i=n:=om;have hno:¬(i:Int)<(i:Int):=om;have HRc:Hid (∀w',Gb wr w'->Rd w' Y vc i i ws):=fun w' hg=>jI (HOc w' hg);have HRd:Hid (∀w',Gb wr w'->Rd w' Y vd i i ws):=fun w' hg=>jI (HOd w' hg);have HGw:Hid (Gb w wr):=HG2.out.trans Kw.out;have HC3:Hid (∀w',Gb wr w'->∀j,j<i->aj w' bf j (J (f j))):=fun w' hg j hj=>hg.old (HC2 wr Kw.out j hj);clear HOc HOd Uf Kw HC2 HF hlt;go_upto_region 16 with(go_at_call 16;refine(HS _ _ (HRd _ kg)).mono ?_;rintro e w3 ⟨bz,cz,rfl,hcz,aF⟩);go_upto_region 17 with(go_at_call 18;refine(HI _ _ (by have:=HGw.out;exact kg) (HRc _ kg)).mono ?_;rintro e w4 ⟨by',cy,rfl,hry,aI⟩);have HG4:Hid (Gb w w4):=(HGw.out.trans aF).trans aI;have HZ:Hid (∀w',Gb w4 w'->∀q,q<h*2->aj w' bz q (.int Y (flat zs q))):=fun w' hg q hq=>hg.old (aI.old (hcz.out q hq));have HY:Hid (∀w',Gb w4 w'->∀q,q<h*2->aj w' by' q (.int Y (flat zs q))):=fun w' hg q hq=>by
    obtain⟨b',c',e',_,_,hc'⟩:=hry.out.at hh0;simp only[Value.slice.injEq,Option.some.injEq,Addr.mk.injEq,and_true,true_and]at e';obtain⟨rfl,rfl⟩:=e';exact hg.old (hc' q hq)
   have HC4:Hid (∀w',Gb w4 w'->∀j,j<i->aj w' bf j (J (f j))):=fun w' hg j hj=>HC3 w' ((aF.trans aI).trans hg) j hj;clear HC3 HRc HRd HGw aF aI hcz;go_wp2;go_loopw [14] (fun s14 wx=>∃q:Nat,q<=h/\s14=J q/\Gb w4 wx) (fun i _=>h-(intOf i).toNat)
   case atStart=>exact⟨0,Nat.zero_le _,rfl,Gb.refl _⟩
   case round=>
    obtain⟨q,hq,rfl,hgx⟩:=hrel;by_cases hql:(q:Int)<(h:Int)
    ·have y0:=HY wr hgx (q*2) om;have y1:=HY wr hgx (q*2+1) om;have z0:=HZ wr hgx (q*2) om;have z1:=HZ wr hgx (q*2+1) om;generalize flat zs (q*2)=x at*
     generalize flat zs (q*2+1)=y at*
     have hE:=aJg x y;go_wp2;go_region_held3 (fun w'=>aj w' by' (q*2) (.int Y x)/\aj w' by' (q*2+1) (.int Y y)/\aj w' bz (q*2) (.int Y x)/\aj w' bz (q*2+1) (.int Y y))
      (exact kZ)
      (fail)
     all_goals
      go_wp2;go_roundw
      case rel=>exact⟨q+1,om,by go_num,kg⟩
      case measure=>simp[intOf]<;>omega
    ·obtain rfl:q=h:=om;have aKt:¬(q:Int)<(q:Int):=om;have HGx:Hid (Gb w4 wr):=hgx;clear hql hgx HZ HY;go_upto_region 25 with(go_at_call 27;refine(HB _ _ (HG4.out.trans HGx.out) (hry.out.gb HGx.out)).mono ?_;rintro e w6 ⟨bb,cb,rfl,hcb,b_⟩);have HG6:Hid (Gb w w6):=(HG4.out.trans HGx.out).trans b_;have HC6:Hid (∀w',Gb w6 w'->∀j,j<i->aj w' bf j (J (f j))):=fun w' hg j hj=>HC4 w' ((HGx.out.trans b_).trans hg) j hj;have HB6:Hid (∀w',Gb w6 w'->∀j,j<i->aj w' bb j (.int Y (bs j))):=fun w' hg j hj=>hg.old (hcb.out j hj);clear HC4 HGx HG4 b_ hcb hry;go_wp2;go_loopw [16] (fun s16 wx=>∃q:Nat,q<=i/\s16=J q/\Gb w6 wx) (fun j _=>i-(intOf j).toNat)
     case atStart=>exact⟨0,Nat.zero_le _,rfl,Gb.refl _⟩
     case round=>
      obtain⟨m,hm,rfl,hgx⟩:=hrel;by_cases hml:(m:Int)<(i:Int)
      ·have c0:=HC6 wr hgx m om;have b0:=HB6 wr hgx m om;have hu:=HU m om;have HTm:Hid (∀w',Gb w w'->CT 37 #[J 1,J 0,J 1,.int Y (bs m)] w' fun e w''=>∃fl:Int,e=O (aK (us m) fl)/\Gr w' w''):=HT m om;generalize f m=fm at*
       generalize us m=um at*
       generalize bs m=bm at*
       go_wp2;go_region_held3 (fun w'=>aj w' bb m (.int Y bm)/\aj w' bf m (J fm))
        (exact kZ)
        (first
         |(go_at_call 37;with_reducible refine(HTm.out _ (by have:=HG6.out;exact kg)).mono ?_;rintro e w7 ⟨fl,rfl,fQ⟩))
       all_goals
        go_wp2;go_roundw
        case rel=>exact⟨m+1,om,by go_num,kg⟩
        case measure=>simp[intOf]<;>omega
      ·obtain rfl:m=i:=om;have aKs:¬(m:Int)<(m:Int):=om;go_wp2;go_returns;exact⟨rfl,HG6.out.trans hgx⟩
section
variable [Inhabited Ch]
theorem RI(k:Nat)(hk1:1<=k)(hk6:k<=6)(f:Nat->Int)(hf:∀i,i<2^k->zX (f i))(i:Nat)(hi:i<2^k):tiW (cZ.bk k (cZ.tr k (fun j=>cZ.int (f j))) i)=f i%18446744073709551616:=by
 have u0:=sG;have hx:∀j,j<2^k->∃x,Vl (cZ.int (f j)) x/\Nr x (f j*(4194304*uN)) uN:=fun j hj=>aAP (f j) (hf j hj).1 (hf j hj).2;obtain⟨x,hx'⟩:∃x:Nat->Int,∀j,j<2^k->Vl (cZ.int (f j)) (x j)/\Nr (x j) (f j*(4194304*uN)) uN:=
  ⟨fun j=>if h:j<2^k then Classical.choose (hx j h)else 0,fun j hj=>by dsimp only;rw[dif_pos hj];exact Classical.choose_spec (hx j hj)⟩
 have hB:∀j,j<2^k->In' (x j) (8589934592*uN):=fun j hj=>by
  have h1:=(hx' j hj).2;have h2:=In'.mul (x:=f j) (b:=2047) (y:=4194304*(uN:Int)) (c:=4194304*(uN:Int)) ⟨(hf j hj).1,(hf j hj).2⟩ ⟨om,om⟩;unfold In' Nr at*
  omega
 obtain⟨y,hy,hn⟩:=aJr.back aGd k (fun j=>cZ.int (f j)) x (8589934592*uN) 0 (cZ.tr k (fun j=>cZ.int (f j))) hk1 hk6 om
  (by rcases(show k=1\/k=2\/k=3\/k=4\/k=5\/k=6 by omega)with rfl|rfl|rfl|rfl|rfl|rfl<;>simp<;>omega)
  (by rcases(show k=1\/k=2\/k=3\/k=4\/k=5\/k=6 by omega)with rfl|rfl|rfl|rfl|rfl|rfl<;>simp<;>omega)
  (Int.le_refl 0) (fun j hj=>⟨(hx' j hj).1,hB j hj⟩) (fun j hj p q hv=>⟨p,q,hv,by unfold Nr;omega,by unfold Nr;omega⟩) i hi
 have he:eE uN k 0<=372*uN:=by
  rcases(show k=1\/k=2\/k=3\/k=4\/k=5\/k=6 by omega)with rfl|rfl|rfl|rfl|rfl|rfl<;>simp only[eE]<;>omega
 have h1:=(hx' i hi).2;have hb:=hf i hi;unfold zX at hb;refine Lm hy om om ?_ ?_<;>(unfold Nr at*;omega)
end
theorem VB(a:Option Addr)(len cap:Nat)(w:World)(hC:dM w a len)(hw:Fm w):
  CT 9 #[.slice a len cap] w fun e w'=>e=O (.bool V)/\Below w.heap.size w w':=by
 obtain⟨ch0⟩:=TU;have hch:Inhabited Ch:=⟨ch0⟩;obtain⟨c,hc⟩:=hC.is;have hd:=vk cap hc;have hN:dN c len<=128:=by
  obtain⟨⟨_,k1⟩,_⟩:=o8 cap 0 40 hc om om om;exact Nat.le_trans (Nat.pow_le_pow_right de (Ro _ k1)) de
 have hL:dL c len<=129:=by unfold dL;split<;>omega
 generalize dN c len=N at*
 generalize dL c len=L at*
 generalize dF c len=F at*
 generalize dG c len=G at*
 generalize((WU (tk c len 0 40):Nat):Int)=K at*
 by_cases hfit:J5 K L N F G
 ·have TJ:=hfit;obtain⟨h1,h6,⟨eL,hF⟩,_,_⟩:=hfit;obtain⟨k,hk⟩:∃k,k=K.toNat:=⟨_,rfl⟩;have hk1:1<=k:=om;have hk6:k<=6:=om;have hn0:0<L:=by rw[eL];exact Nat.pow_pos de
  have hh0:0<2^(k-1):=Nat.pow_pos de;have CV:L<=64:=by rw[eL];exact uJ om
  have aBS:2^(k-1)<=64:=uJ om;have tn:tN K L=2^(k-1):=by unfold tN;rw[if_pos ⟨h1,h6,eL⟩,hk]
  have bn:bN K (2^(k-1))=L:=by unfold bN;rw[if_pos ⟨h1,h6,by rw[hk]⟩,eL]
  have hwi:∀j,Wd (cZ.int (F j)):=fun j=>lZ.int _;have hwz:∀j,mY (cZ.tr k (fun j=>cZ.int (F j)) j):=fun j=>lZ.tr _ _ _ hwi;refine M_ a len cap hC.few K L (2^(k-1)) hn0 CV hh0 aBS F (fun j=>cZ.int (F j)) (fun j=>F j%18446744073709551616) (cZ.tr k (fun j=>cZ.int (F j))) (cZ.bk k (cZ.tr k (fun j=>cZ.int (F j)))) (fun j _=>?_) ?_ (fun j hj=>?_) (fun w' v hr=>?_) (fun w' v hg hr=>?_) (fun w' v hg hr=>?_) (fun j hj w' hg=>?_)
  ·rw[IntKind.wrap_u64]
  ·refine hd.mono fun e w' ⟨vf,vg,he,hof,hog,hg⟩=>?_;obtain⟨b,cp,rfl,_,_,_,_,hcell⟩:=hof.at hn0;exact⟨b,cp,vg,he,hg,fun j hj=>(hcell j om).1,fun w'' hg'=>(JX EG lZ SG K TJ ((jI hof).gb hg').ro ((jI hog).gb hg').ro).mono fun e w3 ⟨v,e1,_,e3⟩=>⟨v,e1,e3⟩⟩
  ·exact(EG.int (F j) _ (hF j hj).1 (hF j hj).2 rfl).out
  ·refine(vJ EG lZ K om hr hwi).mono fun e w'' ⟨v,e1,e2,e3⟩=>?_;rw[tn,<-hk]at e2;obtain⟨b,cp,rfl,_,_,_,_,hcell⟩:=e2.at hh0;exact⟨b,cp,e1,fun q hq=>(hcell q hq).1,e3⟩
  ·refine(Ol Je lZ K om (hw.gb hg) hr hwi ⟨h1,h6⟩ eL).mono fun e w'' ⟨v,e1,e2,e3⟩=>?_;rw[tn,<-hk]at e2;have e4:=e2.rd;obtain⟨b,cp,rfl,_,_,_,_,_⟩:=e2.at hh0;exact⟨b,cp,e1,e4,e3⟩
  ·refine(aFM Je lZ K om (hw.gb hg) hr hwz ⟨h1,h6⟩ (by rw[hk])).mono fun e w'' ⟨v,e1,e2,e3⟩=>?_;rw[bn,<-hk]at e2;obtain⟨b,cp,rfl,_,_,_,_,hcell⟩:=e2.at hn0;exact⟨b,cp,e1,fun q hq=>(hcell q om).1,e3⟩
  ·have hb:=RI k hk1 hk6 F (fun i hi=>hF i (by rw[eL,<-hk];exact hi)) j (by rw[hk,<-eL];exact hj);have:=(SH _ (lZ.bk k _ j hwz)).out w' (hw.gb hg);rw[hb]at this;exact this
 ·exact QC a len cap hC.few K (hd.mono fun e w' ⟨vf,vg,he,hof,hog,hg⟩=>⟨vf,vg,he,hg,fun w'' hg'=>aAB hfit om om ((jI hof).gb hg').ro ((jI hog).gb hg').ro⟩)
end Go.Proofs.YtmiekgjgpmfekaaGreatDoor
set_option maxRecDepth 1000000
namespace Go.Proofs.YtmiekgjgpmfekaaGreatDoor.fnBack
open Go.ChangeShapes Go.WideShapes Go.ChangeAt Go.RowKit Go.Joins
theorem laidOut:laidOutB Tryz.prog=V:=by kernel_rfl
theorem MS(a0:Option Addr)(l0 c0:Nat)(w:World)(h0:(1048576:Int)<(l0:Int)):
  CT 9 #[.slice a0 l0 c0] w fun e w'=>e=O (.bool V)/\Below w.heap.size w w':=by
 go_enter func9,ntmps9;go_wp2;go_ret;exact⟨rfl,Below.refl _ _⟩
theorem codeRow{w:World}{a:Option Addr}{len cap:Nat}(hl:len<=1048576)
  (h:len=0\/∃(x:Addr) (zs:List Int),a=some x/\len<=zs.length/\(∀i,i<zs.length->w.cell? (x.add i)=some (.int .u8 (zs.getD i 0)))/\∀n ∈ zs,(Lit.int .u8 n).wf =V):dM w a len:=by
 refine⟨hl,?_⟩;rcases h with e|⟨x,zs,rfl,hz,hc,hw⟩
 ·exact .inl e
 ·rcases(show len=0\/0<len by omega)with e|hp
  ·exact .inl e
  ·obtain⟨b,off,rfl,hcell⟩:=ints_at hc om;refine .inr ⟨b,off,rfl,fun i hi=>⟨zs.getD i 0,?_,?_,hcell i om⟩⟩
   ·rw[List.getD_eq_getElem?_getD];exact(range_u8 hw i).1
   ·rw[List.getD_eq_getElem?_getD];exact(range_u8 hw i).2
theorem walk(a0:Option Addr)(l0 c0:Nat)(w:World)(v0:Fm w)
  (h0:l0=0\/∃(x:Addr) (zs:List Int),a0=some x/\l0<=zs.length/\(∀i,i<zs.length->w.cell? (x.add i)=some (.int .u8 (zs.getD i 0)))/\∀n ∈ zs,(Lit.int .u8 n).wf =V)
  :CT 9 #[.slice a0 l0 c0] w fun e w'=>e=O (.bool V)/\Below w.heap.size w w':=by
 rcases(show 1048576<l0\/l0<=1048576 by omega)with k0|k0
 ·exact MS a0 l0 c0 w om
 exact VB a0 l0 c0 w (codeRow (cap:=c0) k0 h0) v0
abbrev mP:List (String × DataW Unit):=[(jm,Rows.laid_loop_example_s01330_impl_formats)]
theorem door_met(os:Os)(args:Array Value):laidMetH Tryz.prog mP ((World.doorLaid Tryz.prog 16 os).forCall (fun _ _=>0) ⟨#[],args,[]⟩).memory :=
 laidMetH_of_parts3 (fuel:=8) (laidMet_of_run' 8 (by kernel_rfl) (by kernel_rfl)) (by kernel_rfl) (by kernel_rfl)
def vH(W:World):Prop:=W.var? Tryz.prog jm=some fJ
theorem kF{W:World}(h:laidMetH Tryz.prog mP W):vH W:=by
 rw[MakeChecks.laidMetH_plain _ _ _ (by kernel_rfl)]at h;obtain⟨ps,hl,_⟩:=h;obtain⟨x0,l0⟩:=qV ⟨ps,hl⟩;exact aEi x0
theorem jX{H:Type}(enc:TypeId × Value->H){W W':World}(hb:Below W.heap.size W W')(hv:vH W)(sp:Nat->Bool):
  ∃q,DataW.TrodVars enc Tryz.prog W' sp [jm] [vC] q:=by
 have h0:W.var? Tryz.prog jm=some fJ:=hv;exact⟨_,⟨_,165,fJ,4,[],_,gF,tF,uq gF hb h0,reads_table enc W' sp,rfl,rfl⟩⟩
theorem jy{H:Type}{enc:TypeId × Value->H}{W:World}{gs:List (DataW H)}{q:List MemPlace}(hv:vH W)(hV:DataW.TrodVars enc Tryz.prog W (fun _=>V) [jm] gs q):gs=[vC]:=by
 have h0:W.var? Tryz.prog jm=some fJ:=hv;obtain⟨d0,gs0,rfl⟩:∃d l,gs=d::l:=by cases gs<;>simp[DataW.TrodVars]at hV⊢
 obtain⟨a0,b0,c0,f0,p0,q0,e0,k0,m0,n0,hV,_⟩:=hV;obtain rfl:=Option.some.inj (gF.symm.trans e0);obtain rfl:=Option.some.inj (tF.symm.trans k0);obtain rfl:c0=fJ:=Option.some.inj (m0.symm.trans h0);obtain⟨rfl,rfl⟩:=DataW.Trod.unique (v:=.agg fJ) ⟨f0,n0⟩ ⟨4,reads_table enc W _⟩;cases gs0<;>simp[DataW.TrodVars]at hV⊢
theorem lifted(os:Os)(started:os.Started)(H:Type)(enc:TypeId × Value->H):
  ReturnsInHanded {} Tryz.checked os 9 .any (fun w args=>(Rows.fnBackSpec.pre enc Tryz.prog Tryz.f9 [] false w args/\laidMetH Tryz.prog mP w)/\sizedMet enc Tryz.prog Tryz.f9 (OpenSpec.ofChange Rows.fnBackSpec) false w args)
   (Rows.fnBackSpec.post enc Tryz.prog Tryz.f9 false V false false):=by
 refine returnsInHanded_of_change_and (C:=Tryz.checked) (X:=fun w _=>laidMetH Tryz.prog mP w) (fun _ _ _ hh h=>h.of_heap hh) YR started (by kernel_rfl) func9
  (ChangeSpec.witness_shaped (enc:=enc) (C:=Tryz.checked) (os:=os) (X:=fun w _=>laidMetH Tryz.prog mP w) false (World.doorLaid Tryz.prog 16 os) #[.slice none 0 0] 8 rfl (World.shaped_of_RefB (by kernel_rfl) (by kernel_rfl)) (by kernel_rfl) (by kernel_rfl) (by kernel_rfl) (door_met os _)) ?_
 intro W base args ds gs before hval0 hW _ _ hL _;have hval:∀(j:Nat) t v,Tryz.f9.params[j]?=some t->args[j]?=some v->Value.okWide Tryz.prog W .any base t v:=hval0;have hW':=hW;obtain⟨p,q,hA0,hV0,rfl,hfz,hnd⟩:=hW;have hA:DataW.TrodAll enc Tryz.prog W 0 (fun _=>V) V Tryz.f9.params.toList args.toList ds p:=hA0;have hV:DataW.TrodVars enc Tryz.prog W (fun _=>V) [jm] gs q:=hV0;rw[Tryz.params9]at hA hval;obtain⟨v0,vs0,d0,ds0,p0,q0,hargs,rfl,rfl,h0,r0⟩:=trodAll_cons hA;obtain⟨rfl,rfl,rfl⟩:=trodAll_nil r0;obtain rfl:args=#[v0]:=by cases args;simp_all
 have hX:=kF hL;obtain rfl:=jy hX hV;obtain⟨a0,len0,cap0,rfl⟩:=okWide_slice Tryz.underlying44 (hval 0 44 v0 rfl rfl);have k0:=h0;have lt0:∀x ∈ p0,x.block<W.heap.size:=by obtain⟨m,hm⟩:=k0;exact DataW.trod_lt m _ _ _ hm
 have w0:len0=0\/∃(x:Addr) (zs:List Int),a0=some x/\len0<=zs.length/\(∀i,i<zs.length->W.cell? (x.add i)=some (.int .u8 (zs.getD i 0)))/\∀n ∈ zs,(Lit.int .u8 n).wf =V:=by
  obtain⟨fuel,hf⟩:=h0;rcases open_ints Tryz.underlying44 Tryz.underlying5 (by kernel_rfl) hf with⟨hcs,_⟩|⟨x,l,c,zs,hcs,_,hl,hm,hz,_,hcell,hwz⟩
  ·simp[Value.cells]at hcs;obtain⟨rfl,rfl,rfl⟩:=hcs;exact .inl rfl
  ·simp[Value.cells]at hcs;obtain⟨rfl,rfl,rfl⟩:=hcs;have hz':zs.length=cap0:=by simpa using hz
   exact .inr ⟨x,zs,rfl,om,hcell,hwz⟩
 clear hA0 hV0 hval0;refine(walk a0 len0 cap0 W (AU hX) w0).mono fun e W' ⟨he,hgb⟩=>?_;subst he;obtain⟨_,hq⟩:=jX enc hgb hX (fun b=>decide (b<W.heap.size));exact⟨_,rfl,_,_,_,[],_,_,hW',(trodAll_cons_mk (shut_bool Tryz.underlying4 _) trodAll_mk0),(trodAll_cons_mk (Below.trod laidOut (by kernel_rfl) (of_decide_eq_true (by kernel_rfl)) k0 hgb lt0) trodAll_mk0),hq,Below.frame hgb _,fun h=>by cases h⟩
theorem over:Rows.fnBackRow.holds Tryz.pinned (OpenSpec.ofChange Rows.fnBackSpec):=
 OpenClaim.holds_of_wide 9 Tryz.f9 rfl rfl rfl rfl rfl rfl rfl ⟨rfl,rfl,rfl,rfl,rfl⟩ rfl rfl rfl rfl rfl (by kernel_rfl) func9 (by kernel_rfl)
  (of_decide_eq_true (by kernel_rfl)) (by unfold Func.isWrapper;first|(rw[if_pos (by decide+kernel)];kernel_rfl)|(rw[if_neg (by decide+kernel)];exact⟨rfl,rfl⟩))
  (fun os started H enc _=>lifted os started H enc)
end Go.Proofs.YtmiekgjgpmfekaaGreatDoor.fnBack
namespace Go.Proofs.YtmiekgjgpmfekaaGreatDoor
open Go
theorem FnBack_holds:Rows.FnBackCardSaid:=
 Claim7.holds_tied_plain_at .later [] [.wider] true (true,"4a6e21431519bc8fa0358fc74cf5071266168f51db2d33ec99ab440d42f880d6") false
  fnBack.over (fun _ h=>by cases h) (by kernel_rfl) (fun _ h=>by cases h) fnBack_row_tie rfl ⟨rfl,rfl⟩ (by kernel_rfl) rfl
  (fun f fn hf hfn=>by
   obtain rfl:f=9:=Option.some.inj ((show Tryz.prog.funcNamed "loop.example/s01330/laws.FnBack" =some 9 by kernel_rfl).symm.trans hf)|>.symm
   obtain rfl:fn=Tryz.f9:=(Option.some.inj (func9.symm.trans hfn)).symm;exact⟨by kernel_rfl,fun j t ht=>by
    rw[Tryz.params9]at ht;have hm:t ∈ [44]:=by simpa using Array.mem_of_getElem? ht
    have hall:([44].all fun u=> !Tryz.prog.wantsStandIn u)=V:=by kernel_rfl
    exact(show Tryz.prog.wantsStandIn t=false by simpa using List.all_eq_true.1 hall t hm)⟩)
  (by kernel_rfl)
#print axioms FnBack_holds
