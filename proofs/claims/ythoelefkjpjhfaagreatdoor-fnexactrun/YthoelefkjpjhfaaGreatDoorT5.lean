import Derived.Test.YthoelefkjpjhfaaGreatDoorT4
set_option linter.all false
set_option maxRecDepth 1000000
set_option maxHeartbeats 40000000
open Go.Proofs.YthoelefkjpjhfaaGreatDoor renaming vI → J
open Go.Ending renaming returned → Y
open Go.Proofs.Tryz
namespace Go.Proofs.YthoelefkjpjhfaaGreatDoor
open Go.RowKit
attribute [local go_sem] aB dL
variable {w w' W1 wr W:ak}{mb n lb b i base o1 c1 N m:Nat}{g G:Nat->Int}{s p0:aJ}{v val:Value}{t:TypeId}{ops:Array Oper}{rest:List Oper}{o:Oper}{a:Act}{Q:Exit->Act->ak->Prop}{k:IntKind}{ps qs:List aJ}{ok:Bool}{p:Int}{cap:Array Value}
def Ic(w:ak)(b n i:Nat)(g:Nat->Int):Prop:=(∀j,j<n->∃u,aB w b j u/\dL w b j)/\∀j,j<i->aB w b j (J (g j))
def Ic.lk(h:Ic w b n i g)(hk:Lk lb w w')(hn:b≠lb):Ic w' b n i g:=⟨λj hj=>by
 obtain⟨u,c,z⟩:=h.1 j hj;exact⟨u,hk.old c hn,(World.frozen?_of_block (a:=⟨b,j,none⟩) (hk.block b (aA c) hn)).trans z⟩,λj hj=>hk.old (h.2 j hj) hn⟩
def Ic.put(h:Ic w b n i g)(hi:i<n):Ic (w.setCell ⟨b,i,none⟩ (J (g i))) b n (i+1) g:=by
 obtain⟨u,c,z⟩:=h.1 i hi;refine⟨λj hj=>?_,λj hj=>?_⟩
 .obtain⟨u',c',z'⟩:=h.1 j hj;by_cases e:i=j
  .subst e;exact⟨J (g i),by simp[go_sem,c],by simp[go_sem,z]⟩
  .exact⟨u',by simp[go_sem,c',e],by simp[go_sem,z']⟩
 .by_cases e:i=j
  .subst e;simp[go_sem,c]
  .have q:=h.2 j (by omega);simp[go_sem,q,e]
def jd.lk(h:jd w v n g)(hk:Lk lb w w')(hn:Nb lb v):jd w' v n g:=by
 obtain⟨a,cap,h1,h2,h3,h4⟩:=h;refine⟨a,cap,h1,h2,h3,λhp=>?_⟩;obtain⟨b,o,rfl,hc⟩:=h4 hp;exact⟨b,o,rfl,λj hj=>hk.old (hc j hj) (hn _ _ _ _ h1)⟩
def Ow.nb(h:Ow w base t 1 k v n g)(hl:lb<base):Nb lb v:=λb o n' c e=>by
 rcases h.2 with⟨rfl,_⟩|⟨b',cap,cur,rfl,hb,_⟩
 .cases e
 .simp only[Value.slice.injEq,Option.some.injEq,Addr.mk.injEq,and_true]at e;omega
def Ow.ro(h:Ow w base t 1 .i64 v n g):jd w v n g:=by
 have:=h.rd;rw[kW]at this;exact this.ro
def okN:List aJ->Bool
 |[]=>true
 |p::l=>uS p&&okN l
def LH(ps:List aJ)(j:Nat):Int:=qh (ps.getD j (tx []))
def aOM:(prog.info? 3).map (λi=>(i.zero,i.size,i.bytes))=some (some (J 0),1,8):=by kernel_rfl
def aCS:prog.elem 80=3:=by kernel_rfl
def aIl{nb:Nat}(n h:Nat)(hn:n<=1000000)(hh:h<=n)(hc:∀j,j<n->aB wr nb j (J (g j))):∃v1 v2,(∀w,(Instr.slice 80 (aF nb n n) none (some (J (h:Int))) none).run prog w=.ok v1 w)/\(∀w,(Instr.slice 80 (aF nb n n) (some (J (h:Int))) none none).run prog w=.ok v2 w)/\jd wr v1 h g/\jd wr v2 (n-h) (λj=>g (h+j)):=by
 have z:=sizeOf3;refine⟨aF nb h n,.slice (some (if n=h then⟨nb,0,none⟩else⟨nb,h,none⟩)) (n-h) (n-h),λw=>?_,λw=>?_,?_,?_⟩
 .rw[run_slice_h (P:=prog) w 80 _ n n (by rw[aCS];exact underlying80) .i64 (h:Int) om (by omega)];simp[sliced,aCS,z,Addr.add]
 .rw[run_slice_l (P:=prog) w 80 _ n n (by rw[aCS];exact underlying80) .i64 (h:Int) om (by omega)];simp[sliced,aCS,z,Addr.add];split<;>simp_all
 .exact⟨_,_,rfl,hh,by unfold maxLen;omega,λ_=>⟨nb,0,rfl,λj hj=>by rw[Nat.zero_add];exact hc j om⟩⟩
 .refine⟨_,_,rfl,dJ _,by unfold maxLen;omega,λhp=>⟨nb,h,by rw[aH (by omega)],λj hj=>hc _ om⟩⟩
def aHg(hW:Tb W){b:Bool}(h:LS W w lb ps b)(hz:∀p,p ∈ ps->p.size<=1048576)(hn:ps.tail.length<=1000000)(HA:Hid (∀w' v1 v2,Gb W w'->jd w' v1 (ps.tail.length/2) (LH ps.tail)->jd w' v2 (ps.tail.length-ps.tail.length/2) (λj=>LH ps.tail (ps.tail.length/2+j))->CT 103 #[J (qh (ps.headD (tx []))),v1,v2] w' λe bf=>∃v,e=Y (.tuple #[v,.bool ok])/\Ow bf w'.heap.size 3 1 .i64 v N G/\Gb w' bf))(hN:N<=1000)(hG:∀j,j<N->-9223372036854775808<=G j/\G j<=9223372036854775807):
  CT 42 #[lp lb] w λe w'=>e=Y (.string (nH N G))/\LS W w' lb [] (((b|| !uS (ps.headD (tx [])))|| !okN ps.tail)|| !ok)/\Lk lb w w':=by
 have H0:Hid (LM W 102 #[lp lb] lb w (J (qh (ps.headD (tx [])))) ps.tail (b|| !uS (ps.headD (tx [])))):=X0 h (by cases ps with|nil=>simp[dZ]|cons p l=>exact hz p (by simp));have jB:∀p,p ∈ ps.tail->p.size<=1048576:=λp hp=>hz p (List.mem_of_mem_tail hp);generalize qh (ps.headD (tx []))=K at*
 generalize uS (ps.headD (tx []))=k0 at*
 generalize ps.tail=qs at*
 obtain⟨n,EH⟩:=dP (qs.length);rw[EH]at HA hn;have fJ:=h.lt;clear h hz;obtain⟨bF,hbF⟩:=dP (((b|| !k0)|| !okN qs));rw[hbF];have HF:Hid ((((b|| !k0)|| !okN qs))=bF):=hbF;clear hbF;go_enter func42,ntmps42;go_upto_region 2 with(go_at_call 102;refine H0.out.mono ?_;rintro e w1 ⟨rfl,qZ,kF⟩);obtain⟨v,⟨c0,z0,c1,z1⟩,⟨a,cap,rfl,_⟩,_⟩:=qZ.ln;rw[EH]at c0;have hmk:∀w,(Instr.makeSlice 80 (J (n:Int)) (J (n:Int))).run prog w=.ok (aF w.heap.size n n) (w.alloc (.cells (madeCells #[J 0] (n*1)) 3)):=λw=>tX 80 3 (J 0) 1 8 underlying80 aOM de n om w;clear z0 c1 z1 H0;have HL1:Hid (LS W w1 lb qs (b|| !k0)):=qZ;have aV9:=qZ.lt;have HNM:Hid (∀k,k<n->∀wr b',LS W wr lb (qs.drop k) b'->LM W 102 #[lp lb] lb wr (J (LH qs k)) (qs.drop (k+1)) (b'|| !uS (qs.getD k (tx [])))):=λk hk wr b' hl=>by
  have e:(qs.drop k).headD (tx [])=qs.getD k (tx []):=by rw[qF,<-List.head?_drop];cases qs.drop k<;>rfl
  have EI:k<qs.length:=om;have:=X0 hl (by rw[e,qF,Dj EI];exact jB _ (List.getElem_mem EI));rw[e,List.tail_drop]at this;exact this
 have HOK:Hid (∀k,k<n->okN (qs.drop k)=(uS (qs.getD k (tx []))&&okN (qs.drop (k+1)))):=λk hk=>by
  have EI:k<qs.length:=om;rw[List.drop_eq_getElem_cons EI,okN,qF,Dj EI];rfl
 have HEN:Hid (qs.drop n=[]):=List.drop_eq_nil_of_le om;clear qZ jB EH;go_wp2;go_loopw [19] (λi wr=>∃(k:Nat) (b':Bool),k<=n/\i=J (k:Int)/\LS W wr lb (qs.drop k) b'/\Lk lb w wr/\Ic wr w1.heap.size n k (LH qs)/\Hid ((b'|| !okN (qs.drop k))=bF)/\w1.heap.size<wr.heap.size) (λi _=>n-(intOf i).toNat)
 case atStart=>
  have hg:Gb w1 (w1.alloc (.cells (madeCells #[J 0] n) 3)):=Gb.alloc (Gb.refl _) _;refine⟨0,_,fV _,rfl,HL1.out.more hg,kF.trans (Lk.of hg),⟨λj hj=>?_,λj hj=>bG hj om⟩,HF.out,by simp⟩;have hz:(madeCells #[Value.int .i64 0] n).size =n:=size_madeCells _ _;exact⟨(madeCells #[Value.int .i64 0] n)[j]'(by rw[hz];exact hj),by simp[go_sem,hz,hj],by simp[go_sem]⟩
 case round=>
  obtain⟨k,b',hk,rfl,hls,hlk,hic,HB,qY⟩:=hrel;have HI:Hid (Ic wr w1.heap.size n k (LH qs)):=hic;have lM:w1.heap.size≠lb:=om;by_cases h0:(k:Int)<(n:Int)
  .have HN:=HNM k om wr b' hls;have HN:Hid (LM W 102 #[lp lb] lb wr (J (LH qs k)) (qs.drop (k+1)) (b'|| !uS (qs.getD k (tx [])))):=HN;obtain⟨x,hx⟩:=dP (LH qs k);have HX:Hid (LH qs k=x):=hx;rw[hx]at HN;have HB2:Hid (((b'|| !uS (qs.getD k (tx [])))|| !okN (qs.drop (k+1)))=bF):=by
    show _=_;rw[<-HB.out,HOK.out k (by omega)];cases b'<;>cases uS (qs.getD k (tx []))<;>simp
   generalize uS (qs.getD k (tx []))=o1 at*
   obtain⟨u,d1,y1⟩:=hic.1 k om;clear hic hx hls;go_wp2_with (go_at_call 102;refine HN.out.mono ?_;rintro e w2 ⟨rfl,Az,m_⟩;have d2:=m_.old d1 lM;have y2:=(World.frozen?_of_block (a:=⟨w1.heap.size,k,none⟩) (m_.block w1.heap.size (aA d1) lM)).trans y1);go_roundw
   case rel=>
    have hq:=(HI.out.lk m_ lM).put (om:k<n);rw[HX.out]at hq;have hs2:=m_.size;have aE0:=Az.lt;have hB:Below (lb+1) w2 (w2.setCell ⟨w1.heap.size,k,none⟩ (J x)):=(Below.refl (lb+1) w2).setCell (p:=⟨w1.heap.size,k,none⟩) (om:lb+1<=w1.heap.size) _;refine⟨k+1,b'|| !o1,om,jS,Az.below hB om,?_,hq,HB2.out,jA⟩;exact(hlk.trans m_).below ((Below.refl w.heap.size w2).setCell (p:=⟨w1.heap.size,k,none⟩) kF.size _) (dJ _)
   case measure=>exact qL
  .obtain rfl:k=n:=om;obtain⟨b2,mY⟩:=x_n b';have HB2:Hid (b'=bF):=by
    have:=HB.out;rw[HEN.out,okN,Bool.not_true,Bool.or_false]at this;exact this
   rw[HEN.out]at hls;have hT:(k:Int).tdiv 2=((k/2:Nat):Int):=by rw[Int.tdiv_eq_ediv_of_nonneg (by omega)];omega
   obtain⟨h,hh⟩:=dP (k/2);obtain⟨v1,v2,s1,s2,wz,tY⟩:=aIl (nb:=w1.heap.size) (wr:=wr) k h om om hic.2;have hT2:(k:Int)/2=((k/2:Nat):Int):=om;rw[hh]at hT hT2 HA;have HH:Hid (k/2=h):=hh;have HR1:Hid (jd wr v1 h (LH qs)):=wz;have HR2:Hid (jd wr v2 (k-h) (λj=>LH qs (h+j))):=tY;have HLS:Hid (LS W wr lb [] b'):=hls;have HLK:Hid (Lk lb w wr):=hlk;clear hic wz tY HI HNM HOK HEN HB hls mY hh;generalize((h:Nat):Int)=H at*
   have HSY:Hid (∀w3,Gb W w3->∀v,jd w3 v N G->QB 100 #[v] w3 (.string (nH N G))):=λw3 hg v hr=>aHt (hW.pw.gb hg) hr hN hG;have hlw:lb<wr.heap.size:=om;clear hW hG HF HL1;go_wp2;go_region_held3 (λw'=>True)(trivial)((go_at_call 103;refine(HA _ _ _ (HLS.out.gb.trans kg) (HR1.out.gb kg) (HR2.out.gb kg)).mono ?_;rintro e w2 ⟨v,rfl,ho,aC⟩))
   all_goals
    have aTR:Nb lb v:=ho.nb (by simpa using hlw);have HRo:Hid (jd w2 v N G):=ho.ro;clear ho;go_wp2_with (first|(go_at_call 104;refine(pI (HLS.out.more kg) _).mono ?_;rintro e w3 ⟨rfl,vk,zu⟩)|(go_at_call 100;refine ku (HSY _ vk.gb _ (HRo.out.lk zu aTR)) λw4 bg=>?_))
    go_returns;exact⟨rfl,by rw[<-HB2.out];exact vk.more bg,((HLK.out.trans (Lk.of kg)).trans zu).trans (Lk.of bg)⟩
def hmf:∀(fn:Fn) (first cap:Array Value) (w:ak),(Instr.makeFunc fn first cap).run prog w=.ok (.func fn first cap) w:=λ_ _ _ _=>rfl
abbrev FoC(p:Int)(G cb:Nat):Value:=.agg #[J p,.func (.func G) #[] #[.pointer (some ⟨cb,0,none⟩)]]
abbrev MkF(F:Nat)(u:Value)(p:Int)(G:Nat):Prop:=∀w,Calls prog F #[u] w λe w'=>∃cb,e=Y (FoC p G cb)/\w.heap.size<=cb/\aB w' cb 0 u/\Gb w w'
def aOA(k:Nat):MkF 25 (.func (.func k) #[] #[]) 4 76:=λw=>by
 have h:=hmf;go_enter func25,ntmps25;go_wp2;exact gY (v:=FoC 4 76 w.heap.size) (by simp[results,results25,go_sem]) rfl ⟨w.heap.size,rfl,dJ _,by simp[go_sem],kg⟩
def mk_one(k:Nat):MkF 31 (.func (.func k) #[] #[]) 3 87:=λw=>by
 have h:=hmf;go_enter func31,ntmps31;go_wp2;exact gY (v:=FoC 3 87 w.heap.size) (by simp[results,results31,go_sem]) rfl ⟨w.heap.size,rfl,dJ _,by simp[go_sem],kg⟩
def aQ5(k:Nat):MkF 33 (.func (.func k) #[] #[]) 3 89:=λw=>by
 have h:=hmf;go_enter func33,ntmps33;go_wp2;exact gY (v:=FoC 3 89 w.heap.size) (by simp[results,results33,go_sem]) rfl ⟨w.heap.size,rfl,dJ _,by simp[go_sem],kg⟩
def aOB(sg:Bool):MkF 41 (.bool sg) 3 99:=λw=>by
 have h:=hmf;go_enter func41,ntmps41;go_wp2;exact gY (v:=FoC 3 99 w.heap.size) (by simp[results,results41,go_sem]) rfl ⟨w.heap.size,rfl,dJ _,by simp[go_sem],kg⟩
def Mp(w:ak)(mb:Nat)(l:List (aJ × Value)):Prop:=∃es c,w.heap[mb]?=some (.map es c)/\es.toList.map (λe=>(e.key,e.val))=l.map (λx=>(Value.string x.1,x.2))
def U8(s:aJ):∀(es:List MapEntry) (l:List (aJ × Value)) (i:Nat),es.map (λe=>(e.key,e.val))=l.map (λx=>(Value.string x.1,x.2))->∃r,Instr.findNow .string (.string s) es i=some r/\(r.map (·.2))=(l.find? (λx=>s==x.1)).map (·.2)
 |[],[],i,_=>⟨none,rfl,rfl⟩
 |[],_::_,i,h=>by simp at h
 |_::_,[],i,h=>by simp at h
 |e::es,x::l,i,h=>by
  simp only[List.map_cons,List.cons.injEq,Prod.mk.injEq]at h;obtain⟨⟨h1,h2⟩,h3⟩:=h;unfold Instr.findNow;rw[h1];simp only[Instr.sameNow];by_cases e1:(s==x.1)=true
  .refine⟨some (i,e.val),by rw[e1],?_⟩;rw[List.find?_cons_of_pos (by exact e1)];exact lu some h2
  .obtain⟨r,r1,r2⟩:=U8 s es l (i+1) h3;have e2:(s==x.1)=false:=by simpa using e1
   refine⟨r,by rw[e2];exact r1,?_⟩;rw[List.find?_cons_of_neg (by rw[e2];decide)];exact r2
def Mp.lt{l:List (aJ × Value)}(h:Mp w mb l):mb<w.heap.size:=by
 obtain⟨es,c,h,_⟩:=h;exact(Ap.1 h).1
def Mp.kept{l:List (aJ × Value)}(h:Mp w mb l)(hb:w'.heap[mb]?=w.heap[mb]?):Mp w' mb l:=by
 obtain⟨es,c,h1,h2⟩:=h;exact⟨es,c,hb.trans h1,h2⟩
def aQ8(em:Bool)(n:Nat)(s:aJ)(w:ak):(Instr.checkKey em (n+1) 9 (.string s)).run prog w=.ok () w:=by
 have:=run_underlying underlying9 (P:=prog);rw[Instr.checkKey];simp[this]
def key_ok(em:Bool)(s:aJ)(w:ak):(Instr.checkKey em 10000 9 (.string s)).run prog w=.ok () w:=aQ8 em 9999 s w
def find_ok{es:List MapEntry}{r:Option (Nat × Value)}(h:Instr.findNow .string (.string s) es 0=some r)(w:ak):(Instr.findKey 9 (.string s) es).run prog w=.ok r w:=by
 have:=run_underlying underlying9 (P:=prog);simp[Instr.findKey,this,h]
def aOx{l:List (aJ × Value)}(h:Mp w mb l)(s:aJ)(v:Value)(hs:l.find? (λx=>s==x.1)=none):∃w',(Instr.mapUpdate 30 (.map (some mb)) (.string s) v).run prog w=.ok () w'/\Mp w' mb (l++[(s,v)])/\Lk mb w w':=by
 have fJ:=h.lt;obtain⟨es,c,h1,h2⟩:=h;obtain⟨r,r1,r2⟩:=U8 s es.toList l 0 h2;rw[hs]at r2;obtain rfl:r=none:=by cases r with
  |none=>rfl
  |some x=>cases r2
 have hu:=run_underlying underlying30 (P:=prog);refine⟨{w with heap:=w.heap.setIfInBounds mb (.map (es.push {key:=.string s,val:=v,born:=c}) (c+1))},?_,⟨es.push {key:=.string s,val:=v,born:=c},c+1,?_,?_⟩,rfl,rfl,rfl,by simp,λp hp hn=>?_⟩
 .simp[Instr.mapUpdate,hu,getObj,setObj,Sem.run,h1,key_ok,find_ok r1]
 .simp[fJ]
 .simp[h2]
 .simp[Array.getElem?_setIfInBounds,Ne.symm hn]
abbrev Fk:Type:=(Value × Int × Nat) ⊕ Value
def L_(mb:Nat)(k:Fk)(w:ak)(v:Value):Prop:=match k with
 | .inl (u,p,G)=>∃cb,v=FoC p G cb/\aB w cb 0 u/\cb≠mb
 | .inr v0=>v=v0
def FsL(mb:Nat)(w:ak):List (aJ × Value)->List (aJ × Fk)->Prop
 |[],[]=>True
 |x::l,k::ks=>x.1=k.1/\L_ mb k.2 w x.2/\FsL mb w l ks
 |_,_=>False
def RH(w:ak)(mb:Nat)(ks:List (aJ × Fk)):Prop:=∃l,Mp w mb l/\FsL mb w l ks
def Kc(mb:Nat)(w w':ak):Prop:=∀p u,aB w p 0 u->p≠mb->aB w' p 0 u
def L_.kc{k:Fk}(h:L_ mb k w v)(hk:Kc mb w w'):L_ mb k w' v:=by
 cases k with
 |inl k=>obtain⟨cb,h1,h2,h3⟩:=h;exact⟨cb,h1,hk _ _ h2 h3,h3⟩
 |inr v0=>exact h
def FsL.kc(hk:Kc mb w w'):∀{l:List (aJ × Value)} {ks:List (aJ × Fk)},FsL mb w l ks->FsL mb w' l ks
 |[],[],_=>trivial
 |_::_,_::_,h=>⟨h.1,h.2.1.kc hk,FsL.kc hk h.2.2⟩
 |[],_::_,h=>h
 |_::_,[],h=>h
def FsL.snoc{x:aJ × Value}{k:aJ × Fk}(hx:x.1=k.1/\L_ mb k.2 w x.2):∀{l:List (aJ × Value)} {ks:List (aJ × Fk)},FsL mb w l ks->FsL mb w (l++[x]) (ks++[k])
 |[],[],_=>⟨hx.1,hx.2,trivial⟩
 |_::_,_::_,h=>⟨h.1,h.2.1,FsL.snoc hx h.2.2⟩
 |[],_::_,h=>h.elim
 |_::_,[],h=>h.elim
def FsL.find(s:aJ):∀{l:List (aJ × Value)} {ks:List (aJ × Fk)},FsL mb w l ks->(l.find? (λx=>s==x.1)=none/\ks.find? (λk=>s==k.1)=none)\/∃x k,l.find? (λx=>s==x.1)=some x/\ks.find? (λk=>s==k.1)=some k/\L_ mb k.2 w x.2
 |[],[],_=>.inl ⟨rfl,rfl⟩
 |x::l,k::ks,h=>by
  by_cases e:(s==x.1)=true
  .exact .inr ⟨x,k,List.find?_cons_of_pos (by exact e),List.find?_cons_of_pos (by rw[<-h.1];exact e),h.2.1⟩
  .rw[List.find?_cons_of_neg (by exact e),List.find?_cons_of_neg (by rw[<-h.1];exact e)];exact FsL.find s h.2.2
 |[],_::_,h=>h.elim
 |_::_,[],h=>h.elim
def Kc.gb(h:Gb w w'):Kc mb w w':=λp u hu _=>h.old hu
def Kc.lk(h:Lk mb w w'):Kc mb w w':=λp u hu hn=>h.old hu hn
def RH.gb{ks:List (aJ × Fk)}(h:RH w mb ks)(hg:Gb w w'):RH w' mb ks:=by
 obtain⟨l,h1,h2⟩:=h;exact⟨l,h1.kept (Below.block hg mb h1.lt),h2.kc (.gb hg)⟩
def RH.lt{ks:List (aJ × Fk)}(h:RH w mb ks):mb<w.heap.size:=by
 obtain⟨l,h1,h2⟩:=h;exact h1.lt
def MW(hg:o.guard=none)(m x v:Operand)(hop:o.op=Op.insert 30 m x v)(mb:Nat)(hm:a.eval m=.map (some mb))(hx:a.eval x=.string s)(hv:a.eval v=val){ks:List (aJ × Fk)}(hF:RH w mb ks)(k:Fk)(hk:L_ mb k w val)(hs:ks.find? (λy=>s==y.1)=none)(h:∀w',RH w' mb (ks++[(s,k)])->Lk mb w w'->wpList prog ops Q rest (a.put o.dst undef) w'):wpList prog ops Q (o::rest) a w:=by
 obtain⟨l,h1,h2⟩:=hF;have YA:l.find? (λy=>s==y.1)=none:=by
  rcases h2.find s with c|⟨_,_,_,c,_⟩
  .exact c.1
  .rw[hs]at c;cases c
 obtain⟨w',r1,r2,r3⟩:=aOx h1 s val YA;refine wpList_plain hg λK' hK'=>?_;unfold Oper.wp;simp[execOp,hop,hm,hx,hv,r1,Result.andThen];exact hK' _ _ (h w' ⟨_,r2,(h2.kc (.lk r3)).snoc ⟨rfl,hk.kc (.lk r3)⟩⟩ r3)
abbrev fnv(k:Nat):Value:=.func (.func k) #[] #[]
def jC:List (aJ × Fk):=[
 (tx [97,100,100],.inl (fnv 26,4,76)),
 (tx [115,117,98],.inl (fnv 27,4,76)),
 (tx [109,117,108],.inl (fnv 28,4,76)),
 (tx [102,109,97],.inr (.agg #[J 5,fnv 29])),
 (tx [100,105,118],.inl (fnv 30,4,76)),
 (tx [115,113,114,116],.inl (fnv 32,3,87)),
 (tx [114,101,109],.inl (fnv 34,3,89)),
 (tx [105,110,116],.inr (.agg #[J 4,fnv 35])),
 (tx [116,111,105,110,116],.inr (.agg #[J 4,fnv 36])),
 (tx [99,111,110,118,101,114,116],.inr (.agg #[J 4,fnv 37])),
 (tx [114,111,117,110,100],.inl (fnv 38,3,87)),
 (tx [109,105,110],.inl (fnv 39,3,89)),
 (tx [109,97,120],.inl (fnv 40,3,89)),
 (tx [99,111,109,112,97,114,101],.inl (.bool false,3,99)),
 (tx [115,105,103,110,97,108],.inl (.bool true,3,99)),
 (tx [112,111,108,121],.inr (.agg #[J 0,fnv 42])),
 (tx [115,97,109,112,108,101],.inr (.agg #[J 4,fnv 43]))]
def RH.new(w:ak):RH (w.alloc (.map #[] 0)) w.heap.size []:=⟨[],⟨#[],0,heap_alloc_new w _,rfl⟩,trivial⟩
def aK3(w:ak):CT 12 #[] w λe w'=>∃mb,e=Y (.map (some mb))/\w.heap.size<=mb/\RH w' mb jC/\Gb w w':=by
 have hmm:=@run_makeMap prog;have hF:RH (w.alloc (.map #[] 0)) w.heap.size []:=RH.new w;have hW:Gb w (w.alloc (.map #[] 0)):=Gb.alloc (Gb.refl _) _;go_enter func12,ntmps12;go_wp2_with (first|(go_at_call 25;refine(aOA _ _).mono ?_;rintro e wc ⟨cb,rfl,Ci,Qx,EJ⟩;have fJ:=hF.lt;have hv:=(show L_ w.heap.size (.inl (_,4,76)) wc (FoC 4 76 cb) from ⟨cb,rfl,Qx,om⟩);replace hF:=hF.gb EJ;replace hW:=hW.trans EJ;clear Qx EJ Ci fJ)|(go_at_call 31;refine(mk_one _ _).mono ?_;rintro e wc ⟨cb,rfl,Ci,Qx,EJ⟩;have fJ:=hF.lt;have hv:=(show L_ w.heap.size (.inl (_,3,87)) wc (FoC 3 87 cb) from ⟨cb,rfl,Qx,om⟩);replace hF:=hF.gb EJ;replace hW:=hW.trans EJ;clear Qx EJ Ci fJ)|(go_at_call 33;refine(aQ5 _ _).mono ?_;rintro e wc ⟨cb,rfl,Ci,Qx,EJ⟩;have fJ:=hF.lt;have hv:=(show L_ w.heap.size (.inl (_,3,89)) wc (FoC 3 89 cb) from ⟨cb,rfl,Qx,om⟩);replace hF:=hF.gb EJ;replace hW:=hW.trans EJ;clear Qx EJ Ci fJ)|(go_at_call 41;refine(aOB _ _).mono ?_;rintro e wc ⟨cb,rfl,Ci,Qx,EJ⟩;have fJ:=hF.lt;have hv:=(show L_ w.heap.size (.inl (_,3,99)) wc (FoC 3 99 cb) from ⟨cb,rfl,Qx,om⟩);replace hF:=hF.gb EJ;replace hW:=hW.trans EJ;clear Qx EJ Ci fJ)|(refine MW rfl _ _ _ rfl w.heap.size rfl rfl rfl hF (.inl _) hv rfl ?_;intro wi oC hki;clear hv;replace hF:=oC;replace hW:=hki.gb hW (dJ _);clear oC hki)|(refine MW rfl _ _ _ rfl w.heap.size rfl rfl rfl hF (.inr _) rfl rfl ?_;intro wi oC hki;replace hF:=oC;replace hW:=hki.gb hW (dJ _);clear oC hki))
 go_returns;exact⟨w.heap.size,rfl,dJ _,hF,hW⟩
def aCJ(c:UInt8)(l:List UInt8):∀a:List UInt8,c ∉ a->Lib.index (a++c::l) [c]=(a.length:Int)
 |[],_=>by rw[List.nil_append,Lib.index];simp[List.isPrefixOf]
 |b::a,h=>by
  have hb:¬b=c:=λe=>h (by rw[e];exact List.mem_cons_self);have ih:=aCJ c l a (λe=>h (List.mem_cons_of_mem _ e));rw[List.cons_append,Lib.index];simp[List.isPrefixOf,ih,Ne.symm hb]
def aCR(c:UInt8):∀s:List UInt8,c ∈ s->∃a l,s=a++c::l/\c ∉ a
 |b::s,h=>by
  by_cases e:b=c
  .exact⟨[],s,by rw[e];rfl,by simp⟩
  .have h':c ∈ s:=by
    rcases List.mem_cons.1 h with k|k
    .exact bG k.symm e
    .exact k
   obtain⟨a,l,rfl,ha⟩:=aCR c s h';exact⟨b::a,l,rfl,λk=>by
    rcases List.mem_cons.1 k with k|k
    .exact e k.symm
    .exact ha k⟩
def NI(c:UInt8):∀(k:Nat) (s:List UInt8),s.count c=k->Lib.splitK [c] 0 k s=sG c s
 |0,s,h=>by
  rw[Lib.splitK,VI c s (List.count_eq_zero.1 h)]
 |k+1,s,h=>by
  obtain⟨a,l,rfl,ha⟩:=aCR c s (List.count_pos_iff.1 om);have hl:l.count c=k:=by
   rw[List.count_append,List.count_cons_self,List.count_eq_zero.2 ha]at h;omega
  rw[Lib.splitK,aCJ c l a ha,MO c a l ha,<-NI c k l hl];have h1:¬((a.length:Int)== -1)=true:=λe=>by have:=beq_iff_eq.1 e;omega
  rw[aH h1];simp
def aDl(c:UInt8)(s:aJ):Lib.splitB (tx [c]) 0 (Lib.countB s (tx [c])) s=gW c s:=by
 have hc:Lib.countB s (tx [c])=s.data.toList.count c:=Lib.count_one c s.data.toList;have h:=Lib.splitB_data (tx [c]) 0 (Lib.countB s (tx [c])) s;rw[show(tx [c]).data.toList =[c] from rfl,NI c _ _ hc.symm]at h;unfold gW;rw[<-h,List.map_map];have e:(tx ∘ λx:aJ=>x.data.toList)=id:=by
  funext x
  cases x;simp
 rw[e,List.map_id]
def Ml(w:ak):Prop:=∃m:Int,aB w 1 0 (J m)
def Ml.gb(h:Ml w)(hg:Gb w w'):Ml w':=by
 obtain⟨m,h⟩:=h;exact⟨m,hg.old h⟩
def aCk(c:UInt8)(s:aJ)(hs:s.size<4294967281)(hm:Ml w):CT 24 #[.string s,.string (tx [c])] w λe w'=>e=Y (.slice (some ⟨w.heap.size,0,none⟩) (gW c s).length (gW c s).length)/\w'=w.alloc (.cells ((gW c s).map Value.string).toArray 9):=by
 obtain⟨m,hm⟩:=hm;have hl:=Lib.splitB_all (tx [c]) (by rw[dZ];simp) 0 _ s rfl;have:=strings_Split s (tx [c]) m w hs hm (by rw[dZ];simp);rw[aDl]at hl this;rw[hl];exact this
abbrev LkI(w:ak)(mb:Nat)(p0:aJ)(t:Value):Prop:=Hid (∀w',Gb w w'->(Instr.lookup 30 (.map (some mb)) (.string p0) true).run prog w'=.ok t w')
def U7{ks:List (aJ × Fk)}(h:RH w mb ks)(s:aJ):(ks.find? (λk=>s==k.1)=none/\LkI w mb s (.tuple #[.agg #[J 0,Value.nilFunc],.bool false]))\/∃k v,ks.find? (λk=>s==k.1)=some k/\L_ mb k.2 w v/\LkI w mb s (.tuple #[v,.bool true]):=by
 obtain⟨l,⟨es,c,h1,h2⟩,h3⟩:=h;obtain⟨r,r1,r2⟩:=U8 s es.toList l 0 h2;have hu:=run_underlying underlying30 (P:=prog);have hz:=zeroValue56;have hb:∀w',Gb w w'->w'.heap[mb]?=some (.map es c):=λw' hg=>(Below.block hg mb (Ap.1 h1).1).trans h1;rcases h3.find s with⟨c1,c2⟩|⟨x,k,c1,c2,c3⟩
 .refine .inl ⟨c2,λw' hg=>?_⟩;rw[c1]at r2;obtain rfl:r=none:=by cases r with
   |none=>rfl
   |some x=>cases r2
  simp[Instr.lookup,hu,getObj,Sem.run,hb w' hg,key_ok,find_ok r1,hz]
 .refine .inr ⟨k,x.2,c2,c3,λw' hg=>?_⟩;rw[c1]at r2;obtain⟨q,rfl⟩:∃q,r=some q:=by cases r with
   |none=>cases r2
   |some x=>exact⟨x,rfl⟩
  have e:q.2=x.2:=by simpa using r2
  simp[Instr.lookup,hu,getObj,Sem.run,hb w' hg,key_ok,find_ok r1,e]
def IY(hg:o.guard=none)(m x:Operand)(hop:o.op=Op.lookup 30 m x true)(mb:Nat)(hm:a.eval m=.map (some mb))(hx:a.eval x=.string s){t:Value}(hr:(Instr.lookup 30 (.map (some mb)) (.string s) true).run prog w=.ok t w)(h:wpList prog ops Q rest (a.put o.dst t) w):wpList prog ops Q (o::rest) a w:=by
 refine wpList_plain hg λK' hK'=>?_;unfold Oper.wp;simp[execOp,hop,hm,hx,hr,Result.andThen];exact hK' _ _ h
def pq.aQ7(w:ak)(l:List aJ)(hl:l.length<=maxLen):pq (w.alloc (.cells (l.map Value.string).toArray 9)) (aF w.heap.size l.length l.length) l.length (λj=>l.getD j default):=by
 refine⟨_,_,rfl,dJ _,hl,λ_=>⟨w.heap.size,0,rfl,λj hj=>?_⟩⟩;have e:(l.map Value.string).toArray[0+j]?=some (.string (l.getD j default)):=by simp[qF,hj]
 simpa[go_sem]using e
def UL(s:aJ)(hs:s.size<=100000)(hm:Ml w)(hc:gW 32 s=p0::qs):∃W1 a1 o1 c1,Hid (CT 24 #[.string s,.string (tx [32])] w λe w'=>e=Y (aF w.heap.size (qs.length+1) (qs.length+1))/\w'=W1)/\Gb w W1/\W1.heap.size=w.heap.size+1/\aB W1 w.heap.size 0 (.string p0)/\(∀w',(Instr.slice 26 (aF w.heap.size (qs.length+1) (qs.length+1)) (some (J 1)) none none).run prog w'=.ok (.slice a1 qs.length c1) w')/\Hid (pq W1 (.slice a1 qs.length c1) qs.length (λj=>qs.getD j default))/\a1=some ⟨w.heap.size,o1,none⟩:=by
 have h:=aCk 32 s om hm;rw[hc]at h;have hl:(p0::qs).length <=maxLen:=by
  have:=F7 32 s.data.toList;have e:(sG 32 s.data.toList).length =(p0::qs).length :=by rw[<-hc];unfold gW;rw[List.length_map]
  rw[e,dN]at this;unfold maxLen;omega
 have hr:=pq.aQ7 w (p0::qs) hl;obtain⟨a1,c1,r1,r2,o1,rfl⟩:=hr.aRX;refine⟨_,_,o1,c1,h,Gb.alloc (Gb.refl _) _,dV _ _,?_,r1,?_,rfl⟩
 .obtain⟨a,cap,e,_,_,aW⟩:=hr;obtain⟨b,o,e2,hx⟩:=aW (Nat.succ_pos _);simp only[Value.slice.injEq]at e;obtain⟨rfl,_⟩:=e;simp only[Option.some.injEq,Addr.mk.injEq,and_true]at e2;obtain⟨rfl,rfl⟩:=e2;exact hx 0 (Nat.succ_pos _)
 .have:(λj=>(p0::qs).getD (1+j) default)=λj=>qs.getD j default:=by
   funext j;rw[Nat.add_comm];simp
  rw[<-this];exact r2
def aL0{P:Prop}(h:P:=by
 have HG1:Hid (Gb w W1):=su;clear su;go_enter func14,ntmps14;go_upto_region 2 with(go_at_call 24;refine HS.out.mono ?_;rintro e w1 ⟨rfl,Qu⟩;subst Qu);clear HS;go_upto_region 3 with(fail);have hi0:(0:Int)<((n+1:Nat):Int):=om;have q1:=λob=>bC ob q0;clear LX;go_upto_region 4 with(refine IY rfl _ _ rfl mb rfl rfl (HL _ (HG1.out.trans (Gb.alloc (Gb.refl _) _))) ?_);clear q1 q0 hi0 HL;go_wp2;go_returns;exact⟨rfl,HG1.out.trans ((Gb.alloc (Gb.refl _) _).trans (Gb.alloc (Gb.refl _) _))⟩):P:=h
abbrev fnc(G:Nat)(cap:Array Value):Value:=.func (.func G) #[] cap
abbrev SpI(w W1:ak)(s:aJ)(n:Nat):Prop:=Hid (CT 24 #[.string s,.string (tx [32])] w λe w'=>e=Y (aF w.heap.size (n+1) (n+1))/\w'=W1)
def aSd(HS:SpI w W1 s n)(su:Gb w W1)(q0:aB W1 w.heap.size 0 (.string p0))(LX:∀w',(Instr.slice 26 (aF w.heap.size (n+1) (n+1)) (some (J 1)) none none).run prog w'=.ok (.slice (some ⟨w.heap.size,o1,none⟩) n c1) w')(HL:LkI w mb p0 (.tuple #[.agg #[J 0,Value.nilFunc],.bool false])):QB 14 #[.map (some mb),.string s] w (.string jO):=by
 exact aL0
def aNB(HS:SpI w W1 s n)(su:Gb w W1)(q0:aB W1 w.heap.size 0 (.string p0))(LX:∀w',(Instr.slice 26 (aF w.heap.size (n+1) (n+1)) (some (J 1)) none none).run prog w'=.ok (.slice (some ⟨w.heap.size,o1,none⟩) n c1) w'){G:Nat}(HL:LkI w mb p0 (.tuple #[.agg #[J p,fnc G cap],.bool true]))(hp:(p != 0)=true)(hpn:(p != (n:Int))=true):QB 14 #[.map (some mb),.string s] w (.string jO):=by
 exact aL0
def pq.head{cap:Nat}{g:Nat->aJ}(h:pq w (aF b n cap) n g)(hm:m<=n):pq w (aF b m cap) m g:=by
 obtain⟨a,c,e,h1,h2,h3⟩:=h;simp only[Value.slice.injEq]at e;obtain⟨rfl,_,rfl⟩:=e;refine⟨_,_,rfl,om,h2,λhp=>?_⟩;obtain⟨b',o,e,hc⟩:=h3 om;exact⟨b',o,e,λj hj=>hc j om⟩
def aKB(s:aJ)(hs:s.size<=100000)(hm:Ml w):CT 11 #[.string s] w λe w'=>∃c,e=Y (.slice (some ⟨w.heap.size,0,none⟩) (qE s).length c)/\pq w' (.slice (some ⟨w.heap.size,0,none⟩) (qE s).length c) (qE s).length (λj=>(qE s).getD j default)/\Gb w w':=by
 have YI:=F7 10 s.data.toList;rw[dN]at YI;have aCM:(gW 10 s).length =(sG 10 s.data.toList).length :=by unfold gW;rw[List.length_map]
 have jZ:=List.length_pos_iff.2 (F8 10 s.data.toList);have HS:=aCk 10 s om hm;have hr:=pq.aQ7 w (gW 10 s) (by unfold maxLen;omega);have hl:qE s=if(gW 10 s).getLast? =some (tx [])then(gW 10 s).dropLast else gW 10 s:=rfl
 have su:Gb w (w.alloc (.cells ((gW 10 s).map Value.string).toArray 9)):=Gb.alloc (Gb.refl _) _;generalize w.alloc (.cells ((gW 10 s).map Value.string).toArray 9)=W1 at*
 generalize gW 10 s=L at*
 obtain⟨n,hn⟩:∃n,L.length=n+1:=⟨L.length-1,om⟩;have DC:L.getLast?=some (L.getD n default):=by
  rw[List.getLast?_eq_getElem?,hn,Nat.add_sub_cancel,qF,Dj (by omega)];rfl
 have hx:aB W1 w.heap.size n (.string (L.getD n default)):=by
  obtain⟨a,cap,e,_,_,aW⟩:=hr;obtain⟨b,o,e2,hx⟩:=aW om;simp only[Value.slice.injEq]at e;obtain⟨rfl,_⟩:=e;simp only[Option.some.injEq,Addr.mk.injEq,and_true]at e2;obtain⟨rfl,rfl⟩:=e2;have:=hx n om
  rwa [Nat.zero_add]at this
 have HS:Hid (CT 24 #[.string s,.string (tx [10])] w λe w'=>e=Y (aF w.heap.size (n+1) (n+1))/\w'=W1):=by rw[hn]at HS;exact HS
 rw[hn]at hr;have Qu:IntKind.i64.wrap (((n+1:Nat):Int)-1)=(n:Int):=by rw[dI];omega
 have kK:wrap64 (n:Int)=(n:Int):=by unfold wrap64;omega
 by_cases e:L.getD n default=tx []
 .have e':qE s=L.dropLast:=by rw[hl,aQ (by rw[DC,e])]
  have hd:L.dropLast.length=n:=by rw[List.length_dropLast];omega
  have HR:Hid (pq W1 (aF w.heap.size n (n+1)) n (λj=>(qE s).getD j default)):=by
   obtain⟨a,c,q1,q2,q3,q4⟩:=pq.head hr (m:=n) om;refine⟨a,c,q1,q2,q3,λhp=>?_⟩;obtain⟨b,o,q5,q6⟩:=q4 hp;refine⟨b,o,q5,λj hj=>?_⟩;refine(q6 j hj).trans ?_;rw[e'];show some (Value.string (L.getD j default))=some (Value.string (L.dropLast.getD j default));rw[qF,qF,List.getElem?_dropLast,aQ (by omega)]
  have c0:((L.getD n default).toList ==[])=true:=by rw[e,ByteArray.toList_eq];rfl
  rw[show(qE s).length =n by rw[e'];exact hd];have LX:∀w',(Instr.slice 26 (aF w.heap.size (n+1) (n+1)) none (some (J (n:Int))) none).run prog w'=.ok (aF w.heap.size n (n+1)) w':=λw'=>by
   have z:=sizeOf9;rw[run_slice_h (P:=prog) w' 26 _ (n+1) (n+1) (by rw[KH];exact underlying26) .i64 (n:Int) om (by omega)];simp[sliced,KH,z,Addr.add]
  generalize L.getD n default=x at*
  have HG:Hid (Gb w W1):=su;clear hr hl YI aCM jZ hn DC e e' hd su hm hs;go_enter func11,ntmps11;go_upto_region 3 with(go_at_call 24;refine HS.out.mono ?_;rintro e w1 ⟨rfl,aOQ⟩;subst aOQ);have i0:(0:Int)<=(n:Int):=om;have i1:(n:Int)<((n+1:Nat):Int):=om;go_upto_region 4 with(fail);clear i0 i1;go_wp2;go_returns;exact⟨_,rfl,HR.out,HG.out⟩
 .have e':qE s=L:=by rw[hl,aH (by rw[DC];simpa using e)]
  have HR:Hid (pq W1 (aF w.heap.size (n+1) (n+1)) (n+1) (λj=>(qE s).getD j default)):=by rw[e'];exact hr
  have c0:((L.getD n default).toList ==[])=false:=by
   have:=zJ e
   rwa [ByteArray.toList_eq (tx [])]at this
  rw[show(qE s).length =n+1 by rw[e'];exact hn];generalize L.getD n default=x at*
  have HG:Hid (Gb w W1):=su;clear hr hl YI aCM jZ hn DC e e' su hm hs;go_enter func11,ntmps11;go_upto_region 3 with(go_at_call 24;refine HS.out.mono ?_;rintro e w1 ⟨rfl,aOQ⟩;subst aOQ);have i0:(0:Int)<=(n:Int):=om;have i1:(n:Int)<((n+1:Nat):Int):=om;go_wp2;go_returns;exact⟨_,rfl,HR.out,HG.out⟩
def aGn(l:List UInt8)(t:aJ):Lib.byteCells l++Lib.strCells (t++tx [10])=Lib.byteCells (l++t.data.toList++[10]):=by
 unfold Lib.byteCells Lib.strCells;simp[ByteArray.data_append]
def aQk(s:aJ)(hs:s.size<=1048576)(an:Nat->aJ)(ha:∀j,(an j).size <=5000)(hm:Ml w)(HL:Hid (∀j,j<(qE s).length ->s.size<=100000->∀w' mb,Gb w w'->RH w' mb jC->QB 14 #[.map (some mb),.string ((qE s).getD j default)] w' (.string (an j)))):QB 6 #[.string s] w (.string (yF s an)):=by
 by_cases h0:100000<s.size
 .have h0':(100000:Int)<(s.size:Int):=om;rw[show yF s an=tx [116,111,111,32,108,111,110,103,10] by unfold yF;rw[aQ (.inl h0)]];clear HL hm ha;go_enter func6,ntmps6;go_wp2;go_returns;exact⟨rfl,Gb.refl _⟩
 have h0':¬(100000:Int)<(s.size:Int):=om;have HN:Hid (CT 11 #[.string s] w λe w'=>∃c,e=Y (.slice (some ⟨w.heap.size,0,none⟩) (qE s).length c)/\pq w' (.slice (some ⟨w.heap.size,0,none⟩) (qE s).length c) (qE s).length (λj=>(qE s).getD j default)/\Gb w w'):=aKB s om hm;obtain⟨n,hn⟩:=dP ((qE s).length);rw[hn]at HN HL;by_cases h1:1000<n
 .have h1':(1000:Int)<(n:Int):=om;rw[show yF s an=tx [116,111,111,32,108,111,110,103,10] by unfold yF;rw[aQ (.inr om)]];clear HL hm ha hn;go_enter func6,ntmps6;go_wp2_with (go_at_call 11;refine HN.out.mono ?_;rintro e w1 ⟨c,rfl,wz,su⟩);go_returns;exact⟨rfl,su⟩
 have h1':¬(1000:Int)<(n:Int):=om;have HE:Hid (tx (tH an n)=yF s an):=by show _=_;unfold yF;rw[hn,aH (by omega)]
 have HA:Hid (∀j,(an j).size <=5000):=ha;have HL:Hid (∀j,j<n->∀w' mb,Gb w w'->RH w' mb jC->QB 14 #[.map (some mb),.string ((qE s).getD j default)] w' (.string (an j))):=λj hj=>HL j hj om;generalize yF s an=T at*
 clear ha hm hn;go_enter func6,ntmps6;go_upto_region 7 with(first|(go_at_call 11;refine HN.out.mono ?_;rintro e w1 ⟨c,rfl,wz,su⟩)|(go_at_call 12;refine(aK3 _).mono ?_;rintro e w2 ⟨mb,rfl,hmb,hF,uH⟩))
 have HR:Hid (pq w2 (aF w.heap.size n c) n (λj=>(qE s).getD j default)):=wz.gb uH;have HF:Hid (RH w2 mb jC):=hF;have HG:Hid (Gb w w2):=su.trans uH;clear wz hF su uH hmb HN;go_wp2;go_loopw [19] (λi wr=>∃k:Nat,k<=n/\i=J (k:Int)/\wU w2.heap.size w2.heap.size (Lib.byteCells (tH an k)) wr/\Gb w2 wr) (λi _=>n-(intOf i).toNat)
 case atStart=>exact⟨0,fV _,rfl,Lib.fresh_isBuilder _ _ w2,Gb.alloc (Gb.refl _) _⟩
 case round=>
  obtain⟨k,hk,rfl,hbd,hg⟩:=hrel;have HB:Hid (wU w2.heap.size w2.heap.size (Lib.byteCells (tH an k)) wr):=hbd;have qY:=hg.size;have hol:=XP HA.out k;clear hbd;by_cases fJ:(k:Int)<(n:Int)
  .obtain⟨b,o,e,hx⟩:∃b o,(some (⟨w.heap.size,0,none⟩:Addr))=some ⟨b,o,none⟩/\aB wr b (o+k) (.string ((qE s).getD k default)):=by
    obtain⟨a,cap,e,_,_,aW⟩:=HR.out.gb hg;obtain⟨b,o,e2,hx⟩:=aW om;simp only[Value.slice.injEq]at e;exact⟨b,o,by rw[e.1,e2],hx k om⟩
   simp only[Option.some.injEq,Addr.mk.injEq,and_true]at e;obtain⟨rfl,rfl⟩:=e;rw[Nat.zero_add]at hx;have HLk:Hid (CT 14 #[.map (some mb),.string ((qE s).getD k default)] wr λe bf=>e=Y (.string (an k))/\Gb wr bf):=HL k om wr mb (HG.out.trans hg) (HF.out.gb hg);have hak:=HA k;have HW:Hid (∀w3,wU w2.heap.size w2.heap.size (Lib.byteCells (tH an k)) w3->w2.heap.size<=w3.heap.size->CT 13 #[.pointer (some ⟨w2.heap.size,0,none⟩),.string (an k++tx [10])] w3 λe w4=>(∃t,e=Y t)/\aJn w2.heap.size w2.heap.size (Lib.byteCells (tH an (k+1))) w4/\Below w2.heap.size w3 w4):=λw3 hb hz=>by
    have:=aNI (an k++tx [10]) hb (by rw[Lib.byteCells_length,ByteArray.size_append,show(tx [10]).size =1 from rfl];omega) hz;rw[aGn]at this;exact this.mono λe w4 ⟨e1,e2,e3⟩=>⟨⟨_,e1⟩,e2,e3⟩
   generalize(qE s).getD k default=ln at*
   generalize an k=t at*
   have c1:zK (t.size+1):=om;clear hak HL HA hol;go_wp2_with (first|(go_at_call 14;refine HLk.out.mono ?_;rintro e w3 ⟨rfl,uG⟩;have hs3:=uG.size)|(go_at_call 13;refine(HW _ (HB.out.gb uG) om).mono ?_;rintro e w4 ⟨⟨t4,rfl⟩,rE,hB4⟩))
   go_roundw
   case rel=>exact⟨k+1,om,jS,.inr rE,Below.trans (hg.trans uG) hB4⟩
   case measure=>exact qL
  .obtain rfl:k=n:=om;go_wp2_with (go_at_call 15;refine(Tryz.Builder_String_any w2.heap.size w2.heap.size (tH an k) _ HB.out qY).mono ?_;rintro e w6 ⟨rfl,hB6⟩);go_returns;exact⟨b_ (lu Value.string HE.out),HG.out.trans (Below.trans hg hB6)⟩
