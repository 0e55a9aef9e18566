import Derived.Test.YtmiekgjgpmfekaaGreatDoorQa
import Derived.Deep.Cut
set_option linter.all false
set_option maxRecDepth 1000000
set_option maxHeartbeats 40000000
open Go.Proofs.YtmiekgjgpmfekaaGreatDoor renaming vU → J
open Go.Proofs.Tryz
namespace Go.Proofs.YtmiekgjgpmfekaaGreatDoor
open Go.RowKit
attribute [local go_sem] aj bK
variable{w:World}{mu inv scale r h e u c v:Int}{s t:ByteArray}
theorem Hr(hm:Wo mu)(hi:Wo inv)(hs:Wo scale)(hw:Fm w):
  QR 64 #[J mu,J inv,J scale] w (.bool (isC mu inv scale)):=by
 have HM:KR 132 #[iQ 53 (-1022) 1023,J mu] (J (mu%9223372036854775808)):=fun w=>xE (.inr ⟨rfl,rfl,rfl,rfl,rfl,rfl,rfl,rfl,rfl⟩) mu hm.1 (by have:=hm.2;omega) w;obtain⟨c0,c1,c2,c3,c4,c5⟩:=hw;have hC:isC mu inv scale=(decide (mu%9223372036854775808<=4787326403894837248)&&(decide (qo<=inv)&&decide (inv<=4607182418800017408))&&(decide (0<scale)&&decide (scale<=4607182418800017408))):=rfl;have m0:0<=mu%9223372036854775808:=om;have i0:=hi.1;have i1:=hi.2;have s0:=hs.1;have s1:=hs.2;unfold qo at hC;generalize isC mu inv scale=b at*
 generalize mu%9223372036854775808=m at*
 clear hm hi hs;rcases(show(¬m<=4787326403894837248/\b=false)\/(m<=4787326403894837248/\¬4602678819172646912<=inv/\b=false)\/(m<=4787326403894837248/\4602678819172646912<=inv/\¬inv<=4607182418800017408/\b=false)\/(m<=4787326403894837248/\4602678819172646912<=inv/\inv<=4607182418800017408/\¬0<scale/\b=false)\/(m<=4787326403894837248/\4602678819172646912<=inv/\inv<=4607182418800017408/\0<scale/\b=decide (scale<=4607182418800017408)) by
  rw[hC];by_cases a1:m<=4787326403894837248
  ·by_cases a2:4602678819172646912<=inv
   ·by_cases a3:inv<=4607182418800017408
    ·by_cases a4:0<scale
     ·exact .inr (.inr (.inr (.inr ⟨a1,a2,a3,a4,by simp[a1,a2,a3,a4]⟩)))
     ·exact .inr (.inr (.inr (.inl ⟨a1,a2,a3,a4,by simp[a4]⟩)))
    ·exact .inr (.inr (.inl ⟨a1,a2,a3,by simp[a3]⟩))
   ·exact .inr (.inl ⟨a1,a2,by simp[a2]⟩)
  ·exact .inl ⟨a1,by simp[a1]⟩)with⟨a1,rfl⟩|⟨a1,a2,rfl⟩|⟨a1,a2,a3,rfl⟩|⟨a1,a2,a3,a4,rfl⟩|⟨a1,a2,a3,a4,rfl⟩
 all_goals
  clear hC;go_enter func64,ntmps64;go_wp2_with (go_at_call 132;refine ku (HM _) fun w1 ak=>?_);go_returns;exact⟨rfl,ak⟩
abbrev aHc(a b c:Int):Value:=.agg #[J a,J b,J c]
abbrev O1(u c v:Int):Value:=.agg #[J u,.int .u8 c,J v]
structure Ac (w wx:World) (r h e u c v:Int):Prop where
 g:Gr w wx:=by exact kr
 a0:aj wx w.heap.size 0 (J r):=by exact kl
 a1:aj wx w.heap.size 1 (J h):=by exact kl
 a2:aj wx w.heap.size 2 (J e):=by exact kl
 b0:aj wx (w.heap.size+1) 0 (J u):=by exact kl
 b1:aj wx (w.heap.size+1) 1 (.int .u8 c):=by exact kl
 b2:aj wx (w.heap.size+1) 2 (J v):=by exact kl
theorem Wx{o:O7}(H:o.I)(HI:o.In)(hr:Wo r)(hh:Wo h)(he:Wo e)(hu:Wo u)(c0:0<=c)(c1:c<=255)(hv:Wo v)(hw:Fm w)(hT:Tl w)(hD:Dc w):
  QR 70 #[aHc r h e,O1 u c v] w (.tuple #[.int .i64 (OG (iO u) c),.bool (o.acc (OG (iO u) c) (iO u) r h e v)]):=by
 have HB:Hid (∀w',Gr w w'->QW 138 #[J u] w' (.int .i64 (iO u:Nat))):=fun w' hg=>aFC u hu.1 hu.2 (hT.below hg.below);have hn:=zM u;have hz:=OM (iO u) c hn;have hzd:OG (iO u) c=if c%2=1 then((iO u:Nat):Int)+1 else-((iO u:Nat):Int):=rfl
 generalize iO u=n at*
 generalize OG n c=z at*
 have hd:=HI.sub (HI.int z) hr;have hdd:=HI.mul hd hd;have hm:=HI.mul hdd hh;have hq:Wo (4593671619917905920:Int):=Wo.c _;have nn:(n:Int)*n<=18*18:=Int.mul_le_mul om om om om;have nn0:0<=(n:Int)*n:=Int.mul_nonneg om om;have hi:=HI.int ((n:Int)*n);have hmi:=HI.mul hi hq;have hx:=HI.sub hm hmi;have hc:Wo c32:=Wo.c _;have hxc:=HI.mul hx hc;have hy:=HI.fix hxc;have hdy:=H_ (o.fix (o.mul (o.C_ z n r h) c32));have K1:∀n,-9223372036854775808<=n->n<=9223372036854775807->Hid (∀w',Gr w w'->QR 139 #[.int .i64 n] w' (J (o.int n))):=fun n a b w' hg=>H.word.out n a b w' (hw.gr hg);have K2:∀a b,Wo a->Wo b->Hid (∀w',Gr w w'->QR 66 #[J a,J b] w' (J (o.sub a b))):=fun a b ha hb w' hg=>H.minus.out a b ha hb w' (hw.gr hg);have K3:∀a b,Wo a->Wo b->Hid (∀w',Gr w w'->QR 67 #[J a,J b] w' (J (o.mul a b))):=fun a b ha hb w' hg=>H.times.out a b ha hb w' (hw.gr hg);have HW1:=K1 z om om;have OA:=K2 _ _ (HI.int z) hr;have OD:=K3 _ _ hd hd;have OC:=K3 _ _ hdd hh;obtain⟨N,hN⟩:∃N,(n:Int)*n=N:=⟨_,rfl⟩;have HW2:=K1 ((n:Int)*n) om om;have HM3:=K3 _ _ hi hq;have HS2:Hid (∀w',Gr w w'->QR 66 #[J (o.mul (o.mul (o.sub (o.int z) r) (o.sub (o.int z) r)) h),J (o.mul (o.int ((n:Int)*n)) 4593671619917905920)] w' (J (o.C_ z n r h))):=K2 _ _ hm hmi;have HM4:Hid (∀w',Gr w w'->QR 67 #[J (o.C_ z n r h),J c32] w' (J (o.mul (o.C_ z n r h) c32))):=K3 _ _ hx hc;clear K1 K2 K3;have HF:Hid (∀w',Gr w w'->QR 68 #[J (o.mul (o.C_ z n r h) c32)] w' (J (o.fix (o.mul (o.C_ z n r h) c32)))):=fun w' hg=>H.fix.out _ hxc w' (hw.gr hg);have HD:Hid (∀w',Gr w w'->QR 140 #[J (o.fix (o.mul (o.C_ z n r h) c32))] w' (J (jO (o.fix (o.mul (o.C_ z n r h) c32))))):=fun w' hg=>aCa _ hy.1 hy.2 (hD.below hg.below);have HP:KR 141 #[J (jO (o.fix (o.mul (o.C_ z n r h) c32))),J e] (J (o.leaves z n r h e)):=SQ _ _ hdy.1 om he.1 he.2;have HR:Hid (o.acc z n r h e v=decide (v/2<o.leaves z n r h e)):=rfl;have v0:=hv.1;have v1:=hv.2;have hv2:IntKind.u64.wrap (v.tdiv 2)=v/2:=by rw[Int.tdiv_eq_ediv_of_nonneg v0,IntKind.wrap_u64];omega
 generalize o.acc z n r h e v=bb at*
 generalize o.leaves z n r h e=lv at*
 generalize jO (o.fix (o.mul (o.C_ z n r h) c32))=dy at*
 generalize o.fix (o.mul (o.C_ z n r h) c32)=fx at*
 generalize o.mul (o.C_ z n r h) c32=xc at*
 generalize o.C_ z n r h=xx at*
 rw[hN]at HW2 HM3 HS2 nn nn0;have hN2:IntKind.i64.wrap N=N:=wi;generalize o.mul (o.int N) 4593671619917905920=mi at*
 generalize o.mul (o.mul (o.sub (o.int z) r) (o.sub (o.int z) r)) h=mh at*
 generalize o.mul (o.sub (o.int z) r) (o.sub (o.int z) r)=dd at*
 generalize o.sub (o.int z) r=d at*
 generalize o.int N=iN at*
 generalize o.int z=iz at*
 clear hx hxc hy hdy hT hD hw H HI he hu hv hr hh hd hdd hm hq hi hmi hc;rcases(show(c%2=1/\z=(n:Int)+1)\/(c%2=0/\z=-(n:Int)) by
  by_cases h:c%2=1
  ·exact .inl ⟨h,by rw[hzd,if_pos h]⟩
  ·exact .inr ⟨om,by rw[hzd,if_neg h]⟩)with⟨hc2,rfl⟩|⟨hc2,rfl⟩
 all_goals
  clear hzd;go_enter func70,ntmps70;go_upto_region 5 with(go_at_call 138;refine kw (HB _ kr) ?_);go_wp2;go_cut [8] (fun s8 wx=>s8=J d/\Ac w wx r h e u c v)
  case first=>
   go_region_held3 (fun w'=>aj w' w.heap.size 0 (J r)/\aj w' w.heap.size 1 (J h)/\aj w' w.heap.size 2 (J e)/\aj w' (w.heap.size+1) 0 (J u)/\aj w' (w.heap.size+1) 1 (.int .u8 c)/\aj w' (w.heap.size+1) 2 (J v))
    (exact nR)
    (first
     |(go_at_call 139;with_reducible refine ku (HW1.out _ kr) fun w2 aA=>?_)
     |(go_at_call 66;with_reducible refine ku (OA.out _ kr) fun w3 aF=>?_))
   all_goals (go_wp2;go_meet)
   all_goals exact⟨rfl,{}⟩
  case rest=>
   obtain⟨rfl,⟨qg,qa0,qa1,qa2,qb0,qb1,qb2⟩⟩:=hcut;go_wp2;go_cut [9] (fun s9 wx=>s9=J xx/\Ac w wx r h e u c v)
   case first=>
    go_region_held3 (fun w'=>aj w' w.heap.size 0 (J r)/\aj w' w.heap.size 1 (J h)/\aj w' w.heap.size 2 (J e)/\aj w' (w.heap.size+1) 0 (J u)/\aj w' (w.heap.size+1) 1 (.int .u8 c)/\aj w' (w.heap.size+1) 2 (J v))
     (exact nR)
     (first
      |(go_at_call 67;first|(with_reducible refine ku (OD.out _ kr) fun w4 aI=>?_)|(with_reducible refine ku (OC.out _ kr) fun w5 aT=>?_)|(with_reducible refine ku (HM3.out _ kr) fun w6 b_=>?_))
      |(go_at_call 139;with_reducible refine ku (HW2.out _ kr) fun w7 fQ=>?_)
      |(go_at_call 66;with_reducible refine ku (HS2.out _ kr) fun w8 pI=>?_))
    all_goals (go_wp2;go_meet)
    all_goals exact⟨rfl,{}⟩
   case rest=>
    clear qg qa0 qa1 qa2 qb0 qb1 qb2;obtain⟨rfl,⟨qg,qa0,qa1,qa2,qb0,qb1,qb2⟩⟩:=hcut;go_upto_region 8 with(first
     |(go_at_call 67;refine ku (HM4 _ qg) fun w4 aI=>?_)
     |(go_at_call 68;refine ku (HF _ kr) fun w5 aT=>?_)
     |(go_at_call 140;refine ku (HD _ kr) fun w6 b_=>?_;have:=b_.C30 w;have:=b_.C31 w))
    go_region_held3 (fun w'=>aj w' w.heap.size 0 (J r)/\aj w' w.heap.size 1 (J h)/\aj w' w.heap.size 2 (J e)/\aj w' (w.heap.size+1) 0 (J u)/\aj w' (w.heap.size+1) 1 (.int .u8 c)/\aj w' (w.heap.size+1) 2 (J v))
     (exact nR)
     (first
      |(go_at_call 141;with_reducible refine ku (HP.out _) fun w7 fQ=>?_))
    all_goals go_wp2
    all_goals go_returns
    all_goals
     obtain rfl:=HR.out;exact⟨rfl,kr⟩
theorem wI(s:ByteArray)(a b i:Nat)(hb:b<=s.size):j_ (s.extract a b) i=if a+i<b then j_ s (a+i)else 0:=by
 have hz:(s.extract a b).size =b-a:=by rw[ByteArray.size_extract];omega
 unfold j_;by_cases h:a+i<b
 ·rw[if_pos h,dif_pos om,dif_pos (by omega)];rw[ByteArray.getElem_extract]
 ·rw[if_neg h,dif_neg (by omega)]
theorem qP(k:Nat):∀{p q:Nat},(∀i,i<k->j_ s (p+i)=j_ t (q+i))->num s p k=num t q k:=by
 induction k with
 |zero=>intro p q _;rfl
 |succ k ih=>
  intro p q h;show j_ s p+256*num s (p+1) k=j_ t q+256*num t (q+1) k;rw[ih (p:=p+1) (q:=q+1) (fun i hi=>by rw[show p+1+i=p+(i+1) by omega,show q+1+i=q+(i+1) by omega];exact h (i+1) om),show j_ s p=j_ t q from h 0 (by omega)]
theorem aHb(t:ByteArray)(ht:17<=t.size):num (t.extract 0 17) 0 8=num t 0 8:=qP 8 fun i hi=>by
 rw[wI _ _ _ _ ht,if_pos om,Nat.zero_add]
theorem aHa(t:ByteArray)(ht:17<=t.size):j_ (t.extract 0 17) 8=j_ t 8:=by
 rw[wI _ _ _ _ ht,if_pos (by omega)]
theorem aG9(t:ByteArray)(ht:17<=t.size):num ((t.extract 0 17).extract 9 17) 0 8=num t 9 8:=qP 8 fun i hi=>by
 have z1:(t.extract 0 17).size =17:=by rw[ByteArray.size_extract];omega
 rw[wI _ _ _ _ om,if_pos om,wI _ _ _ _ ht,if_pos om,Nat.zero_add,Nat.zero_add]
theorem aBD(t:ByteArray)(lb:Nat)(ht:t.size<17)(hc:aj w lb 0 (.string t)):
  QR 136 #[.pointer (some ⟨lb,0,none⟩)] w (.tuple #[O1 0 0 0,.bool false]):=by
 have h1:(t.size:Int)<17:=om;have hcA:=nS hc;have hlb:=au hc;go_enter func136,ntmps136;go_wp2;go_returns;exact⟨rfl,kr⟩
theorem YZ(t:ByteArray)(lb:Nat)(ht:17<=t.size)(hs:t.size<=1048576)(hc:aj w lb 0 (.string t))(hz:bK w lb 0):
  CT 136 #[.pointer (some ⟨lb,0,none⟩)] w fun e w'=>e=.returned (.tuple #[O1 (num t 0 8) (j_ t 8) (num t 9 8),.bool true])/\Gr (w.setCell ⟨lb,0,none⟩ (.string (t.extract 17 t.size))) w':=by
 have h1:¬(t.size:Int)<17:=om;have hcA:=nS hc;have hzA:=Hq hz;have hlb:=au hc;have h2:(17:Int)<=t.size:=om;have z1:(t.extract 0 17).size =17:=by rw[ByteArray.size_extract];omega
 have z2:((t.extract 0 17).extract 9 17).size =8:=by rw[ByteArray.size_extract];omega
 have D1:KW 137 #[.string (t.extract 0 17)] (J (num t 0 8)):=fun w=>(ZV (t.extract 0 17) om om w).mono fun e w' hh=>⟨hh.1.trans (by rw[aHb t ht]),hh.2⟩;have D2:KW 137 #[.string ((t.extract 0 17).extract 9 17)] (J (num t 9 8)):=fun w=>(ZV ((t.extract 0 17).extract 9 17) om om w).mono fun e w' hh=>⟨hh.1.trans (by rw[aG9 t ht]),hh.2⟩;have q:∀w,(Instr.index 9 (.string (t.extract 0 17)) (.int .i64 8)).run Tryz.prog w=.ok (.int .u8 (j_ t 8)) w:=fun w=>(Dt (t.extract 0 17) 8 om w).trans (by rw[aHa t ht]);have q1:∀w,(Instr.slice 9 (.string t) none (some (.int .i64 17)) none).run Tryz.prog w=.ok (.string (t.extract 0 17)) w:=fun w=>run_slice_string_h w 9 t Tryz.underlying9 .i64 17 om h2;have q2:∀w,(Instr.slice 9 (.string t) (some (.int .i64 17)) none none).run Tryz.prog w=.ok (.string (t.extract 17 t.size)) w:=fun w=>run_slice_string_l w 9 t Tryz.underlying9 .i64 17 om h2;have q3:∀w,(Instr.slice 9 (.string (t.extract 0 17)) (some (.int .i64 9)) none none).run Tryz.prog w=.ok (.string ((t.extract 0 17).extract 9 17)) w:=fun w=>by
  have:=run_slice_string_l w 9 (t.extract 0 17) Tryz.underlying9 .i64 9 om (by rw[z1];omega);rw[z1]at this;exact this
 generalize t.extract 17 t.size=t' at*
 generalize(t.extract 0 17).extract 9 17=t2 at*
 generalize t.extract 0 17=t1 at*
 go_enter func136,ntmps136;go_upto_region 5 with fail;have hsz:(w.setCell ⟨lb,0,none⟩ (.string t')).heap.size =w.heap.size:=World.size_setCell ..;rw[<-hsz];obtain⟨W,hW⟩:∃W,w.setCell ⟨lb,0,none⟩ (.string t')=W:=⟨_,rfl⟩;have hGW:Gr (w.setCell ⟨lb,0,none⟩ (.string t')) W:=by rw[hW];exact Gr.refl _
 rw[hW];clear hW;clear hc hz hcA hzA hsz hlb q1 q2;go_region_held3 (fun w'=>True)
  (trivial)
  (first
   |(go_at_call 137;first|(with_reducible refine kw (D1.out _) ?_)|(with_reducible refine kw (D2.out _) ?_)))
 all_goals go_wp2
 all_goals go_returns
 all_goals exact⟨rfl,kr⟩
theorem Ur(t:ByteArray)(w:World):
  CT 69 #[.string t] w fun e w'=>e=.returned (.func (.func 136) #[] #[.pointer (some ⟨w.heap.size,0,none⟩)])/\w'=w.alloc (.cells #[.string t] 9):=by
 go_enter func69,ntmps69;go_wp2;go_returns;exact⟨rfl,rfl⟩
