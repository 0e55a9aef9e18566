import Derived.Test.YtmiekgjgpmfekaaGreatDoorK3
set_option linter.all false
set_option maxRecDepth 1000000
set_option maxHeartbeats 40000000
open Go.Proofs.YtmiekgjgpmfekaaGreatDoor renaming vI → J, vU → Y
open Go.Proofs.Tryz
namespace Go.Proofs.YtmiekgjgpmfekaaGreatDoor
open Go.RowKit
variable{p mx one inf sg nan mn fb sp f:Int}
theorem XE{P:Prop}(h:P:=by
 have:2^P=2^(nb V-1)*2^k:=by rw[<-Nat.pow_add];congr 1;omega
 rw[this];exact Nat.mul_le_mul_right _ hlo):P:=h
theorem XF{P:Prop}(h:P:=by
 have:2*2^P=2^nb V*2^k:=by rw[<-Nat.pow_add,Nat.mul_comm,<-Nat.pow_succ];congr 1;omega
 rw[this];exact Nat.mul_lt_mul_of_pos_right hhi (Nat.pow_pos de)):P:=h
attribute [local go_sem] aj bK
theorem jR(k:Nat):((2^k:Nat):Int)=(2:Int)^k:=by push_cast;rfl
theorem Rl(h:rZ p mn mx fb sp one inf sg nan)(s v:Int)(v0:0<v)(v1:v<inf)(w:World):
  CT 198 #[iQ p mn mx,J s,Y v] w fun e w'=>∃x g:Int,jE p mx one v x g/\e=.returned (eH 1 s x g)/\Gr w w':=by
 have hp:∃P:Nat,(P:Int)=p-1/\one=2^P/\P<=52:=by
  rcases h with⟨rfl,rfl,rfl,rfl,rfl,rfl,rfl,rfl,rfl⟩|⟨rfl,rfl,rfl,rfl,rfl,rfl,rfl,rfl,rfl⟩
  ·exact⟨23,de,de,de⟩
  ·exact⟨52,de,de,de⟩
 obtain⟨P,hP,hone,aJc⟩:=hp;have hmn:mn-fb=2-mx-p:=by rcases h with h|h<;>omega
 have h52:one<=4503599627370496:=by rcases h with h|h<;>omega
 have h1:0<one:=by rcases h with h|h<;>omega
 by_cases hs:v<one
 ·obtain⟨V,rfl⟩:=Int.eq_ofNat_of_zero_le (show 0<=v by omega);have hVP:V<2^P:=by
   have:((V:Nat):Int)<((2^P:Nat):Int):=by rw[jR,<-hone];exact hs
   omega
  have hnb:nb V<=P:=og hVP;have hb:=wK V om;have hpos:=sO V om;have hlo:=EL V om;have hhi:=uS V;obtain⟨k,hk⟩:∃k:Nat,k+nb V=P+1:=⟨P+1-nb V,om⟩;have e1:2^P<=V*2^k:=by
   exact XE
  have e2:V*2^k<2*2^P:=by
   exact XF
  have hP2:(2:Nat)^P<=4503599627370496:=by
   have:=Nat.pow_le_pow_right (show 0<2 by decide) aJc
   simpa using this
  have hone':one=((2^P:Nat):Int):=by rw[jR];exact hone
  have c1:(V:Int)*2^k=((V*2^k:Nat):Int):=by rw[Int.natCast_mul,jR]
  generalize V*2^k=G at*
  generalize(2:Nat)^P=O at*
  refine(JF h s (V:Int) om hs (nb V:Int) k (by rw[Int.toNat_natCast,hb]) om om (G:Int) c1 om om w).mono ?_;rintro e w' ⟨rfl,hg⟩;exact⟨_,_,⟨k,V,2-mx-p,.inl ⟨hs,rfl,rfl⟩,c1.symm,om,om,om⟩,rfl,hg⟩
 ·have hq:1<=v/one:=by
   have:=Int.le_ediv_of_mul_le h1 (show 1*one<=v by omega);omega
  have hdm:=Int.ediv_mul_add_emod v one;have hr0:=Int.emod_nonneg v (show one≠0 by omega);have hr1:=Int.emod_lt_of_pos v h1;obtain⟨c,hc⟩:∃c:Int,c=v%one+one:=⟨_,rfl⟩;have hcc:v-(v/one-1)*one=c:=by rw[Int.sub_mul];omega
  obtain⟨C,rfl⟩:=Int.eq_ofNat_of_zero_le (show 0<=c by omega);have hone':one=((2^P:Nat):Int):=by rw[jR];exact hone
  have hCb:nb C=P+1:=by
   have a1:2^P<=C:=by generalize(2:Nat)^P=O at*;omega
   have a2:C<2^(P+1):=by rw[Nat.pow_succ];generalize(2:Nat)^P=O at*;omega
   have:=og a2;have:=pq a1;omega
  have hb:=wK C om;refine(Rk h s v (v/one-1) (C:Int) om om om v1 hcc om om (nb C:Int) 0 (by rw[Int.toNat_natCast,hb]) om om (C:Int) (by simp) om om w).mono ?_;rintro e w' ⟨rfl,hg⟩;exact⟨_,_,⟨0,C,1-mx-p+v/one,.inr ⟨om,hc,rfl⟩,by simp,om,om,om⟩,rfl,hg⟩
theorem rZ.bounds(h:rZ p mn mx fb sp one inf sg nan):0<inf/\inf<nan/\nan<sg/\sg<=9223372036854775808/\0<one/\one<inf:=by
 rcases h with h|h<;>omega
theorem XY(W sg:Int)(h0:0<=W)(h1:W<2*sg):W/sg=0/\W%sg=W/\W<sg\/W/sg=1/\W%sg=W-sg/\sg<=W:=by
 by_cases c:W<sg
 ·exact .inl ⟨Int.ediv_eq_zero_of_lt h0 c,Int.emod_eq_of_lt h0 c,c⟩
 ·have e:W=(W-sg)+sg*1:=om;have e1:W/sg=1:=by
   rw[e,Int.add_mul_ediv_left _ _ om,Int.ediv_eq_zero_of_lt om (by omega)];rfl
  have e2:=Int.emod_add_mul_ediv W sg;rw[e1]at e2;exact .inr ⟨e1,om,om⟩
theorem OZ(h:rZ p mn mx fb sp one inf sg nan)(W:Int)(h0:0<=W)(h1:W<2*sg)(w:World):
  CT 156 #[iQ p mn mx,Y W] w fun e w'=>∃c s x g:Int,dY p mx one inf sg nan W c s x g/\e=.returned (eH c s x g)/\Gr w w':=by
 obtain⟨b1,b2,b3,b4,b5,b6⟩:=h.bounds;have HS:KR 196 #[iQ p mn mx,Y W] (J (W/sg)):=fun w=>Pg h W h0 h1 w;have HM:KR 132 #[iQ p mn mx,Y W] (Y (W%sg)):=fun w=>xE h W h0 h1 w;have HI:CZ p mn mx 0 inf:=fun w=>jM h 0 inf (.inl ⟨rfl,rfl⟩) w;have HN:KR 199 #[iQ p mn mx] (Y nan):=fun w=>Dp h w;have hsv:Hid (W/sg=0/\W%sg=W/\W<sg\/W/sg=1/\W%sg=W-sg/\sg<=W):=XY W sg h0 h1;generalize W/sg=s at*
 generalize W%sg=v at*
 have v0:0<=v/\v<sg/\0<=s/\s<=1:=by have:=hsv.out;omega
 have qE:Hid (0<v->v<inf->∀w,CT 198 #[iQ p mn mx,J s,Y v] w fun e w'=>∃x g:Int,jE p mx one v x g/\e=.returned (eH 1 s x g)/\Gr w w'):=fun a b w=>Rl h s v a b w;have hU:Hid (∀c e g:Int,(v=0/\c=0/\e=0/\g=0\/inf<v/\v<nan/\c=4/\e=0/\g=0\/nan<=v/\c=3/\e=0/\g=0\/v=inf/\c=2/\e=0/\g=0\/0<v/\v<inf/\c=1/\jE p mx one v e g)->dY p mx one inf sg nan W c s e g):=fun c e g hc=>⟨v,hsv.out,hc⟩;have WI:pW p mn mx W true:=fun w=>by
  have:=fits_any h W h0 om w;rw[decide_eq_true h1]at this;exact this
 clear h;rcases(show v=0\/(0<v/\v<inf)\/v=inf\/(inf<v/\v<nan)\/nan<=v by omega)with rfl|⟨c1,c2⟩|c1|⟨c1,c2⟩|c1
 ·skip
  go_enter func156,ntmps156;go_wp2_with (go_at_call 88;refine(WI _).mono ?_;rintro e w2 ⟨rfl,aA⟩;obtain⟨pm0,pm1,pm2⟩:oO w2 w.heap.size 0 1 2 (J p) (J mn) (J mx):=⟨kq,kq,kq⟩;obtain⟨kK,Vk,pr1,Vj,pr2,YH,pr3,YG⟩:tq w2 (w.heap.size+1) 0 1 2 3 (J 0) (J 0) (J 0) (Y 0):=⟨kq,kq,kq,kq,kq,kq,kq,kq⟩);go_region_held3 (fun w'=>aj w' w.heap.size 0 (J p)/\aj w' w.heap.size 1 (J mn)/\aj w' w.heap.size 2 (J mx)/\aj w' (w.heap.size+1) 0 (J 0)/\bK w' (w.heap.size+1) 0/\aj w' (w.heap.size+1) 1 (J 0)/\bK w' (w.heap.size+1) 1/\aj w' (w.heap.size+1) 2 (J 0)/\bK w' (w.heap.size+1) 2/\aj w' (w.heap.size+1) 3 (Y 0)/\bK w' (w.heap.size+1) 3)
   ((go_split_ands;(repeat' apply And.intro)<;>exact kl))
   (first
    |(go_at_call 196;refine(HS _).mono ?_;rintro e w3 ⟨rfl,aF⟩;have zC:=aF.cells;have zB:=aF.dK;have kQ:=aF.size;(try simp only[World.size_alloc,World.size_drew,World.size_setCell]at kQ))
    |(go_at_call 132;refine(HM _).mono ?_;rintro e w4 ⟨rfl,aI⟩;have E5:=aI.cells;have EZ:=aI.dK;have oD:=aI.size;(try simp only[World.size_alloc,World.size_drew,World.size_setCell]at oD)))
  all_goals
   (try go_split_ands)
   go_wp2_with (first
    |(go_at_call 197;refine(HI _).mono ?_;rintro e w5 ⟨rfl,aT⟩;obtain⟨am0,am1,am2⟩:oO w5 w.heap.size 0 1 2 (J p) (J mn) (J mx):=⟨kq,kq,kq⟩;obtain⟨fP,Ku,xJ,Kt,WV,az2,ar3,az3⟩:tq w5 (w.heap.size+1) 0 1 2 3 (J 0) (J 0) (J 0) (Y 0):=⟨kq,kq,kq,kq,kq,kq,kq,kq⟩)
    |(go_at_call 199;refine(HN _).mono ?_;rintro e w6 ⟨rfl,b_⟩;obtain⟨jk,bz0,br1,bz1,br2,bz2,br3,bz3⟩:tq w6 (w.heap.size+1) 0 1 2 3 (J 0) (J 0) (J 0) (Y 0):=⟨kq,kq,kq,kq,kq,kq,kq,kq⟩)
    |(go_at_call 198;refine(qE om om _).mono ?_;rintro e w7 ⟨x,g,hn,rfl,fQ⟩;obtain⟨rQ,Z_,cr1,Z9,cr2,cz2,cr3,cz3⟩:tq w7 (w.heap.size+1) 0 1 2 3 (J 0) (J 0) (J 0) (Y 0):=⟨kq,kq,kq,kq,kq,kq,kq,kq⟩))
   refine bodyPost_ret (v:=eH 0 s 0 0) (by simp[results,Tryz.results156,go_sem,fP,xJ,WV,ar3]) rfl ⟨0,s,0,0,hU.out _ _ _ (by first|exact .inl ⟨rfl,rfl,rfl,rfl⟩|exact .inl ⟨trivial,rfl,rfl,rfl⟩),rfl,?_⟩;exact kr
 ·have c3:(v==0)=false:=by simp;omega
  go_enter func156,ntmps156;go_wp2_with (go_at_call 88;refine(WI _).mono ?_;rintro e w2 ⟨rfl,aA⟩;obtain⟨pm0,pm1,pm2⟩:oO w2 w.heap.size 0 1 2 (J p) (J mn) (J mx):=⟨kq,kq,kq⟩;obtain⟨kK,Vk,pr1,Vj,pr2,YH,pr3,YG⟩:tq w2 (w.heap.size+1) 0 1 2 3 (J 0) (J 0) (J 0) (Y 0):=⟨kq,kq,kq,kq,kq,kq,kq,kq⟩);go_region_held3 (fun w'=>aj w' w.heap.size 0 (J p)/\aj w' w.heap.size 1 (J mn)/\aj w' w.heap.size 2 (J mx)/\aj w' (w.heap.size+1) 0 (J 0)/\bK w' (w.heap.size+1) 0/\aj w' (w.heap.size+1) 1 (J 0)/\bK w' (w.heap.size+1) 1/\aj w' (w.heap.size+1) 2 (J 0)/\bK w' (w.heap.size+1) 2/\aj w' (w.heap.size+1) 3 (Y 0)/\bK w' (w.heap.size+1) 3)
   ((go_split_ands;(repeat' apply And.intro)<;>exact kl))
   (first
    |(go_at_call 196;refine(HS _).mono ?_;rintro e w3 ⟨rfl,aF⟩;have zC:=aF.cells;have zB:=aF.dK;have kQ:=aF.size;(try simp only[World.size_alloc,World.size_drew,World.size_setCell]at kQ))
    |(go_at_call 132;refine(HM _).mono ?_;rintro e w4 ⟨rfl,aI⟩;have E5:=aI.cells;have EZ:=aI.dK;have oD:=aI.size;(try simp only[World.size_alloc,World.size_drew,World.size_setCell]at oD)))
  all_goals
   (try go_split_ands)
   go_wp2_with (first
    |(go_at_call 197;refine(HI _).mono ?_;rintro e w5 ⟨rfl,aT⟩;obtain⟨am0,am1,am2⟩:oO w5 w.heap.size 0 1 2 (J p) (J mn) (J mx):=⟨kq,kq,kq⟩;obtain⟨fP,Ku,xJ,Kt,WV,az2,ar3,az3⟩:tq w5 (w.heap.size+1) 0 1 2 3 (J 0) (J 0) (J 0) (Y 0):=⟨kq,kq,kq,kq,kq,kq,kq,kq⟩)
    |(go_at_call 199;refine(HN _).mono ?_;rintro e w6 ⟨rfl,b_⟩;obtain⟨jk,bz0,br1,bz1,br2,bz2,br3,bz3⟩:tq w6 (w.heap.size+1) 0 1 2 3 (J 0) (J 0) (J 0) (Y 0):=⟨kq,kq,kq,kq,kq,kq,kq,kq⟩)
    |(go_at_call 198;refine(qE om om _).mono ?_;rintro e w7 ⟨x,g,hn,rfl,fQ⟩;obtain⟨rQ,Z_,cr1,Z9,cr2,cz2,cr3,cz3⟩:tq w7 (w.heap.size+1) 0 1 2 3 (J 0) (J 0) (J 0) (Y 0):=⟨kq,kq,kq,kq,kq,kq,kq,kq⟩))
   refine bodyPost_ret (v:=eH 1 s x g) (by simp[results,Tryz.results156,go_sem,rQ,cr1,cr2,cr3]) rfl ⟨1,s,x,g,hU.out _ _ _ (.inr (.inr (.inr (.inr ⟨c1,c2,rfl,hn⟩)))),rfl,?_⟩;exact kr
 ·subst c1;have c3:(v==0)=false:=by simp;omega
  go_enter func156,ntmps156;go_wp2_with (go_at_call 88;refine(WI _).mono ?_;rintro e w2 ⟨rfl,aA⟩;obtain⟨pm0,pm1,pm2⟩:oO w2 w.heap.size 0 1 2 (J p) (J mn) (J mx):=⟨kq,kq,kq⟩;obtain⟨kK,Vk,pr1,Vj,pr2,YH,pr3,YG⟩:tq w2 (w.heap.size+1) 0 1 2 3 (J 0) (J 0) (J 0) (Y 0):=⟨kq,kq,kq,kq,kq,kq,kq,kq⟩);go_region_held3 (fun w'=>aj w' w.heap.size 0 (J p)/\aj w' w.heap.size 1 (J mn)/\aj w' w.heap.size 2 (J mx)/\aj w' (w.heap.size+1) 0 (J 0)/\bK w' (w.heap.size+1) 0/\aj w' (w.heap.size+1) 1 (J 0)/\bK w' (w.heap.size+1) 1/\aj w' (w.heap.size+1) 2 (J 0)/\bK w' (w.heap.size+1) 2/\aj w' (w.heap.size+1) 3 (Y 0)/\bK w' (w.heap.size+1) 3)
   ((go_split_ands;(repeat' apply And.intro)<;>exact kl))
   (first
    |(go_at_call 196;refine(HS _).mono ?_;rintro e w3 ⟨rfl,aF⟩;have zC:=aF.cells;have zB:=aF.dK;have kQ:=aF.size;(try simp only[World.size_alloc,World.size_drew,World.size_setCell]at kQ))
    |(go_at_call 132;refine(HM _).mono ?_;rintro e w4 ⟨rfl,aI⟩;have E5:=aI.cells;have EZ:=aI.dK;have oD:=aI.size;(try simp only[World.size_alloc,World.size_drew,World.size_setCell]at oD)))
  all_goals
   (try go_split_ands)
   go_wp2_with (first
    |(go_at_call 197;refine(HI _).mono ?_;rintro e w5 ⟨rfl,aT⟩;obtain⟨am0,am1,am2⟩:oO w5 w.heap.size 0 1 2 (J p) (J mn) (J mx):=⟨kq,kq,kq⟩;obtain⟨fP,Ku,xJ,Kt,WV,az2,ar3,az3⟩:tq w5 (w.heap.size+1) 0 1 2 3 (J 0) (J 0) (J 0) (Y 0):=⟨kq,kq,kq,kq,kq,kq,kq,kq⟩)
    |(go_at_call 199;refine(HN _).mono ?_;rintro e w6 ⟨rfl,b_⟩;obtain⟨jk,bz0,br1,bz1,br2,bz2,br3,bz3⟩:tq w6 (w.heap.size+1) 0 1 2 3 (J 0) (J 0) (J 0) (Y 0):=⟨kq,kq,kq,kq,kq,kq,kq,kq⟩)
    |(go_at_call 198;refine(qE om om _).mono ?_;rintro e w7 ⟨x,g,hn,rfl,fQ⟩;obtain⟨rQ,Z_,cr1,Z9,cr2,cz2,cr3,cz3⟩:tq w7 (w.heap.size+1) 0 1 2 3 (J 0) (J 0) (J 0) (Y 0):=⟨kq,kq,kq,kq,kq,kq,kq,kq⟩))
   refine bodyPost_ret (v:=eH 2 s 0 0) (by simp[results,Tryz.results156,go_sem,fP,xJ,WV,ar3]) rfl ⟨2,s,0,0,hU.out _ _ _ (by first|exact .inr (.inr (.inr (.inl ⟨rfl,rfl,rfl,rfl⟩)))|exact .inr (.inr (.inr (.inl ⟨trivial,rfl,rfl,rfl⟩)))),rfl,?_⟩;exact kr
 ·have c3:(v==0)=false:=by simp;omega
  have c4:(v==inf)=false:=by simp;omega
  go_enter func156,ntmps156;go_wp2_with (go_at_call 88;refine(WI _).mono ?_;rintro e w2 ⟨rfl,aA⟩;obtain⟨pm0,pm1,pm2⟩:oO w2 w.heap.size 0 1 2 (J p) (J mn) (J mx):=⟨kq,kq,kq⟩;obtain⟨kK,Vk,pr1,Vj,pr2,YH,pr3,YG⟩:tq w2 (w.heap.size+1) 0 1 2 3 (J 0) (J 0) (J 0) (Y 0):=⟨kq,kq,kq,kq,kq,kq,kq,kq⟩);go_region_held3 (fun w'=>aj w' w.heap.size 0 (J p)/\aj w' w.heap.size 1 (J mn)/\aj w' w.heap.size 2 (J mx)/\aj w' (w.heap.size+1) 0 (J 0)/\bK w' (w.heap.size+1) 0/\aj w' (w.heap.size+1) 1 (J 0)/\bK w' (w.heap.size+1) 1/\aj w' (w.heap.size+1) 2 (J 0)/\bK w' (w.heap.size+1) 2/\aj w' (w.heap.size+1) 3 (Y 0)/\bK w' (w.heap.size+1) 3)
   ((go_split_ands;(repeat' apply And.intro)<;>exact kl))
   (first
    |(go_at_call 196;refine(HS _).mono ?_;rintro e w3 ⟨rfl,aF⟩;have zC:=aF.cells;have zB:=aF.dK;have kQ:=aF.size;(try simp only[World.size_alloc,World.size_drew,World.size_setCell]at kQ))
    |(go_at_call 132;refine(HM _).mono ?_;rintro e w4 ⟨rfl,aI⟩;have E5:=aI.cells;have EZ:=aI.dK;have oD:=aI.size;(try simp only[World.size_alloc,World.size_drew,World.size_setCell]at oD)))
  all_goals
   (try go_split_ands)
   go_wp2_with (first
    |(go_at_call 197;refine(HI _).mono ?_;rintro e w5 ⟨rfl,aT⟩;obtain⟨am0,am1,am2⟩:oO w5 w.heap.size 0 1 2 (J p) (J mn) (J mx):=⟨kq,kq,kq⟩;obtain⟨fP,Ku,xJ,Kt,WV,az2,ar3,az3⟩:tq w5 (w.heap.size+1) 0 1 2 3 (J 0) (J 0) (J 0) (Y 0):=⟨kq,kq,kq,kq,kq,kq,kq,kq⟩)
    |(go_at_call 199;refine(HN _).mono ?_;rintro e w6 ⟨rfl,b_⟩;obtain⟨jk,bz0,br1,bz1,br2,bz2,br3,bz3⟩:tq w6 (w.heap.size+1) 0 1 2 3 (J 0) (J 0) (J 0) (Y 0):=⟨kq,kq,kq,kq,kq,kq,kq,kq⟩)
    |(go_at_call 198;refine(qE om om _).mono ?_;rintro e w7 ⟨x,g,hn,rfl,fQ⟩;obtain⟨rQ,Z_,cr1,Z9,cr2,cz2,cr3,cz3⟩:tq w7 (w.heap.size+1) 0 1 2 3 (J 0) (J 0) (J 0) (Y 0):=⟨kq,kq,kq,kq,kq,kq,kq,kq⟩))
   refine bodyPost_ret (v:=eH 4 s 0 0) (by simp[results,Tryz.results156,go_sem,jk,br1,br2,br3]) rfl ⟨4,s,0,0,hU.out _ _ _ (.inr (.inl ⟨c1,c2,rfl,rfl,rfl⟩)),rfl,?_⟩;exact kr
 ·have c3:(v==0)=false:=by simp;omega
  have c4:(v==inf)=false:=by simp;omega
  go_enter func156,ntmps156;go_wp2_with (go_at_call 88;refine(WI _).mono ?_;rintro e w2 ⟨rfl,aA⟩;obtain⟨pm0,pm1,pm2⟩:oO w2 w.heap.size 0 1 2 (J p) (J mn) (J mx):=⟨kq,kq,kq⟩;obtain⟨kK,Vk,pr1,Vj,pr2,YH,pr3,YG⟩:tq w2 (w.heap.size+1) 0 1 2 3 (J 0) (J 0) (J 0) (Y 0):=⟨kq,kq,kq,kq,kq,kq,kq,kq⟩);go_region_held3 (fun w'=>aj w' w.heap.size 0 (J p)/\aj w' w.heap.size 1 (J mn)/\aj w' w.heap.size 2 (J mx)/\aj w' (w.heap.size+1) 0 (J 0)/\bK w' (w.heap.size+1) 0/\aj w' (w.heap.size+1) 1 (J 0)/\bK w' (w.heap.size+1) 1/\aj w' (w.heap.size+1) 2 (J 0)/\bK w' (w.heap.size+1) 2/\aj w' (w.heap.size+1) 3 (Y 0)/\bK w' (w.heap.size+1) 3)
   ((go_split_ands;(repeat' apply And.intro)<;>exact kl))
   (first
    |(go_at_call 196;refine(HS _).mono ?_;rintro e w3 ⟨rfl,aF⟩;have zC:=aF.cells;have zB:=aF.dK;have kQ:=aF.size;(try simp only[World.size_alloc,World.size_drew,World.size_setCell]at kQ))
    |(go_at_call 132;refine(HM _).mono ?_;rintro e w4 ⟨rfl,aI⟩;have E5:=aI.cells;have EZ:=aI.dK;have oD:=aI.size;(try simp only[World.size_alloc,World.size_drew,World.size_setCell]at oD)))
  all_goals
   (try go_split_ands)
   go_wp2_with (first
    |(go_at_call 197;refine(HI _).mono ?_;rintro e w5 ⟨rfl,aT⟩;obtain⟨am0,am1,am2⟩:oO w5 w.heap.size 0 1 2 (J p) (J mn) (J mx):=⟨kq,kq,kq⟩;obtain⟨fP,Ku,xJ,Kt,WV,az2,ar3,az3⟩:tq w5 (w.heap.size+1) 0 1 2 3 (J 0) (J 0) (J 0) (Y 0):=⟨kq,kq,kq,kq,kq,kq,kq,kq⟩)
    |(go_at_call 199;refine(HN _).mono ?_;rintro e w6 ⟨rfl,b_⟩;obtain⟨jk,bz0,br1,bz1,br2,bz2,br3,bz3⟩:tq w6 (w.heap.size+1) 0 1 2 3 (J 0) (J 0) (J 0) (Y 0):=⟨kq,kq,kq,kq,kq,kq,kq,kq⟩)
    |(go_at_call 198;refine(qE om om _).mono ?_;rintro e w7 ⟨x,g,hn,rfl,fQ⟩;obtain⟨rQ,Z_,cr1,Z9,cr2,cz2,cr3,cz3⟩:tq w7 (w.heap.size+1) 0 1 2 3 (J 0) (J 0) (J 0) (Y 0):=⟨kq,kq,kq,kq,kq,kq,kq,kq⟩))
   refine bodyPost_ret (v:=eH 3 s 0 0) (by simp[results,Tryz.results156,go_sem,jk,br1,br2,br3]) rfl ⟨3,s,0,0,hU.out _ _ _ (.inr (.inr (.inl ⟨c1,rfl,rfl,rfl⟩))),rfl,?_⟩;exact kr
theorem KJ(h:rZ p mn mx fb sp one inf sg nan)(W:Int)(h0:2*sg<=W)(h1:W<18446744073709551616)(w:World):
  QR 156 #[iQ p mn mx,Y W] w (eH 4 0 0 0):=by
 have WI:pW p mn mx W false:=fun w=>by
  have hb:=h.bounds;have:=fits_any h W om h1 w;rw[decide_eq_false (by omega)]at this;exact this
 clear h;go_enter func156,ntmps156;go_wp2_with (go_at_call 88;refine(WI _).mono ?_;rintro e w2 ⟨rfl,aA⟩;obtain⟨pm0,pm1,pm2⟩:oO w2 w.heap.size 0 1 2 (J p) (J mn) (J mx):=⟨kq,kq,kq⟩;obtain⟨kK,Vk,pr1,Vj,pr2,YH,pr3,YG⟩:tq w2 (w.heap.size+1) 0 1 2 3 (J 0) (J 0) (J 0) (Y 0):=⟨kq,kq,kq,kq,kq,kq,kq,kq⟩);exact bI (by simp[results,Tryz.results156,go_sem,kK,pr1,pr2,pr3])
theorem aBB(h:aP f p mx one inf sg nan)(v:Int)(v0:0<v)(v1:v<inf):∃x g:Int,jE p mx one v x g:=by
 obtain⟨P,hP,aBW,hone⟩:=h.pow;obtain⟨b1,b2,b3,b4,b5,b6,b7,b8,b9,b10,b11,b12⟩:=h.bounds;have hone':one=((2^P:Nat):Int):=by rw[jR];exact hone
 by_cases hs:v<one
 ·obtain⟨V,rfl⟩:=Int.eq_ofNat_of_zero_le (show 0<=v by omega);have hVP:V<2^P:=by generalize(2:Nat)^P=O at*;omega
  have hnb:nb V<=P:=og hVP;have hpos:=sO V om;have hlo:=EL V om;have hhi:=uS V;obtain⟨k,hk⟩:∃k:Nat,k+nb V=P+1:=⟨P+1-nb V,om⟩;have e1:2^P<=V*2^k:=by
   exact XE
  have e2:V*2^k<2*2^P:=by
   exact XF
  have c1:(V:Int)*2^k=((V*2^k:Nat):Int):=by rw[Int.natCast_mul,jR]
  generalize V*2^k=G at*
  generalize(2:Nat)^P=O at*
  exact⟨2-mx-p-k,G,k,V,2-mx-p,.inl ⟨hs,rfl,rfl⟩,c1.symm,rfl,om,om⟩
 ·have hr0:=Int.emod_nonneg v (show one≠0 by omega);have hr1:=Int.emod_lt_of_pos v (show 0<one by omega);exact⟨1-mx-p+v/one-(0:Nat),v%one+one,0,v%one+one,1-mx-p+v/one,.inr ⟨om,rfl,rfl⟩,by simp,rfl,om,om⟩
theorem Uo(h:aP f p mx one inf sg nan)(W:Int)(h0:0<=W)(h1:W<2*sg):∃c s x g:Int,dY p mx one inf sg nan W c s x g:=by
 obtain⟨b1,b2,b3,b4,b5,b6,b7,b8,b9,b10,b11,b12⟩:=h.bounds;have hsv:∃s v:Int,(s=0/\v=W/\W<sg\/s=1/\v=W-sg/\sg<=W)/\0<=v/\v<sg:=by
  by_cases c:W<sg
  ·exact⟨0,W,om,om,om⟩
  ·exact⟨1,W-sg,om,om,om⟩
 obtain⟨s,v,hs,v0,v1⟩:=hsv;rcases(show v=0\/(0<v/\v<inf)\/v=inf\/(inf<v/\v<nan)\/nan<=v by omega)with c|⟨c1,c2⟩|c|⟨c1,c2⟩|c
 ·exact⟨0,s,0,0,v,hs,.inl ⟨c,rfl,rfl,rfl⟩⟩
 ·obtain⟨x,g,hn⟩:=aBB h v c1 c2;exact⟨1,s,x,g,v,hs,.inr (.inr (.inr (.inr ⟨c1,c2,rfl,hn⟩)))⟩
 ·exact⟨2,s,0,0,v,hs,.inr (.inr (.inr (.inl ⟨c,rfl,rfl,rfl⟩)))⟩
 ·exact⟨4,s,0,0,v,hs,.inr (.inl ⟨c1,c2,rfl,rfl,rfl⟩)⟩
 ·exact⟨3,s,0,0,v,hs,.inr (.inr (.inl ⟨c,rfl,rfl,rfl⟩))⟩
