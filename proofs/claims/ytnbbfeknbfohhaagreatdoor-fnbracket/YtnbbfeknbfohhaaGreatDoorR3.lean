import Derived.Test.YtnbbfeknbfohhaaGreatDoorF0
import Derived.Test.YtnbbfeknbfohhaaGreatDoorA2
import Derived.Deep.RegionHeld3
import Derived.Test.YtnbbfeknbfohhaaGreatDoorR1
set_option linter.unusedVariables false
set_option linter.unusedSimpArgs false
set_option maxRecDepth 1000000
set_option maxHeartbeats 40000000
open Go.Value renaming int → J, agg → X, bool → V
open Go.IntKind renaming i64 → Z, u64 → O
open Go.Proofs.Tryz
namespace Go.Proofs.YtnbbfeknbfohhaaGreatDoor
open Go.RowKit
theorem Nh{p mn mx fb sp one inf sg nan:Int}(h:og p mn mx fb sp one inf sg nan)(md:Int)(k:Nat)(sign e:Int)(sticky:Bool)(e0:-200000≤e)(e1:e≤200000)(z0:Int)(Rk:KR 106 #[X #[J Z p,J Z mn,J Z mx],J Z sign] (J O z0))(w:World):
  QR 186 #[X #[J Z p,J Z mn,J Z mx,J Z md,.func (.func k) #[] #[]],J Z sign,J Z e,X #[J O 0,J O 0],V sticky] w (X #[J O z0,J Z 0]):=by
 have HF:KR 187 #[X #[J Z p,J Z mn,J Z mx]] (J Z fb):=fun w=>kX h w
 have EC:KR 105 #[X #[J Z p,J Z mn,J Z mx],J Z 0] (J O inf):=fun w=>gW h 0 inf (.inl ⟨rfl,rfl⟩) w
 have hq:=jP 0 0 0 0
 simp only[BEq.rfl,Bool.and_true,Bool.true_and]at hq
 clear h
 go_enter func186,ntmps186
 go_wp2_with (first
   |(go_at_call 106;refine(Rk.out _).mono ?_;rintro x w6 ⟨rfl,fK⟩;obtain⟨gc0,gc1,gc2,gm3,gm4⟩:BR w6 w.heap.size 0 1 2 3 4 (J Z p) (J Z mn) (J Z mx) (J Z md) (.func (.func k) #[] #[]):=⟨kq,kq,kq,kq,kq⟩;obtain⟨gc3,gc4⟩:AZ w6 (w.heap.size+1) 0 1 (J O 0) (J O 0):=⟨kq,kq⟩;obtain⟨gr0,gz0,gr1,gz1⟩:kJ w6 (w.heap.size+1+1) 0 1 (J O 0) (J Z 0):=⟨kq,kq,kq,kq⟩))
 all_goals
  refine bodyPost_ret (v:=X #[J O z0,J Z 0]) (by simp[results,Tryz.results186,go_sem,gr0,gr1]) rfl ⟨rfl,?_⟩
  exact kr
theorem XC{p mn mx fb sp one inf sg nan:Int}(h:og p mn mx fb sp one inf sg nan)(md:Int)(k:Nat)(sign e mh ml:Int)(sticky:Bool)(e0:-200000≤e)(e1:e≤200000)(hnz:(mh==0&&ml==0)=false)(L:Nat)(u top E:Int)(hL:L≤128)(hu:128-(L:Int)=u)(htop:(L:Int)+e-1=top)(hE:max top mn=E)(HZ:KR 224 #[X #[J O mh,J O ml]] (J Z u))(z:Int)(HO:KR 225 #[X #[J Z p,J Z mn,J Z mx,J Z md,.func (.func k) #[] #[]],J Z sign] (X #[J O z,J Z 20]))(c:mx<E)(w:World):
  QR 186 #[X #[J Z p,J Z mn,J Z mx,J Z md,.func (.func k) #[] #[]],J Z sign,J Z e,X #[J O mh,J O ml],V sticky] w (X #[J O z,J Z 20]):=by
 have HF:KR 187 #[X #[J Z p,J Z mn,J Z mx]] (J Z fb):=fun w=>kX h w
 have EC:KR 105 #[X #[J Z p,J Z mn,J Z mx],J Z 0] (J O inf):=fun w=>gW h 0 inf (.inl ⟨rfl,rfl⟩) w
 have hq:=jP mh ml 0 0
 have hq2:(mh==0&&ml==0)=false:=hnz
 simp only[hq2]at hq
 have bb:-1022≤mn∧mn≤0∧0<mx∧mx≤1023∧0≤fb∧fb≤52:=by rcases h with h|h<;>omega
 have t1:e+128-1-u=top:=om
 have t2:e+127-u=top:=om
 have tb:-300000≤top∧top≤300000:=om
 have Eb:-300000≤E∧E≤300000:=om
 have ub:0≤u∧u≤128:=om
 clear hnz hq2 hu htop
 clear h
 go_enter func186,ntmps186
 go_wp2_with (first
   |(go_at_call 224;refine(HZ.out _).mono ?_;rintro x w1 ⟨rfl,aj⟩;obtain⟨ac0,ac1,ac2,am3,Oi⟩:BR w1 w.heap.size 0 1 2 3 4 (J Z p) (J Z mn) (J Z mx) (J Z md) (.func (.func k) #[] #[]):=⟨kq,kq,kq,kq,kq⟩;obtain⟨ac3,ac4⟩:AZ w1 (w.heap.size+1) 0 1 (J O mh) (J O ml):=⟨kq,kq⟩;obtain⟨bG,BN,cO,BM⟩:kJ w1 (w.heap.size+1+1) 0 1 (J O 0) (J Z 0):=⟨kq,kq,kq,kq⟩)
   |(go_at_call 225;refine(HO.out _).mono ?_;rintro x wo ⟨rfl,aCv⟩;obtain⟨oc0,oc1,oc2,om3,om4⟩:BR wo w.heap.size 0 1 2 3 4 (J Z p) (J Z mn) (J Z mx) (J Z md) (.func (.func k) #[] #[]):=⟨kq,kq,kq,kq,kq⟩;obtain⟨oc3,oc4⟩:AZ wo (w.heap.size+1) 0 1 (J O mh) (J O ml):=⟨kq,kq⟩;obtain⟨AV,WA,AU,Wy⟩:kJ wo (w.heap.size+1+1) 0 1 (J O 0) (J Z 0):=⟨kq,kq,kq,kq⟩))
 all_goals
  refine bodyPost_ret (v:=X #[J O z,J Z 20]) (by simp[results,Tryz.results186,go_sem,AV,AU]) rfl ⟨rfl,?_⟩
  exact kr
theorem XA{p mn mx fb sp one inf sg nan:Int}(h:og p mn mx fb sp one inf sg nan)(md:Int)(k:Nat)(sign e mh ml:Int)(sticky:Bool)(e0:-200000≤e)(e1:e≤200000)(hnz:(mh==0&&ml==0)=false)(L:Nat)(u top E:Int)(hL:L≤128)(hu:128-(L:Int)=u)(htop:(L:Int)+e-1=top)(hE:max top mn=E)(HZ:KR 224 #[X #[J O mh,J O ml]] (J Z u))(c:E≤mx)(a1 dr r:Int)(aDI:Bool)(ha:E-fb=a1)(hdr:a1-e=dr)(HAt:KR 161 #[.func (.func k) #[] #[],J Z dr,J Z sign,X #[J O mh,J O ml],V sticky] (.tuple #[J O r,V aDI]))(r0:0≤r)(a2 Y G:Int)(ha2:E-mn=a2)(hY:a2*one=Y)(hG:Y+r=G)(G1:G<18446744073709551616)(a20:0≤a2)(Y0:0≤Y)(z:Int)(HO:KR 225 #[X #[J Z p,J Z mn,J Z mx,J Z md,.func (.func k) #[] #[]],J Z sign] (X #[J O z,J Z 20]))(hv:inf≤G)(w:World):
  QR 186 #[X #[J Z p,J Z mn,J Z mx,J Z md,.func (.func k) #[] #[]],J Z sign,J Z e,X #[J O mh,J O ml],V sticky] w (X #[J O z,J Z 20]):=by
 have HF:KR 187 #[X #[J Z p,J Z mn,J Z mx]] (J Z fb):=fun w=>kX h w
 have EC:KR 105 #[X #[J Z p,J Z mn,J Z mx],J Z 0] (J O inf):=fun w=>gW h 0 inf (.inl ⟨rfl,rfl⟩) w
 have hq:=jP mh ml 0 0
 have hq2:(mh==0&&ml==0)=false:=hnz
 simp only[hq2]at hq
 have bb:-1022≤mn∧mn≤0∧0<mx∧mx≤1023∧0≤fb∧fb≤52:=by rcases h with h|h<;>omega
 have t1:e+128-1-u=top:=om
 have t2:e+127-u=top:=om
 have tb:-300000≤top∧top≤300000:=om
 have Eb:-300000≤E∧E≤300000:=om
 have ub:0≤u∧u≤128:=om
 clear hnz hq2 hu htop
 have u1:IntKind.i64.wrap (E-fb)=a1:=by rw[ha];exact kQ _ om om
 have u2:IntKind.i64.wrap (a1-e)=dr:=by rw[hdr];exact kQ _ om om
 have u3:IntKind.i64.wrap (E-mn)=a2:=by rw[ha2];exact kQ _ om om
 have u4:IntKind.u64.wrap a2=a2:=wu64 _ om om
 have u5:IntKind.u64.wrap (a2*2^fb.toNat)=Y:=by
  have:(2:Int)^fb.toNat=one:=by rcases h with⟨rfl,rfl,rfl,rfl,rfl,rfl,rfl,rfl,rfl⟩|⟨rfl,rfl,rfl,rfl,rfl,rfl,rfl,rfl,rfl⟩<;>decide
  rw[this,hY];exact wu64 _ Y0 om
 have u6:IntKind.u64.wrap (Y+r)=G:=by rw[hG];exact wu64 _ om om
 have u7:¬fb<0:=om
 have G0:0≤G:=om
 clear ha hdr ha2 hY hG
 clear h
 go_enter func186,ntmps186
 go_wp2_with (first
   |(go_at_call 224;refine(HZ.out _).mono ?_;rintro x w1 ⟨rfl,aj⟩;obtain⟨ac0,ac1,ac2,am3,Oi⟩:BR w1 w.heap.size 0 1 2 3 4 (J Z p) (J Z mn) (J Z mx) (J Z md) (.func (.func k) #[] #[]):=⟨kq,kq,kq,kq,kq⟩;obtain⟨ac3,ac4⟩:AZ w1 (w.heap.size+1) 0 1 (J O mh) (J O ml):=⟨kq,kq⟩;obtain⟨bG,BN,cO,BM⟩:kJ w1 (w.heap.size+1+1) 0 1 (J O 0) (J Z 0):=⟨kq,kq,kq,kq⟩))
 go_region_held3 (fun w'=>w'.cell? ⟨w.heap.size,0,none⟩=some (J Z p)∧w'.cell? ⟨w.heap.size,1,none⟩=some (J Z mn)∧w'.cell? ⟨w.heap.size,2,none⟩=some (J Z mx)∧w'.cell? ⟨w.heap.size,3,none⟩=some (J Z md)∧w'.cell? ⟨w.heap.size,4,none⟩=some (.func (.func k) #[] #[])∧w'.cell? ⟨w.heap.size+1,0,none⟩=some (J O mh)∧w'.cell? ⟨w.heap.size+1,1,none⟩=some (J O ml)∧w'.cell? ⟨w.heap.size+1+1,0,none⟩=some (J O 0)∧w'.cell? ⟨w.heap.size+1+1,1,none⟩=some (J Z 0)∧w'.frozen? ⟨w.heap.size+1+1,0,none⟩=false∧w'.frozen? ⟨w.heap.size+1+1,1,none⟩=false)
  ((go_split_ands;(repeat' apply And.intro)<;>exact kl))
  (first
   |(go_at_call 187;refine(HF.out _).mono ?_;rintro x w2 ⟨rfl,ak⟩;have CP:=ak.cells;have CO:=ak.aQ;have oK:=ak.size;(try simp only[World.size_alloc,World.size_drew,World.size_setCell]at oK))
   |(go_at_call 161;refine(HAt.out _).mono ?_;rintro x w3 ⟨rfl,aA⟩;have qj:=aA.cells;have qh:=aA.aQ;have iI:=aA.size;(try simp only[World.size_alloc,World.size_drew,World.size_setCell]at iI)))
 all_goals (try go_split_ands)
 all_goals go_wp2
 all_goals
  go_region_held3 (fun w'=>w'.cell? ⟨w.heap.size,0,none⟩=some (J Z p)∧w'.cell? ⟨w.heap.size,1,none⟩=some (J Z mn)∧w'.cell? ⟨w.heap.size,2,none⟩=some (J Z mx)∧w'.cell? ⟨w.heap.size,3,none⟩=some (J Z md)∧w'.cell? ⟨w.heap.size,4,none⟩=some (.func (.func k) #[] #[])∧w'.cell? ⟨w.heap.size+1,0,none⟩=some (J O mh)∧w'.cell? ⟨w.heap.size+1,1,none⟩=some (J O ml)∧w'.cell? ⟨w.heap.size+1+1,0,none⟩=some (J O 0)∧w'.cell? ⟨w.heap.size+1+1,1,none⟩=some (J Z 0)∧w'.frozen? ⟨w.heap.size+1+1,0,none⟩=false∧w'.frozen? ⟨w.heap.size+1+1,1,none⟩=false)
   ((go_split_ands;(repeat' apply And.intro)<;>exact kl))
   (first|(go_at_call 187;refine(HF.out _).mono ?_;rintro x w4 ⟨rfl,aF⟩;have sJ:=aF.cells;have sH:=aF.aQ;have jH:=aF.size;(try simp only[World.size_alloc,World.size_drew,World.size_setCell]at jH)))
 all_goals (try go_split_ands)
 all_goals
  go_wp2_with (first
   |(go_at_call 105;refine(EC.out _).mono ?_;rintro x w5 ⟨rfl,aJ⟩;obtain⟨fc0,fc1,fc2,fm3,fm4⟩:BR w5 w.heap.size 0 1 2 3 4 (J Z p) (J Z mn) (J Z mx) (J Z md) (.func (.func k) #[] #[]):=⟨kq,kq,kq,kq,kq⟩;obtain⟨fc3,fc4⟩:AZ w5 (w.heap.size+1) 0 1 (J O mh) (J O ml):=⟨kq,kq⟩;obtain⟨QS,fz0,QO,fz1⟩:kJ w5 (w.heap.size+1+1) 0 1 (J O 0) (J Z 0):=⟨kq,kq,kq,kq⟩)
   |(go_at_call 225;refine(HO.out _).mono ?_;rintro x wo ⟨rfl,aCv⟩;obtain⟨oc0,oc1,oc2,om3,om4⟩:BR wo w.heap.size 0 1 2 3 4 (J Z p) (J Z mn) (J Z mx) (J Z md) (.func (.func k) #[] #[]):=⟨kq,kq,kq,kq,kq⟩;obtain⟨oc3,oc4⟩:AZ wo (w.heap.size+1) 0 1 (J O mh) (J O ml):=⟨kq,kq⟩;obtain⟨AV,WA,AU,Wy⟩:kJ wo (w.heap.size+1+1) 0 1 (J O 0) (J Z 0):=⟨kq,kq,kq,kq⟩))
 all_goals
  refine bodyPost_ret (v:=X #[J O z,J Z 20]) (by simp[results,Tryz.results186,go_sem,AV,AU]) rfl ⟨rfl,?_⟩
  exact kr
theorem Xz{p mn mx fb sp one inf sg nan:Int}(h:og p mn mx fb sp one inf sg nan)(md:Int)(k:Nat)(sign e mh ml:Int)(sticky:Bool)(e0:-200000≤e)(e1:e≤200000)(hnz:(mh==0&&ml==0)=false)(L:Nat)(u top E:Int)(hL:L≤128)(hu:128-(L:Int)=u)(htop:(L:Int)+e-1=top)(hE:max top mn=E)(HZ:KR 224 #[X #[J O mh,J O ml]] (J Z u))(c:E≤mx)(a1 dr r:Int)(ha:E-fb=a1)(hdr:a1-e=dr)(HAt:KR 161 #[.func (.func k) #[] #[],J Z dr,J Z sign,X #[J O mh,J O ml],V sticky] (.tuple #[J O r,V false]))(r0:0≤r)(a2 Y G:Int)(ha2:E-mn=a2)(hY:a2*one=Y)(hG:Y+r=G)(G1:G<18446744073709551616)(a20:0≤a2)(Y0:0≤Y)(z0 z:Int)(Rk:KR 106 #[X #[J Z p,J Z mn,J Z mx],J Z sign] (J O z0))(hor:bits .or O z0 G=z)(hv:G<inf)(w:World):
  QR 186 #[X #[J Z p,J Z mn,J Z mx,J Z md,.func (.func k) #[] #[]],J Z sign,J Z e,X #[J O mh,J O ml],V sticky] w (X #[J O z,J Z 0]):=by
 have HF:KR 187 #[X #[J Z p,J Z mn,J Z mx]] (J Z fb):=fun w=>kX h w
 have EC:KR 105 #[X #[J Z p,J Z mn,J Z mx],J Z 0] (J O inf):=fun w=>gW h 0 inf (.inl ⟨rfl,rfl⟩) w
 have hq:=jP mh ml 0 0
 have hq2:(mh==0&&ml==0)=false:=hnz
 simp only[hq2]at hq
 have bb:-1022≤mn∧mn≤0∧0<mx∧mx≤1023∧0≤fb∧fb≤52:=by rcases h with h|h<;>omega
 have t1:e+128-1-u=top:=om
 have t2:e+127-u=top:=om
 have tb:-300000≤top∧top≤300000:=om
 have Eb:-300000≤E∧E≤300000:=om
 have ub:0≤u∧u≤128:=om
 clear hnz hq2 hu htop
 have u1:IntKind.i64.wrap (E-fb)=a1:=by rw[ha];exact kQ _ om om
 have u2:IntKind.i64.wrap (a1-e)=dr:=by rw[hdr];exact kQ _ om om
 have u3:IntKind.i64.wrap (E-mn)=a2:=by rw[ha2];exact kQ _ om om
 have u4:IntKind.u64.wrap a2=a2:=wu64 _ om om
 have u5:IntKind.u64.wrap (a2*2^fb.toNat)=Y:=by
  have:(2:Int)^fb.toNat=one:=by rcases h with⟨rfl,rfl,rfl,rfl,rfl,rfl,rfl,rfl,rfl⟩|⟨rfl,rfl,rfl,rfl,rfl,rfl,rfl,rfl,rfl⟩<;>decide
  rw[this,hY];exact wu64 _ Y0 om
 have u6:IntKind.u64.wrap (Y+r)=G:=by rw[hG];exact wu64 _ om om
 have u7:¬fb<0:=om
 have G0:0≤G:=om
 clear ha hdr ha2 hY hG
 clear h
 go_enter func186,ntmps186
 go_wp2_with (first
   |(go_at_call 224;refine(HZ.out _).mono ?_;rintro x w1 ⟨rfl,aj⟩;obtain⟨ac0,ac1,ac2,am3,Oi⟩:BR w1 w.heap.size 0 1 2 3 4 (J Z p) (J Z mn) (J Z mx) (J Z md) (.func (.func k) #[] #[]):=⟨kq,kq,kq,kq,kq⟩;obtain⟨ac3,ac4⟩:AZ w1 (w.heap.size+1) 0 1 (J O mh) (J O ml):=⟨kq,kq⟩;obtain⟨bG,BN,cO,BM⟩:kJ w1 (w.heap.size+1+1) 0 1 (J O 0) (J Z 0):=⟨kq,kq,kq,kq⟩))
 go_region_held3 (fun w'=>w'.cell? ⟨w.heap.size,0,none⟩=some (J Z p)∧w'.cell? ⟨w.heap.size,1,none⟩=some (J Z mn)∧w'.cell? ⟨w.heap.size,2,none⟩=some (J Z mx)∧w'.cell? ⟨w.heap.size,3,none⟩=some (J Z md)∧w'.cell? ⟨w.heap.size,4,none⟩=some (.func (.func k) #[] #[])∧w'.cell? ⟨w.heap.size+1,0,none⟩=some (J O mh)∧w'.cell? ⟨w.heap.size+1,1,none⟩=some (J O ml)∧w'.cell? ⟨w.heap.size+1+1,0,none⟩=some (J O 0)∧w'.cell? ⟨w.heap.size+1+1,1,none⟩=some (J Z 0)∧w'.frozen? ⟨w.heap.size+1+1,0,none⟩=false∧w'.frozen? ⟨w.heap.size+1+1,1,none⟩=false)
  ((go_split_ands;(repeat' apply And.intro)<;>exact kl))
  (first
   |(go_at_call 187;refine(HF.out _).mono ?_;rintro x w2 ⟨rfl,ak⟩;have CP:=ak.cells;have CO:=ak.aQ;have oK:=ak.size;(try simp only[World.size_alloc,World.size_drew,World.size_setCell]at oK))
   |(go_at_call 161;refine(HAt.out _).mono ?_;rintro x w3 ⟨rfl,aA⟩;have qj:=aA.cells;have qh:=aA.aQ;have iI:=aA.size;(try simp only[World.size_alloc,World.size_drew,World.size_setCell]at iI)))
 all_goals (try go_split_ands)
 all_goals go_wp2
 all_goals
  go_region_held3 (fun w'=>w'.cell? ⟨w.heap.size,0,none⟩=some (J Z p)∧w'.cell? ⟨w.heap.size,1,none⟩=some (J Z mn)∧w'.cell? ⟨w.heap.size,2,none⟩=some (J Z mx)∧w'.cell? ⟨w.heap.size,3,none⟩=some (J Z md)∧w'.cell? ⟨w.heap.size,4,none⟩=some (.func (.func k) #[] #[])∧w'.cell? ⟨w.heap.size+1,0,none⟩=some (J O mh)∧w'.cell? ⟨w.heap.size+1,1,none⟩=some (J O ml)∧w'.cell? ⟨w.heap.size+1+1,0,none⟩=some (J O 0)∧w'.cell? ⟨w.heap.size+1+1,1,none⟩=some (J Z 0)∧w'.frozen? ⟨w.heap.size+1+1,0,none⟩=false∧w'.frozen? ⟨w.heap.size+1+1,1,none⟩=false)
   ((go_split_ands;(repeat' apply And.intro)<;>exact kl))
   (first|(go_at_call 187;refine(HF.out _).mono ?_;rintro x w4 ⟨rfl,aF⟩;have sJ:=aF.cells;have sH:=aF.aQ;have jH:=aF.size;(try simp only[World.size_alloc,World.size_drew,World.size_setCell]at jH)))
 all_goals (try go_split_ands)
 all_goals
  go_wp2_with (first
   |(go_at_call 105;refine(EC.out _).mono ?_;rintro x w5 ⟨rfl,aJ⟩;obtain⟨fc0,fc1,fc2,fm3,fm4⟩:BR w5 w.heap.size 0 1 2 3 4 (J Z p) (J Z mn) (J Z mx) (J Z md) (.func (.func k) #[] #[]):=⟨kq,kq,kq,kq,kq⟩;obtain⟨fc3,fc4⟩:AZ w5 (w.heap.size+1) 0 1 (J O mh) (J O ml):=⟨kq,kq⟩;obtain⟨QS,fz0,QO,fz1⟩:kJ w5 (w.heap.size+1+1) 0 1 (J O 0) (J Z 0):=⟨kq,kq,kq,kq⟩)
   |(go_at_call 106;refine(Rk.out _).mono ?_;rintro x w6 ⟨rfl,fK⟩;obtain⟨gc0,gc1,gc2,gm3,gm4⟩:BR w6 w.heap.size 0 1 2 3 4 (J Z p) (J Z mn) (J Z mx) (J Z md) (.func (.func k) #[] #[]):=⟨kq,kq,kq,kq,kq⟩;obtain⟨gc3,gc4⟩:AZ w6 (w.heap.size+1) 0 1 (J O mh) (J O ml):=⟨kq,kq⟩;obtain⟨gr0,gz0,gr1,gz1⟩:kJ w6 (w.heap.size+1+1) 0 1 (J O 0) (J Z 0):=⟨kq,kq,kq,kq⟩))
 all_goals
  refine bodyPost_ret (v:=X #[J O z,J Z 0]) (by simp[results,Tryz.results186,go_sem,gr0,gr1]) rfl ⟨rfl,?_⟩
  exact kr
theorem XB{p mn mx fb sp one inf sg nan:Int}(h:og p mn mx fb sp one inf sg nan)(md:Int)(k:Nat)(sign e mh ml:Int)(sticky:Bool)(e0:-200000≤e)(e1:e≤200000)(hnz:(mh==0&&ml==0)=false)(L:Nat)(u top E:Int)(hL:L≤128)(hu:128-(L:Int)=u)(htop:(L:Int)+e-1=top)(hE:max top mn=E)(HZ:KR 224 #[X #[J O mh,J O ml]] (J Z u))(c:E≤mx)(a1 dr r:Int)(ha:E-fb=a1)(hdr:a1-e=dr)(HAt:KR 161 #[.func (.func k) #[] #[],J Z dr,J Z sign,X #[J O mh,J O ml],V sticky] (.tuple #[J O r,V true]))(r0:0≤r)(a2 Y G:Int)(ha2:E-mn=a2)(hY:a2*one=Y)(hG:Y+r=G)(G1:G<18446744073709551616)(a20:0≤a2)(Y0:0≤Y)(z0 z:Int)(Rk:KR 106 #[X #[J Z p,J Z mn,J Z mx],J Z sign] (J O z0))(YJ:KR 226 #[X #[J Z p,J Z mn,J Z mx,J Z md,.func (.func k) #[] #[]],J Z top,J Z sign,J Z e,X #[J O mh,J O ml],V sticky] (V true))(hor:bits .or O z0 G=z)(hv:G<inf)(w:World):
  QR 186 #[X #[J Z p,J Z mn,J Z mx,J Z md,.func (.func k) #[] #[]],J Z sign,J Z e,X #[J O mh,J O ml],V sticky] w (X #[J O z,J Z 24]):=by
 have HF:KR 187 #[X #[J Z p,J Z mn,J Z mx]] (J Z fb):=fun w=>kX h w
 have EC:KR 105 #[X #[J Z p,J Z mn,J Z mx],J Z 0] (J O inf):=fun w=>gW h 0 inf (.inl ⟨rfl,rfl⟩) w
 have hq:=jP mh ml 0 0
 have hq2:(mh==0&&ml==0)=false:=hnz
 simp only[hq2]at hq
 have bb:-1022≤mn∧mn≤0∧0<mx∧mx≤1023∧0≤fb∧fb≤52:=by rcases h with h|h<;>omega
 have t1:e+128-1-u=top:=om
 have t2:e+127-u=top:=om
 have tb:-300000≤top∧top≤300000:=om
 have Eb:-300000≤E∧E≤300000:=om
 have ub:0≤u∧u≤128:=om
 clear hnz hq2 hu htop
 have u1:IntKind.i64.wrap (E-fb)=a1:=by rw[ha];exact kQ _ om om
 have u2:IntKind.i64.wrap (a1-e)=dr:=by rw[hdr];exact kQ _ om om
 have u3:IntKind.i64.wrap (E-mn)=a2:=by rw[ha2];exact kQ _ om om
 have u4:IntKind.u64.wrap a2=a2:=wu64 _ om om
 have u5:IntKind.u64.wrap (a2*2^fb.toNat)=Y:=by
  have:(2:Int)^fb.toNat=one:=by rcases h with⟨rfl,rfl,rfl,rfl,rfl,rfl,rfl,rfl,rfl⟩|⟨rfl,rfl,rfl,rfl,rfl,rfl,rfl,rfl,rfl⟩<;>decide
  rw[this,hY];exact wu64 _ Y0 om
 have u6:IntKind.u64.wrap (Y+r)=G:=by rw[hG];exact wu64 _ om om
 have u7:¬fb<0:=om
 have G0:0≤G:=om
 clear ha hdr ha2 hY hG
 clear h
 go_enter func186,ntmps186
 go_wp2_with (first
   |(go_at_call 224;refine(HZ.out _).mono ?_;rintro x w1 ⟨rfl,aj⟩;obtain⟨ac0,ac1,ac2,am3,Oi⟩:BR w1 w.heap.size 0 1 2 3 4 (J Z p) (J Z mn) (J Z mx) (J Z md) (.func (.func k) #[] #[]):=⟨kq,kq,kq,kq,kq⟩;obtain⟨ac3,ac4⟩:AZ w1 (w.heap.size+1) 0 1 (J O mh) (J O ml):=⟨kq,kq⟩;obtain⟨bG,BN,cO,BM⟩:kJ w1 (w.heap.size+1+1) 0 1 (J O 0) (J Z 0):=⟨kq,kq,kq,kq⟩))
 go_region_held3 (fun w'=>w'.cell? ⟨w.heap.size,0,none⟩=some (J Z p)∧w'.cell? ⟨w.heap.size,1,none⟩=some (J Z mn)∧w'.cell? ⟨w.heap.size,2,none⟩=some (J Z mx)∧w'.cell? ⟨w.heap.size,3,none⟩=some (J Z md)∧w'.cell? ⟨w.heap.size,4,none⟩=some (.func (.func k) #[] #[])∧w'.cell? ⟨w.heap.size+1,0,none⟩=some (J O mh)∧w'.cell? ⟨w.heap.size+1,1,none⟩=some (J O ml)∧w'.cell? ⟨w.heap.size+1+1,0,none⟩=some (J O 0)∧w'.cell? ⟨w.heap.size+1+1,1,none⟩=some (J Z 0)∧w'.frozen? ⟨w.heap.size+1+1,0,none⟩=false∧w'.frozen? ⟨w.heap.size+1+1,1,none⟩=false)
  ((go_split_ands;(repeat' apply And.intro)<;>exact kl))
  (first
   |(go_at_call 187;refine(HF.out _).mono ?_;rintro x w2 ⟨rfl,ak⟩;have CP:=ak.cells;have CO:=ak.aQ;have oK:=ak.size;(try simp only[World.size_alloc,World.size_drew,World.size_setCell]at oK))
   |(go_at_call 161;refine(HAt.out _).mono ?_;rintro x w3 ⟨rfl,aA⟩;have qj:=aA.cells;have qh:=aA.aQ;have iI:=aA.size;(try simp only[World.size_alloc,World.size_drew,World.size_setCell]at iI)))
 all_goals (try go_split_ands)
 all_goals go_wp2
 all_goals
  go_region_held3 (fun w'=>w'.cell? ⟨w.heap.size,0,none⟩=some (J Z p)∧w'.cell? ⟨w.heap.size,1,none⟩=some (J Z mn)∧w'.cell? ⟨w.heap.size,2,none⟩=some (J Z mx)∧w'.cell? ⟨w.heap.size,3,none⟩=some (J Z md)∧w'.cell? ⟨w.heap.size,4,none⟩=some (.func (.func k) #[] #[])∧w'.cell? ⟨w.heap.size+1,0,none⟩=some (J O mh)∧w'.cell? ⟨w.heap.size+1,1,none⟩=some (J O ml)∧w'.cell? ⟨w.heap.size+1+1,0,none⟩=some (J O 0)∧w'.cell? ⟨w.heap.size+1+1,1,none⟩=some (J Z 0)∧w'.frozen? ⟨w.heap.size+1+1,0,none⟩=false∧w'.frozen? ⟨w.heap.size+1+1,1,none⟩=false)
   ((go_split_ands;(repeat' apply And.intro)<;>exact kl))
   (first|(go_at_call 187;refine(HF.out _).mono ?_;rintro x w4 ⟨rfl,aF⟩;have sJ:=aF.cells;have sH:=aF.aQ;have jH:=aF.size;(try simp only[World.size_alloc,World.size_drew,World.size_setCell]at jH)))
 all_goals (try go_split_ands)
 all_goals
  go_wp2_with (first
   |(go_at_call 105;refine(EC.out _).mono ?_;rintro x w5 ⟨rfl,aJ⟩;obtain⟨fc0,fc1,fc2,fm3,fm4⟩:BR w5 w.heap.size 0 1 2 3 4 (J Z p) (J Z mn) (J Z mx) (J Z md) (.func (.func k) #[] #[]):=⟨kq,kq,kq,kq,kq⟩;obtain⟨fc3,fc4⟩:AZ w5 (w.heap.size+1) 0 1 (J O mh) (J O ml):=⟨kq,kq⟩;obtain⟨QS,fz0,QO,fz1⟩:kJ w5 (w.heap.size+1+1) 0 1 (J O 0) (J Z 0):=⟨kq,kq,kq,kq⟩)
   |(go_at_call 226;refine(YJ.out _).mono ?_;rintro x w7 ⟨rfl,gU⟩;obtain⟨hc0,hc1,hc2,hm3,hm4⟩:BR w7 w.heap.size 0 1 2 3 4 (J Z p) (J Z mn) (J Z mx) (J Z md) (.func (.func k) #[] #[]):=⟨kq,kq,kq,kq,kq⟩;obtain⟨hc3,hc4⟩:AZ w7 (w.heap.size+1) 0 1 (J O mh) (J O ml):=⟨kq,kq⟩;obtain⟨hr0,hz0,hr1,hz1⟩:kJ w7 (w.heap.size+1+1) 0 1 (J O 0) (J Z 0):=⟨kq,kq,kq,kq⟩)
   |(go_at_call 106;refine(Rk.out _).mono ?_;rintro x w6 ⟨rfl,fK⟩;obtain⟨gc0,gc1,gc2,gm3,gm4⟩:BR w6 w.heap.size 0 1 2 3 4 (J Z p) (J Z mn) (J Z mx) (J Z md) (.func (.func k) #[] #[]):=⟨kq,kq,kq,kq,kq⟩;obtain⟨gc3,gc4⟩:AZ w6 (w.heap.size+1) 0 1 (J O mh) (J O ml):=⟨kq,kq⟩;obtain⟨gr0,gz0,gr1,gz1⟩:kJ w6 (w.heap.size+1+1) 0 1 (J O 0) (J Z 0):=⟨kq,kq,kq,kq⟩))
 all_goals
  refine bodyPost_ret (v:=X #[J O z,J Z 24]) (by simp[results,Tryz.results186,go_sem,gr0,gr1]) rfl ⟨rfl,?_⟩
  exact kr
theorem XD{p mn mx fb sp one inf sg nan:Int}(h:og p mn mx fb sp one inf sg nan)(md:Int)(k:Nat)(sign e mh ml:Int)(sticky:Bool)(e0:-200000≤e)(e1:e≤200000)(hnz:(mh==0&&ml==0)=false)(L:Nat)(u top E:Int)(hL:L≤128)(hu:128-(L:Int)=u)(htop:(L:Int)+e-1=top)(hE:max top mn=E)(HZ:KR 224 #[X #[J O mh,J O ml]] (J Z u))(c:E≤mx)(a1 dr r:Int)(ha:E-fb=a1)(hdr:a1-e=dr)(HAt:KR 161 #[.func (.func k) #[] #[],J Z dr,J Z sign,X #[J O mh,J O ml],V sticky] (.tuple #[J O r,V true]))(r0:0≤r)(a2 Y G:Int)(ha2:E-mn=a2)(hY:a2*one=Y)(hG:Y+r=G)(G1:G<18446744073709551616)(a20:0≤a2)(Y0:0≤Y)(z0 z:Int)(Rk:KR 106 #[X #[J Z p,J Z mn,J Z mx],J Z sign] (J O z0))(YJ:KR 226 #[X #[J Z p,J Z mn,J Z mx,J Z md,.func (.func k) #[] #[]],J Z top,J Z sign,J Z e,X #[J O mh,J O ml],V sticky] (V false))(hor:bits .or O z0 G=z)(hv:G<inf)(w:World):
  QR 186 #[X #[J Z p,J Z mn,J Z mx,J Z md,.func (.func k) #[] #[]],J Z sign,J Z e,X #[J O mh,J O ml],V sticky] w (X #[J O z,J Z 16]):=by
 have HF:KR 187 #[X #[J Z p,J Z mn,J Z mx]] (J Z fb):=fun w=>kX h w
 have EC:KR 105 #[X #[J Z p,J Z mn,J Z mx],J Z 0] (J O inf):=fun w=>gW h 0 inf (.inl ⟨rfl,rfl⟩) w
 have hq:=jP mh ml 0 0
 have hq2:(mh==0&&ml==0)=false:=hnz
 simp only[hq2]at hq
 have bb:-1022≤mn∧mn≤0∧0<mx∧mx≤1023∧0≤fb∧fb≤52:=by rcases h with h|h<;>omega
 have t1:e+128-1-u=top:=om
 have t2:e+127-u=top:=om
 have tb:-300000≤top∧top≤300000:=om
 have Eb:-300000≤E∧E≤300000:=om
 have ub:0≤u∧u≤128:=om
 clear hnz hq2 hu htop
 have u1:IntKind.i64.wrap (E-fb)=a1:=by rw[ha];exact kQ _ om om
 have u2:IntKind.i64.wrap (a1-e)=dr:=by rw[hdr];exact kQ _ om om
 have u3:IntKind.i64.wrap (E-mn)=a2:=by rw[ha2];exact kQ _ om om
 have u4:IntKind.u64.wrap a2=a2:=wu64 _ om om
 have u5:IntKind.u64.wrap (a2*2^fb.toNat)=Y:=by
  have:(2:Int)^fb.toNat=one:=by rcases h with⟨rfl,rfl,rfl,rfl,rfl,rfl,rfl,rfl,rfl⟩|⟨rfl,rfl,rfl,rfl,rfl,rfl,rfl,rfl,rfl⟩<;>decide
  rw[this,hY];exact wu64 _ Y0 om
 have u6:IntKind.u64.wrap (Y+r)=G:=by rw[hG];exact wu64 _ om om
 have u7:¬fb<0:=om
 have G0:0≤G:=om
 clear ha hdr ha2 hY hG
 clear h
 go_enter func186,ntmps186
 go_wp2_with (first
   |(go_at_call 224;refine(HZ.out _).mono ?_;rintro x w1 ⟨rfl,aj⟩;obtain⟨ac0,ac1,ac2,am3,Oi⟩:BR w1 w.heap.size 0 1 2 3 4 (J Z p) (J Z mn) (J Z mx) (J Z md) (.func (.func k) #[] #[]):=⟨kq,kq,kq,kq,kq⟩;obtain⟨ac3,ac4⟩:AZ w1 (w.heap.size+1) 0 1 (J O mh) (J O ml):=⟨kq,kq⟩;obtain⟨bG,BN,cO,BM⟩:kJ w1 (w.heap.size+1+1) 0 1 (J O 0) (J Z 0):=⟨kq,kq,kq,kq⟩))
 go_region_held3 (fun w'=>w'.cell? ⟨w.heap.size,0,none⟩=some (J Z p)∧w'.cell? ⟨w.heap.size,1,none⟩=some (J Z mn)∧w'.cell? ⟨w.heap.size,2,none⟩=some (J Z mx)∧w'.cell? ⟨w.heap.size,3,none⟩=some (J Z md)∧w'.cell? ⟨w.heap.size,4,none⟩=some (.func (.func k) #[] #[])∧w'.cell? ⟨w.heap.size+1,0,none⟩=some (J O mh)∧w'.cell? ⟨w.heap.size+1,1,none⟩=some (J O ml)∧w'.cell? ⟨w.heap.size+1+1,0,none⟩=some (J O 0)∧w'.cell? ⟨w.heap.size+1+1,1,none⟩=some (J Z 0)∧w'.frozen? ⟨w.heap.size+1+1,0,none⟩=false∧w'.frozen? ⟨w.heap.size+1+1,1,none⟩=false)
  ((go_split_ands;(repeat' apply And.intro)<;>exact kl))
  (first
   |(go_at_call 187;refine(HF.out _).mono ?_;rintro x w2 ⟨rfl,ak⟩;have CP:=ak.cells;have CO:=ak.aQ;have oK:=ak.size;(try simp only[World.size_alloc,World.size_drew,World.size_setCell]at oK))
   |(go_at_call 161;refine(HAt.out _).mono ?_;rintro x w3 ⟨rfl,aA⟩;have qj:=aA.cells;have qh:=aA.aQ;have iI:=aA.size;(try simp only[World.size_alloc,World.size_drew,World.size_setCell]at iI)))
 all_goals (try go_split_ands)
 all_goals go_wp2
 all_goals
  go_region_held3 (fun w'=>w'.cell? ⟨w.heap.size,0,none⟩=some (J Z p)∧w'.cell? ⟨w.heap.size,1,none⟩=some (J Z mn)∧w'.cell? ⟨w.heap.size,2,none⟩=some (J Z mx)∧w'.cell? ⟨w.heap.size,3,none⟩=some (J Z md)∧w'.cell? ⟨w.heap.size,4,none⟩=some (.func (.func k) #[] #[])∧w'.cell? ⟨w.heap.size+1,0,none⟩=some (J O mh)∧w'.cell? ⟨w.heap.size+1,1,none⟩=some (J O ml)∧w'.cell? ⟨w.heap.size+1+1,0,none⟩=some (J O 0)∧w'.cell? ⟨w.heap.size+1+1,1,none⟩=some (J Z 0)∧w'.frozen? ⟨w.heap.size+1+1,0,none⟩=false∧w'.frozen? ⟨w.heap.size+1+1,1,none⟩=false)
   ((go_split_ands;(repeat' apply And.intro)<;>exact kl))
   (first|(go_at_call 187;refine(HF.out _).mono ?_;rintro x w4 ⟨rfl,aF⟩;have sJ:=aF.cells;have sH:=aF.aQ;have jH:=aF.size;(try simp only[World.size_alloc,World.size_drew,World.size_setCell]at jH)))
 all_goals (try go_split_ands)
 all_goals
  go_wp2_with (first
   |(go_at_call 105;refine(EC.out _).mono ?_;rintro x w5 ⟨rfl,aJ⟩;obtain⟨fc0,fc1,fc2,fm3,fm4⟩:BR w5 w.heap.size 0 1 2 3 4 (J Z p) (J Z mn) (J Z mx) (J Z md) (.func (.func k) #[] #[]):=⟨kq,kq,kq,kq,kq⟩;obtain⟨fc3,fc4⟩:AZ w5 (w.heap.size+1) 0 1 (J O mh) (J O ml):=⟨kq,kq⟩;obtain⟨QS,fz0,QO,fz1⟩:kJ w5 (w.heap.size+1+1) 0 1 (J O 0) (J Z 0):=⟨kq,kq,kq,kq⟩)
   |(go_at_call 226;refine(YJ.out _).mono ?_;rintro x w7 ⟨rfl,gU⟩;obtain⟨hc0,hc1,hc2,hm3,hm4⟩:BR w7 w.heap.size 0 1 2 3 4 (J Z p) (J Z mn) (J Z mx) (J Z md) (.func (.func k) #[] #[]):=⟨kq,kq,kq,kq,kq⟩;obtain⟨hc3,hc4⟩:AZ w7 (w.heap.size+1) 0 1 (J O mh) (J O ml):=⟨kq,kq⟩;obtain⟨hr0,hz0,hr1,hz1⟩:kJ w7 (w.heap.size+1+1) 0 1 (J O 0) (J Z 0):=⟨kq,kq,kq,kq⟩)
   |(go_at_call 106;refine(Rk.out _).mono ?_;rintro x w6 ⟨rfl,fK⟩;obtain⟨gc0,gc1,gc2,gm3,gm4⟩:BR w6 w.heap.size 0 1 2 3 4 (J Z p) (J Z mn) (J Z mx) (J Z md) (.func (.func k) #[] #[]):=⟨kq,kq,kq,kq,kq⟩;obtain⟨gc3,gc4⟩:AZ w6 (w.heap.size+1) 0 1 (J O mh) (J O ml):=⟨kq,kq⟩;obtain⟨gr0,gz0,gr1,gz1⟩:kJ w6 (w.heap.size+1+1) 0 1 (J O 0) (J Z 0):=⟨kq,kq,kq,kq⟩))
 all_goals
  refine bodyPost_ret (v:=X #[J O z,J Z 16]) (by simp[results,Tryz.results186,go_sem,gr0,gr1]) rfl ⟨rfl,?_⟩
  exact kr
theorem or_zero(G:Nat)(hG:G<18446744073709551616):bits .or O 0 (G:Int)=(G:Int):=by
 have:=u64_or_nat 0 G om hG
 rw[show((0:Nat):Int)=0 from rfl]at this
 rw[this,Nat.zero_or]
theorem aCg(G:Nat)(hG:G<2147483648):bits .or O 2147483648 (G:Int)=2147483648+(G:Int):=by
 have:=u64_or_nat 2147483648 G om om
 rw[show((2147483648:Nat):Int)=2147483648 from rfl]at this
 have e:=Sh.wz 31 1 G (by simpa using hG)
 simp only[Nat.reducePow,Nat.mul_one]at e
 rw[this,e];omega
theorem aCf(G:Nat)(hG:G<9223372036854775808):bits .or O 9223372036854775808 (G:Int)=9223372036854775808+(G:Int):=by
 have:=u64_or_nat 9223372036854775808 G om om
 rw[show((9223372036854775808:Nat):Int)=9223372036854775808 from rfl]at this
 have e:=Sh.wz 63 1 G (by simpa using hG)
 simp only[Nat.reducePow,Nat.mul_one]at e
 rw[this,e];omega
theorem vY{p mn mx fb sp one inf sg nan:Int}(h:og p mn mx fb sp one inf sg nan)(md mode:Int)(k:Nat)(hk:pU mode k)(sign:Int)(hs:sign=0∨sign=1)(e:Int)(e0:-100000≤e)(e1:e≤100000)(M:Nat)(hM0:0<M)(hM:M<340282366920938463463374607431768211456)(sticky:Bool)(hst:sticky=true→p+2≤(nb M:Int))(w:World):
  CT 186 #[X #[J Z p,J Z mn,J Z mx,J Z md,.func (.func k) #[] #[]],J Z sign,J Z e,X #[J O ((M/18446744073709551616:Nat):Int),J O ((M%18446744073709551616:Nat):Int)],V sticky] w fun x w'=>∃z fl,aH p mn mx one inf mode sign M e sticky z fl∧x=.returned (X #[J O (sv sign sg z),J Z fl])∧Gr w w':=by
 have hb:24≤p∧p≤53∧-1022≤mn∧mn≤-126∧127≤mx∧mx≤1023∧fb=p-1∧0<one∧one≤4503599627370496∧inf<sg∧sg≤9223372036854775808∧mn=1-mx∧4*one<inf:=by rcases h with h|h<;>omega
 obtain⟨b1,b2,b3,b4,b5,b6,b7,b8,b9,b10,b11,b12,b13⟩:=hb
 obtain⟨P,hP,hone⟩:∃P:Nat,(P:Int)=p-1∧one=((2^P:Nat):Int):=by
  rcases h with⟨rfl,rfl,rfl,rfl,rfl,rfl,rfl,rfl,rfl⟩|⟨rfl,rfl,rfl,rfl,rfl,rfl,rfl,rfl,rfl⟩
  ·exact⟨23,de,de⟩
  ·exact⟨52,de,de⟩
 have oM:inf=one*(2*mx+1):=by rcases h with⟨rfl,rfl,rfl,rfl,rfl,rfl,rfl,rfl,rfl⟩|⟨rfl,rfl,rfl,rfl,rfl,rfl,rfl,rfl,rfl⟩<;>decide
 have hsucc:2^(P+1)=2*2^P:=by rw[Nat.pow_succ];omega
 have hL:nb M≤128:=nT (by simpa using hM)
 have hpos:=qL M hM0
 have hnz:(((M/18446744073709551616:Nat):Int)==0&&((M%18446744073709551616:Nat):Int)==0)=false:=by
  rw[Bool.and_eq_false_iff]
  by_cases c:M/18446744073709551616=0
  ·right;simp;omega
  ·left;simp;omega
 obtain⟨top,htop⟩:∃top:Int,top=nb M+e-1:=⟨_,rfl⟩
 obtain⟨E,hE⟩:∃E:Int,max top mn=E:=⟨_,rfl⟩
 have hE2:top<mn∧E=mn∨mn≤top∧E=top:=om
 have HZ:KR 224 #[X #[J O ((M/18446744073709551616:Nat):Int),J O ((M%18446744073709551616:Nat):Int)]] (J Z (128-(nb M:Int))):=fun w=>RY M hM w
 have HO:KR 225 #[X #[J Z p,J Z mn,J Z mx,J Z md,.func (.func k) #[] #[]],J Z sign] (X #[J O (sv sign sg (iw inf mode sign)),J Z 20]):=fun w=>Dx h md mode k hk sign hs w
 obtain⟨z0,hz0⟩:∃z0,sign=0∧z0=0∨sign=1∧z0=sg:=by
  rcases hs with rfl|rfl
  ·exact⟨0,.inl ⟨rfl,rfl⟩⟩
  ·exact⟨sg,.inr ⟨rfl,rfl⟩⟩
 have Rk:KR 106 #[X #[J Z p,J Z mn,J Z mx],J Z sign] (J O z0):=fun w=>jX h sign z0 hz0 w
 have hor:∀G:Int,0≤G→G<inf→bits .or O z0 G=sv sign sg G:=by
  intro G G0 G1
  obtain⟨g,rfl⟩:=Int.eq_ofNat_of_zero_le G0
  unfold sv
  rcases hz0 with⟨rfl,rfl⟩|⟨rfl,rfl⟩
  ·rw[or_zero g (by omega)];simp
  ·rcases h with⟨_,_,_,_,_,_,_,hsg,_⟩|⟨_,_,_,_,_,_,_,hsg,_⟩
   ·subst hsg;rw[aCg g (by omega)];simp
   ·subst hsg;rw[aCf g (by omega)];simp
 have hge:(nb M:Int)-p≤E-fb-e:=om
 by_cases ho:mx<E
 ·have ht:mx<top:=om
  refine(XC h md k sign e _ _ sticky om om hnz (nb M) _ top E hL rfl om hE HZ _ HO ho w).mono ?_
  rintro x w' ⟨rfl,hg⟩
  exact⟨_,_,⟨top,E,_,_,_,htop,hE2,rfl,rfl,rfl,.inl ⟨ht,rfl,rfl⟩⟩,rfl,hg⟩
 ·have hq:E-fb=E-p+1:=om
  have hlo:aT M e (E-p+1)<2^(P+1):=kG M e (E-p+1) (P+1) om
  have hch:=gZ mode sign (aT M e (E-p+1)) (aG M e (E-p+1) sticky)
  have HAt:KR 161 #[.func (.func k) #[] #[],J Z (E-fb-e),J Z sign,X #[J O ((M/18446744073709551616:Nat):Int),J O ((M%18446744073709551616:Nat):Int)],V sticky] (.tuple #[J O ((chosen mode sign (aT M e (E-p+1)) (aG M e (E-p+1) sticky):Nat):Int),V (decide (0<aG M e (E-p+1) sticky))]):=fun w=>qH mode k hk sign hs M hM e (E-p+1) (E-fb-e) sticky om om om (by
   intro hd
   cases sticky
   ·rfl
   ·have:=hst rfl;omega) om w
  obtain⟨r,hr⟩:∃r,chosen mode sign (aT M e (E-p+1)) (aG M e (E-p+1) sticky)=r:=⟨_,rfl⟩
  obtain⟨hf,RD⟩:∃hf,aG M e (E-p+1) sticky=hf:=⟨_,rfl⟩
  obtain⟨r2,hr2⟩:∃r2,chosen mode sign (aT M e (top-p+1)) (aG M e (top-p+1) sticky)=r2:=⟨_,rfl⟩
  rw[hr]at hch HAt
  rw[RD]at HAt
  have hrr:chosen mode sign (aT M e (E-p+1)) hf=r:=by rw[←RD];exact hr
  obtain⟨Y,hY⟩:∃Y,(E-mn)*one=Y:=⟨_,rfl⟩
  have hY':one*(E-mn)=Y:=by rw[Int.mul_comm];exact hY
  have hYb:0≤Y∧Y≤inf:=by
   rw[←hY',oM]
   exact⟨Int.mul_nonneg om om,Int.mul_le_mul_of_nonneg_left om om⟩
  have hG:(r:Int)+one*(E-mn)=Y+r:=by rw[hY'];omega
  by_cases hv:inf≤Y+r
  ·refine(XA h md k sign e _ _ sticky om om hnz (nb M) _ top E hL rfl om hE HZ om (E-fb) (E-fb-e) r _ rfl rfl HAt om (E-mn) Y (Y+r) rfl hY rfl om om om _ HO hv w).mono ?_
   rintro x w' ⟨rfl,hg⟩
   exact⟨_,_,⟨top,E,r,r2,hf,htop,hE2,RD.symm,hrr.symm,hr2.symm,.inr (.inl ⟨om,by rw[hG];exact hv,rfl,rfl⟩)⟩,rfl,hg⟩
  ·have HOr:=hor (Y+r) om om
   rcases Nat.eq_zero_or_pos hf with c|c
   ·have hdec:decide (0<hf)=false:=by rw[c];rfl
    rw[hdec]at HAt
    refine(Xz h md k sign e _ _ sticky om om hnz (nb M) _ top E hL rfl om hE HZ om (E-fb) (E-fb-e) r rfl rfl HAt om (E-mn) Y (Y+r) rfl hY rfl om om om z0 _ Rk HOr om w).mono ?_
    rintro x w' ⟨rfl,hg⟩
    exact⟨_,_,⟨top,E,r,r2,hf,htop,hE2,RD.symm,hrr.symm,hr2.symm,.inr (.inr ⟨om,by rw[hG];omega,hG.symm,.inl ⟨c,rfl⟩⟩)⟩,rfl,hg⟩
   ·have hdec:decide (0<hf)=true:=decide_eq_true c
    rw[hdec]at HAt
    have hlo2:aT M e (top-p+1)<2^(P+1):=kG M e (top-p+1) (P+1) om
    have aD3:=gZ mode sign (aT M e (top-p+1)) (aG M e (top-p+1) sticky)
    rw[hr2]at aD3
    have YJ:∀tb:Bool,((top<mn-1∨top=mn-1∧(r2:Int)<2*one)∧tb=true∨(mn≤top∨top=mn-1∧2*one≤(r2:Int))∧tb=false)→KR 226 #[X #[J Z p,J Z mn,J Z mx,J Z md,.func (.func k) #[] #[]],J Z top,J Z sign,J Z e,X #[J O ((M/18446744073709551616:Nat):Int),J O ((M%18446744073709551616:Nat):Int)],V sticky] (V tb):=by
     intro tb htb w
     by_cases ht:top=mn-1
     ·have aEs:KR 161 #[.func (.func k) #[] #[],J Z (top-fb-e),J Z sign,X #[J O ((M/18446744073709551616:Nat):Int),J O ((M%18446744073709551616:Nat):Int)],V sticky] (.tuple #[J O (r2:Int),V (decide (0<aG M e (top-p+1) sticky))]):=fun w=>by
       rw[←hr2]
       exact qH mode k hk sign hs M hM e (top-p+1) (top-fb-e) sticky om om om (by
        intro hd
        cases sticky
        ·rfl
        ·have:=hst rfl;omega) om w
      refine WX h md k top sign e _ _ (top-fb) (top-fb-e) r2 sticky _ tb ht om om rfl rfl om om ?_ aEs w
      rcases htb with⟨a,rfl⟩|⟨a,rfl⟩
      ·rw[decide_eq_true (by omega)]
      ·rw[decide_eq_false (by omega)]
     ·have:=WW (p:=p) (mn:=mn) (mx:=mx) om om md k top sign e ((M/18446744073709551616:Nat):Int) ((M%18446744073709551616:Nat):Int) sticky (by simp;omega) w
      rcases htb with⟨a,rfl⟩|⟨a,rfl⟩
      ·rw[decide_eq_true (by omega)]at this;exact this
      ·rw[decide_eq_false (by omega)]at this;exact this
    by_cases hty:top<mn-1∨top=mn-1∧(r2:Int)<2*one
    ·refine(XB h md k sign e _ _ sticky om om hnz (nb M) _ top E hL rfl om hE HZ om (E-fb) (E-fb-e) r rfl rfl HAt om (E-mn) Y (Y+r) rfl hY rfl om om om z0 _ Rk (YJ true (.inl ⟨hty,rfl⟩)) HOr om w).mono ?_
     rintro x w' ⟨rfl,hg⟩
     exact⟨_,_,⟨top,E,r,r2,hf,htop,hE2,RD.symm,hrr.symm,hr2.symm,.inr (.inr ⟨om,by rw[hG];omega,hG.symm,.inr (.inl ⟨c,hty,rfl⟩)⟩)⟩,rfl,hg⟩
    ·have aCn:mn≤top∨top=mn-1∧2*one≤(r2:Int):=om
     refine(XD h md k sign e _ _ sticky om om hnz (nb M) _ top E hL rfl om hE HZ om (E-fb) (E-fb-e) r rfl rfl HAt om (E-mn) Y (Y+r) rfl hY rfl om om om z0 _ Rk (YJ false (.inr ⟨aCn,rfl⟩)) HOr om w).mono ?_
     rintro x w' ⟨rfl,hg⟩
     exact⟨_,_,⟨top,E,r,r2,hf,htop,hE2,RD.symm,hrr.symm,hr2.symm,.inr (.inr ⟨om,by rw[hG];omega,hG.symm,.inr (.inr ⟨c,aCn,rfl⟩)⟩)⟩,rfl,hg⟩
