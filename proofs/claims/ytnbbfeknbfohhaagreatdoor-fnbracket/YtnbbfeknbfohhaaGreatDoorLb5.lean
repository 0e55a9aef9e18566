import Derived.Test.YtnbbfeknbfohhaaGreatDoorA7
import Derived.Deep.DeepCutAuto
import Derived.Deep.RegionHeld3
import Derived.Test.YtnbbfeknbfohhaaGreatDoorB7
set_option linter.unusedVariables false
set_option linter.unusedSimpArgs false
set_option maxRecDepth 1000000
set_option maxHeartbeats 40000000
open Go.Value renaming int → J, agg → O, bool → X, tuple → V
open Go.IntKind renaming i64 → Y, u64 → Z
open Go.Proofs.Tryz
namespace Go.Proofs.YtnbbfeknbfohhaaGreatDoor
open Go.RowKit
theorem aGj(w:World):QR 71 #[J Y 0] w (V #[.iface 176 (O #[J .i32 (-2147483648),J .i32 2147483647]),X true]):=by
 go_enter func71,ntmps71
 go_wp2
 go_returns
 exact⟨rfl,Gr.g⟩
theorem zS(w:World):QR 71 #[J Y 1] w (V #[.iface 178 (O #[J Y (-9223372036854775808),J Y 9223372036854775807]),X true]):=by
 go_enter func71,ntmps71
 go_wp2
 go_returns
 exact⟨rfl,Gr.g⟩
theorem aGi(w:World):QR 71 #[J Y 2] w (V #[.iface 181 (O #[J .u32 0,J .u32 4294967295]),X true]):=by
 go_enter func71,ntmps71
 go_wp2
 go_returns
 exact⟨rfl,Gr.g⟩
theorem aGh(w:World):QR 71 #[J Y 3] w (V #[.iface 183 (O #[J Z 0,J Z 18446744073709551615]),X true]):=by
 go_enter func71,ntmps71
 go_wp2
 go_returns
 exact⟨rfl,Gr.g⟩
theorem aGw(kind:Int)(h:¬(0≤kind∧kind≤3))(w:World):QR 71 #[J Y kind] w (V #[Value.nilIface,X false]):=by
 rcases(show kind<0∨4≤kind by omega)with c|c
 all_goals
  clear h
  go_enter func71,ntmps71
  go_wp2
  go_returns
  exact⟨rfl,Gr.g⟩
theorem oZ(v m:Int)(h:IntKind.u64.wrap (-v)=m)(w:World):QW 269 #[J Y 1,J Z v] w (J Z m):=by
 go_enter func269,ntmps269
 go_wp2
 go_returns
 exact⟨rfl,rfl⟩
theorem mZ(v:Int)(w:World):QW 269 #[J Y 0,J Z v] w (J Z v):=by
 go_enter func269,ntmps269
 go_wp2
 go_returns
 exact⟨rfl,rfl⟩
theorem aGV(v x y m:Int)(q:Bool)(hx:IntKind.i32.wrap v=x)(c:x<0)(hy:IntKind.u64.wrap x=y)(hq:(y==v)=q)(hm:IntKind.u64.wrap (-v)=m)(w:World):
  QR 267 #[O #[J .i32 (-2147483648),J .i32 2147483647],J Z v] w (V #[J Y 1,J Z m,X q]):=by
 have HT:KW 269 #[J Y 1,J Z v] (J Z m):=fun w=>oZ v m hm w
 go_enter func267,ntmps267
 go_wp2_with (go_at_call 269;refine kw (HT.out _) ?_)
 go_returns
 exact⟨rfl,Gr.g⟩
theorem aGU(v x y:Int)(q:Bool)(hx:IntKind.i32.wrap v=x)(c:0≤x)(hy:IntKind.u64.wrap x=y)(hq:(y==v)=q)(w:World):
  QR 267 #[O #[J .i32 (-2147483648),J .i32 2147483647],J Z v] w (V #[J Y 0,J Z v,X q]):=by
 have HT:KW 269 #[J Y 0,J Z v] (J Z v):=fun w=>mZ v w
 go_enter func267,ntmps267
 go_wp2_with (go_at_call 269;refine kw (HT.out _) ?_)
 go_returns
 exact⟨rfl,Gr.g⟩
theorem GU(v x y m:Int)(q:Bool)(hx:IntKind.i64.wrap v=x)(c:x<0)(hy:IntKind.u64.wrap x=y)(hq:(y==v)=q)(hm:IntKind.u64.wrap (-v)=m)(w:World):
  QR 270 #[O #[J Y (-9223372036854775808),J Y 9223372036854775807],J Z v] w (V #[J Y 1,J Z m,X q]):=by
 have HT:KW 269 #[J Y 1,J Z v] (J Z m):=fun w=>oZ v m hm w
 go_enter func270,ntmps270
 go_wp2_with (go_at_call 269;refine kw (HT.out _) ?_)
 go_returns
 exact⟨rfl,Gr.g⟩
theorem GR(v x y:Int)(q:Bool)(hx:IntKind.i64.wrap v=x)(c:0≤x)(hy:IntKind.u64.wrap x=y)(hq:(y==v)=q)(w:World):
  QR 270 #[O #[J Y (-9223372036854775808),J Y 9223372036854775807],J Z v] w (V #[J Y 0,J Z v,X q]):=by
 have HT:KW 269 #[J Y 0,J Z v] (J Z v):=fun w=>mZ v w
 go_enter func270,ntmps270
 go_wp2_with (go_at_call 269;refine kw (HT.out _) ?_)
 go_returns
 exact⟨rfl,Gr.g⟩
theorem aGT(v x y:Int)(q:Bool)(hx:IntKind.u32.wrap v=x)(c:0≤x)(hy:IntKind.u64.wrap x=y)(hq:(y==v)=q)(w:World):
  QR 272 #[O #[J .u32 0,J .u32 4294967295],J Z v] w (V #[J Y 0,J Z v,X q]):=by
 have HT:KW 269 #[J Y 0,J Z v] (J Z v):=fun w=>mZ v w
 go_enter func272,ntmps272
 go_wp2_with (go_at_call 269;refine kw (HT.out _) ?_)
 go_returns
 exact⟨rfl,Gr.g⟩
theorem aGS(v:Int)(c:0≤v)(hv:IntKind.u64.wrap v=v)(w:World):
  QR 274 #[O #[J Z 0,J Z 18446744073709551615],J Z v] w (V #[J Y 0,J Z v,X true]):=by
 have HT:KW 269 #[J Y 0,J Z v] (J Z v):=fun w=>mZ v w
 go_enter func274,ntmps274
 go_wp2_with (go_at_call 269;refine kw (HT.out _) ?_)
 go_returns
 exact⟨rfl,Gr.g⟩
theorem aGy{P:Prop}(h:P:=by
 refine bodyPost_ret (v:=O #[J Z z,J Y fl]) (by simp[results,Tryz.results97,go_sem,iF,jh]) rfl ⟨z,fl,hq,rfl,?_⟩
 exact Gr.g):P:=h
theorem aGR(p mn mx md nan f mode kind a:Int)(kv:Value)(kB:Bool){w:World}(HS:Hid (∀w',Gr w w'→QR 70 #[J Y f,J Y mode] w' (V #[O #[J Y p,J Y mn,J Y mx,J Y md,Value.nilFunc],X false])))(HK:KR 71 #[J Y kind] (V #[kv,X kB]))(HN:KR 176 #[O #[J Y p,J Y mn,J Y mx]] (O #[J Z nan,J Y 1])):
  QR 97 #[J Y f,J Y mode,J Y kind,J Z a] w (O #[J Z nan,J Y 1]):=by
 go_enter func97,ntmps97
 go_wp2_with (first
  |(go_at_call 70;refine(HS.out _ Gr.g).mono ?_;rintro x w1 ⟨rfl,aj⟩;obtain⟨EF,D5,X8,DZ⟩:=aj.y2 w.heap.size 0 1 (J Z 0) (J Y 0);have hz1:=au EF)
  |(go_at_call 71;refine(HK.out _).mono ?_;rintro x w2 ⟨rfl,ak⟩;obtain⟨lr0,aCk,lr1,aCj⟩:=ak.y2 w.heap.size 0 1 (J Z 0) (J Y 0);obtain⟨ls0,ls1,ls2,ls3,ls4⟩:=ak.e5 w1.heap.size 0 1 2 3 4 (J Y p) (J Y mn) (J Y mx) (J Y md) (Value.nilFunc);have hz2:=au lr0)
  |(go_at_call 176;refine(HN.out _).mono ?_;rintro x w4 ⟨rfl,aF⟩;obtain⟨iF,h_,jh,g_⟩:=aF.y2 w.heap.size 0 1 (J Z 0) (J Y 0)))
 refine bodyPost_ret (v:=O #[J Z nan,J Y 1]) (by simp[results,Tryz.results97,go_sem,iF,jh]) rfl ⟨rfl,?_⟩
 exact Gr.g
theorem aHG(p mn mx md nan f mode kind a:Int)(k:Nat){w:World}(HS:Hid (∀w',Gr w w'→QR 70 #[J Y f,J Y mode] w' (V #[O #[J Y p,J Y mn,J Y mx,J Y md,.func (.func k) #[] #[]],X true])))(HK:KR 71 #[J Y kind] (V #[Value.nilIface,X false]))(HN:KR 176 #[O #[J Y p,J Y mn,J Y mx]] (O #[J Z nan,J Y 1])):
  QR 97 #[J Y f,J Y mode,J Y kind,J Z a] w (O #[J Z nan,J Y 1]):=by
 go_enter func97,ntmps97
 go_wp2_with (first
  |(go_at_call 70;refine(HS.out _ Gr.g).mono ?_;rintro x w1 ⟨rfl,aj⟩;obtain⟨EF,D5,X8,DZ⟩:=aj.y2 w.heap.size 0 1 (J Z 0) (J Y 0);have hz1:=au EF)
  |(go_at_call 71;refine(HK.out _).mono ?_;rintro x w2 ⟨rfl,ak⟩;obtain⟨lr0,aCk,lr1,aCj⟩:=ak.y2 w.heap.size 0 1 (J Z 0) (J Y 0);obtain⟨ls0,ls1,ls2,ls3,ls4⟩:=ak.e5 w1.heap.size 0 1 2 3 4 (J Y p) (J Y mn) (J Y mx) (J Y md) (.func (.func k) #[] #[]);have hz2:=au lr0)
  |(go_at_call 176;refine(HN.out _).mono ?_;rintro x w4 ⟨rfl,aF⟩;obtain⟨iF,h_,jh,g_⟩:=aF.y2 w.heap.size 0 1 (J Z 0) (J Y 0)))
 refine bodyPost_ret (v:=O #[J Z nan,J Y 1]) (by simp[results,Tryz.results97,go_sem,iF,jh]) rfl ⟨rfl,?_⟩
 exact Gr.g
theorem aHq(p mn mx md nan f mode kind a s m:Int)(k:Nat){w:World}(HS:Hid (∀w',Gr w w'→QR 70 #[J Y f,J Y mode] w' (V #[O #[J Y p,J Y mn,J Y mx,J Y md,.func (.func k) #[] #[]],X true])))(HK:KR 71 #[J Y kind] (V #[.iface 176 (O #[J .i32 (-2147483648),J .i32 2147483647]),X true]))(HW:KR 267 #[O #[J .i32 (-2147483648),J .i32 2147483647],J Z a] (V #[J Y s,J Z m,X false]))(HN:KR 176 #[O #[J Y p,J Y mn,J Y mx]] (O #[J Z nan,J Y 1])):
  QR 97 #[J Y f,J Y mode,J Y kind,J Z a] w (O #[J Z nan,J Y 1]):=by
 go_enter func97,ntmps97
 go_wp2_with (first
  |(go_at_call 70;refine(HS.out _ Gr.g).mono ?_;rintro x w1 ⟨rfl,aj⟩;obtain⟨EF,D5,X8,DZ⟩:=aj.y2 w.heap.size 0 1 (J Z 0) (J Y 0);have hz1:=au EF)
  |(go_at_call 71;refine(HK.out _).mono ?_;rintro x w2 ⟨rfl,ak⟩;obtain⟨lr0,aCk,lr1,aCj⟩:=ak.y2 w.heap.size 0 1 (J Z 0) (J Y 0);obtain⟨ls0,ls1,ls2,ls3,ls4⟩:=ak.e5 w1.heap.size 0 1 2 3 4 (J Y p) (J Y mn) (J Y mx) (J Y md) (.func (.func k) #[] #[]);have hz2:=au lr0)
  |(go_at_call 267;refine(HW.out _).mono ?_;rintro x w3 ⟨rfl,aA⟩;obtain⟨WE,DJ,XL,DI⟩:=aA.y2 w.heap.size 0 1 (J Z 0) (J Y 0);obtain⟨ns0,ns1,ns2,ns3,ns4⟩:=aA.e5 w1.heap.size 0 1 2 3 4 (J Y p) (J Y mn) (J Y mx) (J Y md) (.func (.func k) #[] #[]))
  |(go_at_call 176;refine(HN.out _).mono ?_;rintro x w4 ⟨rfl,aF⟩;obtain⟨iF,h_,jh,g_⟩:=aF.y2 w.heap.size 0 1 (J Z 0) (J Y 0)))
 refine bodyPost_ret (v:=O #[J Z nan,J Y 1]) (by simp[results,Tryz.results97,go_sem,iF,jh]) rfl ⟨rfl,?_⟩
 exact Gr.g
theorem aHF(p mn mx md f mode kind a s m:Int)(k:Nat){w:World}(HS:Hid (∀w',Gr w w'→QR 70 #[J Y f,J Y mode] w' (V #[O #[J Y p,J Y mn,J Y mx,J Y md,.func (.func k) #[] #[]],X true])))(HK:KR 71 #[J Y kind] (V #[.iface 176 (O #[J .i32 (-2147483648),J .i32 2147483647]),X true]))(HW:KR 267 #[O #[J .i32 (-2147483648),J .i32 2147483647],J Z a] (V #[J Y s,J Z m,X true]))(Q:Int→Int→Prop)(HR:Hid (∀w,CT 186 #[O #[J Y p,J Y mn,J Y mx,J Y md,.func (.func k) #[] #[]],J Y s,J Y 0,O #[J Z 0,J Z m],X false] w fun e w'=>∃z fl,Q z fl∧e=.returned (O #[J Z z,J Y fl])∧Gr w w')):
  CT 97 #[J Y f,J Y mode,J Y kind,J Z a] w fun e w'=>∃z fl,Q z fl∧e=.returned (O #[J Z z,J Y fl])∧Gr w w':=by
 go_enter func97,ntmps97
 go_wp2_with (first
  |(go_at_call 70;refine(HS.out _ Gr.g).mono ?_;rintro x w1 ⟨rfl,aj⟩;obtain⟨EF,D5,X8,DZ⟩:=aj.y2 w.heap.size 0 1 (J Z 0) (J Y 0);have hz1:=au EF)
  |(go_at_call 71;refine(HK.out _).mono ?_;rintro x w2 ⟨rfl,ak⟩;obtain⟨lr0,aCk,lr1,aCj⟩:=ak.y2 w.heap.size 0 1 (J Z 0) (J Y 0);obtain⟨ls0,ls1,ls2,ls3,ls4⟩:=ak.e5 w1.heap.size 0 1 2 3 4 (J Y p) (J Y mn) (J Y mx) (J Y md) (.func (.func k) #[] #[]);have hz2:=au lr0)
  |(go_at_call 267;refine(HW.out _).mono ?_;rintro x w3 ⟨rfl,aA⟩;obtain⟨WE,DJ,XL,DI⟩:=aA.y2 w.heap.size 0 1 (J Z 0) (J Y 0);obtain⟨ns0,ns1,ns2,ns3,ns4⟩:=aA.e5 w1.heap.size 0 1 2 3 4 (J Y p) (J Y mn) (J Y mx) (J Y md) (.func (.func k) #[] #[]))
  |(go_at_call 186;refine(HR.out _).mono ?_;rintro x w4 ⟨z,fl,hq,rfl,aF⟩;obtain⟨iF,h_,jh,g_⟩:=aF.y2 w.heap.size 0 1 (J Z 0) (J Y 0)))
 exact aGy
theorem QN(p mn mx md nan f mode kind a s m:Int)(k:Nat){w:World}(HS:Hid (∀w',Gr w w'→QR 70 #[J Y f,J Y mode] w' (V #[O #[J Y p,J Y mn,J Y mx,J Y md,.func (.func k) #[] #[]],X true])))(HK:KR 71 #[J Y kind] (V #[.iface 178 (O #[J Y (-9223372036854775808),J Y 9223372036854775807]),X true]))(HW:KR 270 #[O #[J Y (-9223372036854775808),J Y 9223372036854775807],J Z a] (V #[J Y s,J Z m,X false]))(HN:KR 176 #[O #[J Y p,J Y mn,J Y mx]] (O #[J Z nan,J Y 1])):
  QR 97 #[J Y f,J Y mode,J Y kind,J Z a] w (O #[J Z nan,J Y 1]):=by
 go_enter func97,ntmps97
 go_wp2_with (first
  |(go_at_call 70;refine(HS.out _ Gr.g).mono ?_;rintro x w1 ⟨rfl,aj⟩;obtain⟨EF,D5,X8,DZ⟩:=aj.y2 w.heap.size 0 1 (J Z 0) (J Y 0);have hz1:=au EF)
  |(go_at_call 71;refine(HK.out _).mono ?_;rintro x w2 ⟨rfl,ak⟩;obtain⟨lr0,aCk,lr1,aCj⟩:=ak.y2 w.heap.size 0 1 (J Z 0) (J Y 0);obtain⟨ls0,ls1,ls2,ls3,ls4⟩:=ak.e5 w1.heap.size 0 1 2 3 4 (J Y p) (J Y mn) (J Y mx) (J Y md) (.func (.func k) #[] #[]);have hz2:=au lr0)
  |(go_at_call 270;refine(HW.out _).mono ?_;rintro x w3 ⟨rfl,aA⟩;obtain⟨WE,DJ,XL,DI⟩:=aA.y2 w.heap.size 0 1 (J Z 0) (J Y 0);obtain⟨ns0,ns1,ns2,ns3,ns4⟩:=aA.e5 w1.heap.size 0 1 2 3 4 (J Y p) (J Y mn) (J Y mx) (J Y md) (.func (.func k) #[] #[]))
  |(go_at_call 176;refine(HN.out _).mono ?_;rintro x w4 ⟨rfl,aF⟩;obtain⟨iF,h_,jh,g_⟩:=aF.y2 w.heap.size 0 1 (J Z 0) (J Y 0)))
 refine bodyPost_ret (v:=O #[J Z nan,J Y 1]) (by simp[results,Tryz.results97,go_sem,iF,jh]) rfl ⟨rfl,?_⟩
 exact Gr.g
theorem U9(p mn mx md f mode kind a s m:Int)(k:Nat){w:World}(HS:Hid (∀w',Gr w w'→QR 70 #[J Y f,J Y mode] w' (V #[O #[J Y p,J Y mn,J Y mx,J Y md,.func (.func k) #[] #[]],X true])))(HK:KR 71 #[J Y kind] (V #[.iface 178 (O #[J Y (-9223372036854775808),J Y 9223372036854775807]),X true]))(HW:KR 270 #[O #[J Y (-9223372036854775808),J Y 9223372036854775807],J Z a] (V #[J Y s,J Z m,X true]))(Q:Int→Int→Prop)(HR:Hid (∀w,CT 186 #[O #[J Y p,J Y mn,J Y mx,J Y md,.func (.func k) #[] #[]],J Y s,J Y 0,O #[J Z 0,J Z m],X false] w fun e w'=>∃z fl,Q z fl∧e=.returned (O #[J Z z,J Y fl])∧Gr w w')):
  CT 97 #[J Y f,J Y mode,J Y kind,J Z a] w fun e w'=>∃z fl,Q z fl∧e=.returned (O #[J Z z,J Y fl])∧Gr w w':=by
 go_enter func97,ntmps97
 go_wp2_with (first
  |(go_at_call 70;refine(HS.out _ Gr.g).mono ?_;rintro x w1 ⟨rfl,aj⟩;obtain⟨EF,D5,X8,DZ⟩:=aj.y2 w.heap.size 0 1 (J Z 0) (J Y 0);have hz1:=au EF)
  |(go_at_call 71;refine(HK.out _).mono ?_;rintro x w2 ⟨rfl,ak⟩;obtain⟨lr0,aCk,lr1,aCj⟩:=ak.y2 w.heap.size 0 1 (J Z 0) (J Y 0);obtain⟨ls0,ls1,ls2,ls3,ls4⟩:=ak.e5 w1.heap.size 0 1 2 3 4 (J Y p) (J Y mn) (J Y mx) (J Y md) (.func (.func k) #[] #[]);have hz2:=au lr0)
  |(go_at_call 270;refine(HW.out _).mono ?_;rintro x w3 ⟨rfl,aA⟩;obtain⟨WE,DJ,XL,DI⟩:=aA.y2 w.heap.size 0 1 (J Z 0) (J Y 0);obtain⟨ns0,ns1,ns2,ns3,ns4⟩:=aA.e5 w1.heap.size 0 1 2 3 4 (J Y p) (J Y mn) (J Y mx) (J Y md) (.func (.func k) #[] #[]))
  |(go_at_call 186;refine(HR.out _).mono ?_;rintro x w4 ⟨z,fl,hq,rfl,aF⟩;obtain⟨iF,h_,jh,g_⟩:=aF.y2 w.heap.size 0 1 (J Z 0) (J Y 0)))
 exact aGy
theorem aHp(p mn mx md nan f mode kind a s m:Int)(k:Nat){w:World}(HS:Hid (∀w',Gr w w'→QR 70 #[J Y f,J Y mode] w' (V #[O #[J Y p,J Y mn,J Y mx,J Y md,.func (.func k) #[] #[]],X true])))(HK:KR 71 #[J Y kind] (V #[.iface 181 (O #[J .u32 0,J .u32 4294967295]),X true]))(HW:KR 272 #[O #[J .u32 0,J .u32 4294967295],J Z a] (V #[J Y s,J Z m,X false]))(HN:KR 176 #[O #[J Y p,J Y mn,J Y mx]] (O #[J Z nan,J Y 1])):
  QR 97 #[J Y f,J Y mode,J Y kind,J Z a] w (O #[J Z nan,J Y 1]):=by
 go_enter func97,ntmps97
 go_wp2_with (first
  |(go_at_call 70;refine(HS.out _ Gr.g).mono ?_;rintro x w1 ⟨rfl,aj⟩;obtain⟨EF,D5,X8,DZ⟩:=aj.y2 w.heap.size 0 1 (J Z 0) (J Y 0);have hz1:=au EF)
  |(go_at_call 71;refine(HK.out _).mono ?_;rintro x w2 ⟨rfl,ak⟩;obtain⟨lr0,aCk,lr1,aCj⟩:=ak.y2 w.heap.size 0 1 (J Z 0) (J Y 0);obtain⟨ls0,ls1,ls2,ls3,ls4⟩:=ak.e5 w1.heap.size 0 1 2 3 4 (J Y p) (J Y mn) (J Y mx) (J Y md) (.func (.func k) #[] #[]);have hz2:=au lr0)
  |(go_at_call 272;refine(HW.out _).mono ?_;rintro x w3 ⟨rfl,aA⟩;obtain⟨WE,DJ,XL,DI⟩:=aA.y2 w.heap.size 0 1 (J Z 0) (J Y 0);obtain⟨ns0,ns1,ns2,ns3,ns4⟩:=aA.e5 w1.heap.size 0 1 2 3 4 (J Y p) (J Y mn) (J Y mx) (J Y md) (.func (.func k) #[] #[]))
  |(go_at_call 176;refine(HN.out _).mono ?_;rintro x w4 ⟨rfl,aF⟩;obtain⟨iF,h_,jh,g_⟩:=aF.y2 w.heap.size 0 1 (J Z 0) (J Y 0)))
 refine bodyPost_ret (v:=O #[J Z nan,J Y 1]) (by simp[results,Tryz.results97,go_sem,iF,jh]) rfl ⟨rfl,?_⟩
 exact Gr.g
theorem aHE(p mn mx md f mode kind a s m:Int)(k:Nat){w:World}(HS:Hid (∀w',Gr w w'→QR 70 #[J Y f,J Y mode] w' (V #[O #[J Y p,J Y mn,J Y mx,J Y md,.func (.func k) #[] #[]],X true])))(HK:KR 71 #[J Y kind] (V #[.iface 181 (O #[J .u32 0,J .u32 4294967295]),X true]))(HW:KR 272 #[O #[J .u32 0,J .u32 4294967295],J Z a] (V #[J Y s,J Z m,X true]))(Q:Int→Int→Prop)(HR:Hid (∀w,CT 186 #[O #[J Y p,J Y mn,J Y mx,J Y md,.func (.func k) #[] #[]],J Y s,J Y 0,O #[J Z 0,J Z m],X false] w fun e w'=>∃z fl,Q z fl∧e=.returned (O #[J Z z,J Y fl])∧Gr w w')):
  CT 97 #[J Y f,J Y mode,J Y kind,J Z a] w fun e w'=>∃z fl,Q z fl∧e=.returned (O #[J Z z,J Y fl])∧Gr w w':=by
 go_enter func97,ntmps97
 go_wp2_with (first
  |(go_at_call 70;refine(HS.out _ Gr.g).mono ?_;rintro x w1 ⟨rfl,aj⟩;obtain⟨EF,D5,X8,DZ⟩:=aj.y2 w.heap.size 0 1 (J Z 0) (J Y 0);have hz1:=au EF)
  |(go_at_call 71;refine(HK.out _).mono ?_;rintro x w2 ⟨rfl,ak⟩;obtain⟨lr0,aCk,lr1,aCj⟩:=ak.y2 w.heap.size 0 1 (J Z 0) (J Y 0);obtain⟨ls0,ls1,ls2,ls3,ls4⟩:=ak.e5 w1.heap.size 0 1 2 3 4 (J Y p) (J Y mn) (J Y mx) (J Y md) (.func (.func k) #[] #[]);have hz2:=au lr0)
  |(go_at_call 272;refine(HW.out _).mono ?_;rintro x w3 ⟨rfl,aA⟩;obtain⟨WE,DJ,XL,DI⟩:=aA.y2 w.heap.size 0 1 (J Z 0) (J Y 0);obtain⟨ns0,ns1,ns2,ns3,ns4⟩:=aA.e5 w1.heap.size 0 1 2 3 4 (J Y p) (J Y mn) (J Y mx) (J Y md) (.func (.func k) #[] #[]))
  |(go_at_call 186;refine(HR.out _).mono ?_;rintro x w4 ⟨z,fl,hq,rfl,aF⟩;obtain⟨iF,h_,jh,g_⟩:=aF.y2 w.heap.size 0 1 (J Z 0) (J Y 0)))
 exact aGy
theorem aHo(p mn mx md nan f mode kind a s m:Int)(k:Nat){w:World}(HS:Hid (∀w',Gr w w'→QR 70 #[J Y f,J Y mode] w' (V #[O #[J Y p,J Y mn,J Y mx,J Y md,.func (.func k) #[] #[]],X true])))(HK:KR 71 #[J Y kind] (V #[.iface 183 (O #[J Z 0,J Z 18446744073709551615]),X true]))(HW:KR 274 #[O #[J Z 0,J Z 18446744073709551615],J Z a] (V #[J Y s,J Z m,X false]))(HN:KR 176 #[O #[J Y p,J Y mn,J Y mx]] (O #[J Z nan,J Y 1])):
  QR 97 #[J Y f,J Y mode,J Y kind,J Z a] w (O #[J Z nan,J Y 1]):=by
 go_enter func97,ntmps97
 go_wp2_with (first
  |(go_at_call 70;refine(HS.out _ Gr.g).mono ?_;rintro x w1 ⟨rfl,aj⟩;obtain⟨EF,D5,X8,DZ⟩:=aj.y2 w.heap.size 0 1 (J Z 0) (J Y 0);have hz1:=au EF)
  |(go_at_call 71;refine(HK.out _).mono ?_;rintro x w2 ⟨rfl,ak⟩;obtain⟨lr0,aCk,lr1,aCj⟩:=ak.y2 w.heap.size 0 1 (J Z 0) (J Y 0);obtain⟨ls0,ls1,ls2,ls3,ls4⟩:=ak.e5 w1.heap.size 0 1 2 3 4 (J Y p) (J Y mn) (J Y mx) (J Y md) (.func (.func k) #[] #[]);have hz2:=au lr0)
  |(go_at_call 274;refine(HW.out _).mono ?_;rintro x w3 ⟨rfl,aA⟩;obtain⟨WE,DJ,XL,DI⟩:=aA.y2 w.heap.size 0 1 (J Z 0) (J Y 0);obtain⟨ns0,ns1,ns2,ns3,ns4⟩:=aA.e5 w1.heap.size 0 1 2 3 4 (J Y p) (J Y mn) (J Y mx) (J Y md) (.func (.func k) #[] #[]))
  |(go_at_call 176;refine(HN.out _).mono ?_;rintro x w4 ⟨rfl,aF⟩;obtain⟨iF,h_,jh,g_⟩:=aF.y2 w.heap.size 0 1 (J Z 0) (J Y 0)))
 refine bodyPost_ret (v:=O #[J Z nan,J Y 1]) (by simp[results,Tryz.results97,go_sem,iF,jh]) rfl ⟨rfl,?_⟩
 exact Gr.g
theorem aHD(p mn mx md f mode kind a s m:Int)(k:Nat){w:World}(HS:Hid (∀w',Gr w w'→QR 70 #[J Y f,J Y mode] w' (V #[O #[J Y p,J Y mn,J Y mx,J Y md,.func (.func k) #[] #[]],X true])))(HK:KR 71 #[J Y kind] (V #[.iface 183 (O #[J Z 0,J Z 18446744073709551615]),X true]))(HW:KR 274 #[O #[J Z 0,J Z 18446744073709551615],J Z a] (V #[J Y s,J Z m,X true]))(Q:Int→Int→Prop)(HR:Hid (∀w,CT 186 #[O #[J Y p,J Y mn,J Y mx,J Y md,.func (.func k) #[] #[]],J Y s,J Y 0,O #[J Z 0,J Z m],X false] w fun e w'=>∃z fl,Q z fl∧e=.returned (O #[J Z z,J Y fl])∧Gr w w')):
  CT 97 #[J Y f,J Y mode,J Y kind,J Z a] w fun e w'=>∃z fl,Q z fl∧e=.returned (O #[J Z z,J Y fl])∧Gr w w':=by
 go_enter func97,ntmps97
 go_wp2_with (first
  |(go_at_call 70;refine(HS.out _ Gr.g).mono ?_;rintro x w1 ⟨rfl,aj⟩;obtain⟨EF,D5,X8,DZ⟩:=aj.y2 w.heap.size 0 1 (J Z 0) (J Y 0);have hz1:=au EF)
  |(go_at_call 71;refine(HK.out _).mono ?_;rintro x w2 ⟨rfl,ak⟩;obtain⟨lr0,aCk,lr1,aCj⟩:=ak.y2 w.heap.size 0 1 (J Z 0) (J Y 0);obtain⟨ls0,ls1,ls2,ls3,ls4⟩:=ak.e5 w1.heap.size 0 1 2 3 4 (J Y p) (J Y mn) (J Y mx) (J Y md) (.func (.func k) #[] #[]);have hz2:=au lr0)
  |(go_at_call 274;refine(HW.out _).mono ?_;rintro x w3 ⟨rfl,aA⟩;obtain⟨WE,DJ,XL,DI⟩:=aA.y2 w.heap.size 0 1 (J Z 0) (J Y 0);obtain⟨ns0,ns1,ns2,ns3,ns4⟩:=aA.e5 w1.heap.size 0 1 2 3 4 (J Y p) (J Y mn) (J Y mx) (J Y md) (.func (.func k) #[] #[]))
  |(go_at_call 186;refine(HR.out _).mono ?_;rintro x w4 ⟨z,fl,hq,rfl,aF⟩;obtain⟨iF,h_,jh,g_⟩:=aF.y2 w.heap.size 0 1 (J Z 0) (J Y 0)))
 exact aGy
