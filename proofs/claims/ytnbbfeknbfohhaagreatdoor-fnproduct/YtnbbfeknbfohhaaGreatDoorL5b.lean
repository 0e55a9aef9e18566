import Derived.Test.YtnbbfeknbfohhaaGreatDoorB7
import Derived.Deep.DeepCutAuto
import Derived.Test.YtnbbfeknbfohhaaGreatDoorA7
import Derived.Deep.RegionHeld3
import Derived.BigQuiet
import Derived.Deep.QuietTactic
import Derived.Test.YtnbbfeknbfohhaaGreatDoorA2
set_option linter.unusedVariables false
set_option linter.unusedSimpArgs false
set_option maxRecDepth 1000000
set_option maxHeartbeats 40000000
open Go.Value renaming int → J, agg → O, bool → X, tuple → V
open Go.IntKind renaming i64 → Y, u64 → Z
open Go.Proofs.Tryz
namespace Go.Proofs.YtnbbfeknbfohhaaGreatDoor
open Go.RowKit
theorem x9 (p mn mx md : Int) (k : Nat) (sx ex cx xh xl sy ey cy yh yl : Int) (tx ty : Bool) (m : Int) (hm : max cx cy = m) (h3 : m < 3) (Q : Int → Int → Int → Int → Int → Bool → Int → Prop) (HO : Hid (∀ w, CT 75 #[O #[J Y p, J Y mn, J Y mx, J Y md, .func (.func k) #[] #[]], O #[J Y sx, J Y ex, J Y cx, J Z xh, J Z xl, X tx, J Y 0], O #[J Y sy, J Y ey, J Y cy, J Z yh, J Z yl, X ty, J Y 0]] w fun e w' => ∃ os oe oc oh ol ot of, Q os oe oc oh ol ot of ∧ e = .returned (O #[J Y os, J Y oe, J Y oc, J Z oh, J Z ol, X ot, J Y of]) ∧ Gr w w')) (w : World) :
  CT 74 #[O #[J Y p, J Y mn, J Y mx, J Y md, .func (.func k) #[] #[]], .func (.func 75) #[] #[], O #[J Y sx, J Y ex, J Y cx, J Z xh, J Z xl, X tx, J Y 0], O #[J Y sy, J Y ey, J Y cy, J Z yh, J Z yl, X ty, J Y 0]] w fun e w' => ∃ os oe oc oh ol ot of, Q os oe oc oh ol ot of ∧ e = .returned (O #[J Y os, J Y oe, J Y oc, J Z oh, J Z ol, X ot, J Y of]) ∧ Gr w w' := by
 go_enter func74, ntmps74
 go_wp2_with (go_at_call 75; refine (HO.out _).mono ?_; rintro e w1 ⟨os, oe, oc, oh, ol, ot, of, hq, rfl, aj⟩; obtain ⟨bG, bK, cO, bJ, iW, d_, ar3, dZ, lW, gV, mX, iM, mW, iK⟩ := aj.y7 (w.heap.size + 1 + 1 + 1) 0 1 2 3 4 5 6 (J Y 0) (J Y 0) (J Y 0) (J Z 0) (J Z 0) (X false) (J Y 0))
 refine bodyPost_ret (v := O #[J Y os, J Y oe, J Y oc, J Z oh, J Z ol, X ot, J Y of]) (by simp [results, Tryz.results74, go_sem, bG, cO, iW, ar3, lW, mX, mW]) rfl ⟨os, oe, oc, oh, ol, ot, of, hq, rfl, ?_⟩
 exact Gr.g
theorem BZ (p mn mx md : Int) (k : Nat) (sx ex cx xh xl sy ey cy yh yl : Int) (tx ty : Bool) (c : (cx != 1) = true) (w : World) :
  QR 75 #[O #[J Y p, J Y mn, J Y mx, J Y md, .func (.func k) #[] #[]], O #[J Y sx, J Y ex, J Y cx, J Z xh, J Z xl, X tx, J Y 0], O #[J Y sy, J Y ey, J Y cy, J Z yh, J Z yl, X ty, J Y 0]] w (O #[J Y sx, J Y ex, J Y cx, J Z xh, J Z xl, X tx, J Y 0]) := by
 go_enter func75, ntmps75
 go_wp2
 go_returns
 exact ⟨rfl, Gr.g⟩
theorem OD (p mn mx md : Int) (k : Nat) (sx ex cx xh xl sy ey cy yh yl : Int) (tx ty : Bool) (c : cx = 1) (c2 : decide (0 ≤ ex) = true) (w : World) :
  QR 75 #[O #[J Y p, J Y mn, J Y mx, J Y md, .func (.func k) #[] #[]], O #[J Y sx, J Y ex, J Y cx, J Z xh, J Z xl, X tx, J Y 0], O #[J Y sy, J Y ey, J Y cy, J Z yh, J Z yl, X ty, J Y 0]] w (O #[J Y sx, J Y ex, J Y 1, J Z xh, J Z xl, X tx, J Y 0]) := by
 subst c
 go_enter func75, ntmps75
 go_wp2
 go_returns
 exact ⟨rfl, Gr.g⟩
theorem OB (p mn mx md : Int) (k : Nat) (sx ex cx xh xl sy ey cy yh yl : Int) (tx ty : Bool) (dr m : Int) (c : cx = 1) (c2 : decide (0 ≤ ex) = false) (hn : wrap64 (-ex) = dr) (HR : KR 161 #[.func (.func k) #[] #[], J Y dr, J Y sx, O #[J Z xh, J Z xl], X false] (V #[J Z m, X true])) (w : World) :
  QR 75 #[O #[J Y p, J Y mn, J Y mx, J Y md, .func (.func k) #[] #[]], O #[J Y sx, J Y ex, J Y cx, J Z xh, J Z xl, X tx, J Y 0], O #[J Y sy, J Y ey, J Y cy, J Z yh, J Z yl, X ty, J Y 0]] w (O #[J Y sx, J Y 0, J Y 1, J Z 0, J Z m, X tx, J Y 16]) := by
 subst c
 go_enter func75, ntmps75
 go_wp2_with (go_at_call 161; refine (HR.out _).mono ?_; rintro x w1 ⟨rfl, aj⟩; obtain ⟨AY, Ri, AX, Rh, oQ, Rf, Ih, Q_, yI, Q9, ax5, Q8, ax6, Q7⟩ := aj.y7 (w.heap.size + 1) 0 1 2 3 4 5 6 (J Y sx) (J Y ex) (J Y 1) (J Z xh) (J Z xl) (X tx) (J Y 0); obtain ⟨bG, bK, cO, bJ, iW, d_, ar3, dZ, lW, gV, mX, iM, mW, iK⟩ := aj.y7 (w.heap.size + 1 + 1 + 1) 0 1 2 3 4 5 6 (J Y 0) (J Y 0) (J Y 0) (J Z 0) (J Z 0) (X false) (J Y 0); have hz1 := au bG)
 refine bodyPost_ret (v := O #[J Y sx, J Y 0, J Y 1, J Z 0, J Z m, X tx, J Y 16]) (by simp [results, Tryz.results75, go_sem, bG, cO, iW, ar3, lW, mX, mW]) rfl ⟨rfl, ?_⟩
 exact Gr.g
theorem OC (p mn mx md : Int) (k : Nat) (sx ex cx xh xl sy ey cy yh yl : Int) (tx ty : Bool) (dr m : Int) (c : cx = 1) (c2 : decide (0 ≤ ex) = false) (hn : wrap64 (-ex) = dr) (HR : KR 161 #[.func (.func k) #[] #[], J Y dr, J Y sx, O #[J Z xh, J Z xl], X false] (V #[J Z m, X false])) (w : World) :
  QR 75 #[O #[J Y p, J Y mn, J Y mx, J Y md, .func (.func k) #[] #[]], O #[J Y sx, J Y ex, J Y cx, J Z xh, J Z xl, X tx, J Y 0], O #[J Y sy, J Y ey, J Y cy, J Z yh, J Z yl, X ty, J Y 0]] w (O #[J Y sx, J Y 0, J Y 1, J Z 0, J Z m, X tx, J Y 0]) := by
 subst c
 go_enter func75, ntmps75
 go_wp2_with (go_at_call 161; refine (HR.out _).mono ?_; rintro x w1 ⟨rfl, aj⟩; obtain ⟨AY, Ri, AX, Rh, oQ, Rf, Ih, Q_, yI, Q9, ax5, Q8, ax6, Q7⟩ := aj.y7 (w.heap.size + 1) 0 1 2 3 4 5 6 (J Y sx) (J Y ex) (J Y 1) (J Z xh) (J Z xl) (X tx) (J Y 0); obtain ⟨bG, bK, cO, bJ, iW, d_, ar3, dZ, lW, gV, mX, iM, mW, iK⟩ := aj.y7 (w.heap.size + 1 + 1 + 1) 0 1 2 3 4 5 6 (J Y 0) (J Y 0) (J Y 0) (J Z 0) (J Z 0) (X false) (J Y 0); have hz1 := au bG)
 refine bodyPost_ret (v := O #[J Y sx, J Y 0, J Y 1, J Z 0, J Z m, X tx, J Y 0]) (by simp [results, Tryz.results75, go_sem, bG, cO, iW, ar3, lW, mX, mW]) rfl ⟨rfl, ?_⟩
 exact Gr.g
theorem zS (w : World) : QR 71 #[J Y 1] w (V #[.iface 178 (O #[J Y (-9223372036854775808), J Y 9223372036854775807]), X true]) := by
 go_enter func71, ntmps71
 go_wp2
 go_returns
 exact ⟨rfl, Gr.g⟩
theorem oZ (v m : Int) (h : IntKind.u64.wrap (-v) = m) (w : World) : QW 269 #[J Y 1, J Z v] w (J Z m) := by
 go_enter func269, ntmps269
 go_wp2
 go_returns
 exact ⟨rfl, rfl⟩
theorem mZ (v : Int) (w : World) : QW 269 #[J Y 0, J Z v] w (J Z v) := by
 go_enter func269, ntmps269
 go_wp2
 go_returns
 exact ⟨rfl, rfl⟩
theorem GU (v x y m : Int) (q : Bool) (hx : IntKind.i64.wrap v = x) (c : x < 0) (hy : IntKind.u64.wrap x = y) (hq : (y == v) = q) (hm : IntKind.u64.wrap (-v) = m) (w : World) :
  QR 270 #[O #[J Y (-9223372036854775808), J Y 9223372036854775807], J Z v] w (V #[J Y 1, J Z m, X q]) := by
 have HT : KW 269 #[J Y 1, J Z v] (J Z m) := fun w => oZ v m hm w
 go_enter func270, ntmps270
 go_wp2_with (go_at_call 269; refine kw (HT.out _) ?_)
 go_returns
 exact ⟨rfl, Gr.g⟩
theorem GR (v x y : Int) (q : Bool) (hx : IntKind.i64.wrap v = x) (c : 0 ≤ x) (hy : IntKind.u64.wrap x = y) (hq : (y == v) = q) (w : World) :
  QR 270 #[O #[J Y (-9223372036854775808), J Y 9223372036854775807], J Z v] w (V #[J Y 0, J Z v, X q]) := by
 have HT : KW 269 #[J Y 0, J Z v] (J Z v) := fun w => mZ v w
 go_enter func270, ntmps270
 go_wp2_with (go_at_call 269; refine kw (HT.out _) ?_)
 go_returns
 exact ⟨rfl, Gr.g⟩
theorem SH {P : Prop} (h : P := by
 have HE : KW 269 #[J Y 1, J Z 9223372036854775808] (J Z 9223372036854775808) := fun w => oZ _ _ (by decide +kernel) w
 have u1 : IntKind.u64.wrap (-9223372036854775808) = 9223372036854775808 := by decide +kernel
 exact I9) : P := h
theorem SI {P : Prop} (h : P := by
 go_enter func271, ntmps271
 go_wp2
 go_quiet (first | (go_at_call 269; refine Calls.quiet_of_same ((HE.out _).mono (fun e w' h => ⟨h.1, h.2.symm⟩))))
 all_goals go_wp2_with (go_at_call 269; with_reducible refine kw (HL.out _) ?_)
 all_goals go_returns
 all_goals exact ⟨rfl, GL Gr.g⟩) : P := h
theorem I9 {P : Prop} (h : P := by
 go_enter func271, ntmps271
 go_wp2
 go_quiet (first | (go_at_call 269; refine Calls.quiet_of_same ((HE.out _).mono (fun e w' h => ⟨h.1, h.2.symm⟩))))
 all_goals go_wp2
 all_goals go_returns
 all_goals exact ⟨rfl, GL Gr.g⟩) : P := h
theorem GL {W w : World} (h : Gr W w) {n : Nat} : Gr W (w.drewN n) := by
 obtain ⟨⟨⟨a1, a2, a3⟩, b, c⟩, d⟩ := h
 exact ⟨⟨⟨a1, a2, a3⟩, b, c⟩, below_drewN d n⟩
attribute [local go_sem] undef in
theorem Bg (hi lo : Int) (c : (hi != 0) = true) (w : World) :
  QR 271 #[O #[J Y (-9223372036854775808), J Y 9223372036854775807], J Y 0, O #[J Z hi, J Z lo]] w (V #[J Z 9223372036854775807, X false]) := by
 have HE : KW 269 #[J Y 0, J Z 9223372036854775807] (J Z 9223372036854775807) := fun w => mZ _ w
 exact I9
attribute [local go_sem] undef in
theorem Bj (hi lo : Int) (c : hi = 0) (c2 : decide (9223372036854775807 < lo) = true) (w : World) :
  QR 271 #[O #[J Y (-9223372036854775808), J Y 9223372036854775807], J Y 0, O #[J Z hi, J Z lo]] w (V #[J Z 9223372036854775807, X false]) := by
 subst c
 have HE : KW 269 #[J Y 0, J Z 9223372036854775807] (J Z 9223372036854775807) := fun w => mZ _ w
 exact I9
attribute [local go_sem] undef in
theorem Di (hi lo : Int) (c : hi = 0) (c2 : decide (9223372036854775807 < lo) = false) (w : World) :
  QR 271 #[O #[J Y (-9223372036854775808), J Y 9223372036854775807], J Y 0, O #[J Z hi, J Z lo]] w (V #[J Z lo, X true]) := by
 subst c
 have HE : KW 269 #[J Y 0, J Z 9223372036854775807] (J Z 9223372036854775807) := fun w => mZ _ w
 have HL : KW 269 #[J Y 0, J Z lo] (J Z lo) := fun w => mZ _ w
 exact SI
attribute [local go_sem] undef in
theorem Bd (hi lo : Int) (c : (hi != 0) = true) (w : World) :
  QR 271 #[O #[J Y (-9223372036854775808), J Y 9223372036854775807], J Y 1, O #[J Z hi, J Z lo]] w (V #[J Z 9223372036854775808, X false]) := by
 exact SH
attribute [local go_sem] undef in
theorem Bf (hi lo : Int) (c : hi = 0) (c2 : decide (9223372036854775808 < lo) = true) (w : World) :
  QR 271 #[O #[J Y (-9223372036854775808), J Y 9223372036854775807], J Y 1, O #[J Z hi, J Z lo]] w (V #[J Z 9223372036854775808, X false]) := by
 subst c
 exact SH
attribute [local go_sem] undef in
theorem Dh (hi lo r : Int) (c : hi = 0) (c2 : decide (9223372036854775808 < lo) = false) (hr : IntKind.u64.wrap (-lo) = r) (w : World) :
  QR 271 #[O #[J Y (-9223372036854775808), J Y 9223372036854775807], J Y 1, O #[J Z hi, J Z lo]] w (V #[J Z r, X true]) := by
 subst c
 have HE : KW 269 #[J Y 1, J Z 9223372036854775808] (J Z 9223372036854775808) := fun w => oZ _ _ (by decide +kernel) w
 have HL : KW 269 #[J Y 1, J Z lo] (J Z r) := fun w => oZ _ _ hr w
 have u1 : IntKind.u64.wrap (-9223372036854775808) = 9223372036854775808 := by decide +kernel
 exact SI
theorem QN (p mn mx md nan f mode kind a s m : Int) (k : Nat) {w : World} (HS : Hid (∀ w', Gr w w' → QR 70 #[J Y f, J Y mode] w' (V #[O #[J Y p, J Y mn, J Y mx, J Y md, .func (.func k) #[] #[]], X true]))) (HK : KR 71 #[J Y kind] (V #[.iface 178 (O #[J Y (-9223372036854775808), J Y 9223372036854775807]), X true])) (HW : KR 270 #[O #[J Y (-9223372036854775808), J Y 9223372036854775807], J Z a] (V #[J Y s, J Z m, X false])) (HN : KR 176 #[O #[J Y p, J Y mn, J Y mx]] (O #[J Z nan, J Y 1])) :
  QR 97 #[J Y f, J Y mode, J Y kind, J Z a] w (O #[J Z nan, J Y 1]) := by
 go_enter func97, ntmps97
 go_wp2_with (first
  | (go_at_call 70; refine (HS.out _ Gr.g).mono ?_; rintro x w1 ⟨rfl, aj⟩; obtain ⟨EF, D5, X8, DZ⟩ := aj.y2 w.heap.size 0 1 (J Z 0) (J Y 0); have hz1 := au EF)
  | (go_at_call 71; refine (HK.out _).mono ?_; rintro x w2 ⟨rfl, ak⟩; obtain ⟨lr0, aCk, lr1, aCj⟩ := ak.y2 w.heap.size 0 1 (J Z 0) (J Y 0); obtain ⟨ls0, ls1, ls2, ls3, ls4⟩ := ak.e5 w1.heap.size 0 1 2 3 4 (J Y p) (J Y mn) (J Y mx) (J Y md) (.func (.func k) #[] #[]); have hz2 := au lr0)
  | (go_at_call 270; refine (HW.out _).mono ?_; rintro x w3 ⟨rfl, aA⟩; obtain ⟨WE, DJ, XL, DI⟩ := aA.y2 w.heap.size 0 1 (J Z 0) (J Y 0); obtain ⟨ns0, ns1, ns2, ns3, ns4⟩ := aA.e5 w1.heap.size 0 1 2 3 4 (J Y p) (J Y mn) (J Y mx) (J Y md) (.func (.func k) #[] #[]))
  | (go_at_call 176; refine (HN.out _).mono ?_; rintro x w4 ⟨rfl, aF⟩; obtain ⟨iF, h_, jh, g_⟩ := aF.y2 w.heap.size 0 1 (J Z 0) (J Y 0)))
 refine bodyPost_ret (v := O #[J Z nan, J Y 1]) (by simp [results, Tryz.results97, go_sem, iF, jh]) rfl ⟨rfl, ?_⟩
 exact Gr.g
theorem U9 (p mn mx md f mode kind a s m : Int) (k : Nat) {w : World} (HS : Hid (∀ w', Gr w w' → QR 70 #[J Y f, J Y mode] w' (V #[O #[J Y p, J Y mn, J Y mx, J Y md, .func (.func k) #[] #[]], X true]))) (HK : KR 71 #[J Y kind] (V #[.iface 178 (O #[J Y (-9223372036854775808), J Y 9223372036854775807]), X true])) (HW : KR 270 #[O #[J Y (-9223372036854775808), J Y 9223372036854775807], J Z a] (V #[J Y s, J Z m, X true])) (Q : Int → Int → Prop) (HR : Hid (∀ w, CT 186 #[O #[J Y p, J Y mn, J Y mx, J Y md, .func (.func k) #[] #[]], J Y s, J Y 0, O #[J Z 0, J Z m], X false] w fun e w' => ∃ z fl, Q z fl ∧ e = .returned (O #[J Z z, J Y fl]) ∧ Gr w w')) :
  CT 97 #[J Y f, J Y mode, J Y kind, J Z a] w fun e w' => ∃ z fl, Q z fl ∧ e = .returned (O #[J Z z, J Y fl]) ∧ Gr w w' := by
 go_enter func97, ntmps97
 go_wp2_with (first
  | (go_at_call 70; refine (HS.out _ Gr.g).mono ?_; rintro x w1 ⟨rfl, aj⟩; obtain ⟨EF, D5, X8, DZ⟩ := aj.y2 w.heap.size 0 1 (J Z 0) (J Y 0); have hz1 := au EF)
  | (go_at_call 71; refine (HK.out _).mono ?_; rintro x w2 ⟨rfl, ak⟩; obtain ⟨lr0, aCk, lr1, aCj⟩ := ak.y2 w.heap.size 0 1 (J Z 0) (J Y 0); obtain ⟨ls0, ls1, ls2, ls3, ls4⟩ := ak.e5 w1.heap.size 0 1 2 3 4 (J Y p) (J Y mn) (J Y mx) (J Y md) (.func (.func k) #[] #[]); have hz2 := au lr0)
  | (go_at_call 270; refine (HW.out _).mono ?_; rintro x w3 ⟨rfl, aA⟩; obtain ⟨WE, DJ, XL, DI⟩ := aA.y2 w.heap.size 0 1 (J Z 0) (J Y 0); obtain ⟨ns0, ns1, ns2, ns3, ns4⟩ := aA.e5 w1.heap.size 0 1 2 3 4 (J Y p) (J Y mn) (J Y mx) (J Y md) (.func (.func k) #[] #[]))
  | (go_at_call 186; refine (HR.out _).mono ?_; rintro x w4 ⟨z, fl, hq, rfl, aF⟩; obtain ⟨iF, h_, jh, g_⟩ := aF.y2 w.heap.size 0 1 (J Z 0) (J Y 0)))
 refine bodyPost_ret (v := O #[J Z z, J Y fl]) (by simp [results, Tryz.results97, go_sem, iF, jh]) rfl ⟨z, fl, hq, rfl, ?_⟩
 exact Gr.g
theorem Fe (s e c mh ml fl : Int) (t : Bool) (h : decide (1 < c) = true) (w : World) :
  QR 76 #[O #[J Y s, J Y e, J Y c, J Z mh, J Z ml, X t, J Y fl]] w (O #[J Z 1, J Z 0]) := by
 go_enter func76, ntmps76
 go_wp2
 go_returns
 exact ⟨rfl, Gr.g⟩
theorem Fb (s e c mh ml fl k rh rl : Int) (t : Bool) (h : decide (1 < c) = false) (hk : min e 64 = k) (HS : KR 162 #[O #[J Z mh, J Z ml], J Y k] (O #[J Z rh, J Z rl])) (w : World) :
  QR 76 #[O #[J Y s, J Y e, J Y c, J Z mh, J Z ml, X t, J Y fl]] w (O #[J Z rh, J Z rl]) := by
 go_enter func76, ntmps76
 go_wp2_with (go_at_call 162; refine (HS.out _).mono ?_; rintro x w1 ⟨rfl, aj⟩; obtain ⟨bG, bK, cO, bJ⟩ := aj.y2 (w.heap.size + 1) 0 1 (J Z 0) (J Z 0))
 refine bodyPost_ret (v := O #[J Z rh, J Z rl]) (by simp [results, Tryz.results76, go_sem, bG, cO]) rfl ⟨rfl, ?_⟩
 exact Gr.g
theorem aDb (p mn mx mode f kind a sx ex cx xh xl os oe oc oh ol of rh rl z r : Int) (tx ot q : Bool) (hq : q = false ∧ 1 = r ∨ q = true ∧ of = r) (k : Nat) {w : World} (HS : Hid (∀ w', Gr w w' → QR 70 #[J Y f, J Y mode] w' (V #[O #[J Y p, J Y mn, J Y mx, J Y mode, .func (.func k) #[] #[]], X true]))) (HK : KR 71 #[J Y kind] (V #[.iface 178 (O #[J Y (-9223372036854775808), J Y 9223372036854775807]), X true])) (HF : KR 72 #[O #[J Y p, J Y mn, J Y mx], J Z a] (X true)) (HA : KR 73 #[O #[J Y p, J Y mn, J Y mx], J Z a] (O #[J Y sx, J Y ex, J Y cx, J Z xh, J Z xl, X tx, J Y 0])) (HC : KR 74 #[O #[J Y p, J Y mn, J Y mx, J Y mode, .func (.func k) #[] #[]], .func (.func 75) #[] #[], O #[J Y sx, J Y ex, J Y cx, J Z xh, J Z xl, X tx, J Y 0], O #[J Y sx, J Y ex, J Y cx, J Z xh, J Z xl, X tx, J Y 0]] (O #[J Y os, J Y oe, J Y oc, J Z oh, J Z ol, X ot, J Y of])) (HZ : KR 76 #[O #[J Y os, J Y oe, J Y oc, J Z oh, J Z ol, X ot, J Y of]] (O #[J Z rh, J Z rl])) (HT : KR 271 #[O #[J Y (-9223372036854775808), J Y 9223372036854775807], J Y os, O #[J Z rh, J Z rl]] (V #[J Z z, X q])) :
  QR 23 #[J Y f, J Y mode, J Y kind, J Z a] w (O #[J Z z, J Y r]) := by
 rcases hq with ⟨rfl, rfl⟩ | ⟨rfl, rfl⟩
 all_goals
  have hnil : ∀ w, Sem.run Tryz.prog (nilAhead 371 178 (O #[J Y (-9223372036854775808), J Y 9223372036854775807]) "loop.example/s01330/impl.toWord") w = Result.ok (some false) w := fun w => by kernel_rfl
  go_enter func23, ntmps23
  go_upto_region 6 with (first
   | (go_at_call 70; refine (HS.out _ Gr.g).mono ?_; rintro x w1 ⟨rfl, aj⟩; obtain ⟨EF, D5, X8, DZ⟩ := aj.y2 w.heap.size 0 1 (J Z 0) (J Y 0); have hz1 := au EF)
   | (go_at_call 71; refine (HK.out _).mono ?_; rintro x w2 ⟨rfl, ak⟩; obtain ⟨lr0, aCk, lr1, aCj⟩ := ak.y2 w.heap.size 0 1 (J Z 0) (J Y 0); obtain ⟨ls0, ls1, ls2, ls3, ls4⟩ := ak.e5 w1.heap.size 0 1 2 3 4 (J Y p) (J Y mn) (J Y mx) (J Y mode) (.func (.func k) #[] #[]); have hz2 := au lr0; have hy2 := au ls0)
   | (go_at_call 72; refine (HF.out _).mono ?_; rintro x w3 ⟨rfl, aA⟩; obtain ⟨WE, DJ, XL, DI⟩ := aA.y2 w.heap.size 0 1 (J Z 0) (J Y 0); obtain ⟨ns0, ns1, ns2, ns3, ns4⟩ := aA.e5 w1.heap.size 0 1 2 3 4 (J Y p) (J Y mn) (J Y mx) (J Y mode) (.func (.func k) #[] #[]); have hz3 := au WE; have hy3 := au ns0)
   | (go_at_call 73; refine (HA.out _).mono ?_; rintro x w4 ⟨rfl, aF⟩; obtain ⟨lu, iC, lM, iy⟩ := aF.y2 w.heap.size 0 1 (J Z 0) (J Y 0); obtain ⟨ps0, ps1, ps2, ps3, ps4⟩ := aF.e5 w1.heap.size 0 1 2 3 4 (J Y p) (J Y mn) (J Y mx) (J Y mode) (.func (.func k) #[] #[]); have hz4 := au lu; have hy4 := au ps0))
  obtain ⟨w5, hw5⟩ : ∃ w5, w4.alloc (.cells #[J Y sx, J Y ex, J Y cx, J Z xh, J Z xl, X tx, J Y 0] 122) = w5 := ⟨_, rfl⟩
  have aJ : Gr w4 w5 := by rw [← hw5]; exact (Gr.refl _).alloc _ _
  have x0 : w5.cell? ⟨w4.heap.size, 0, none⟩ = some (J Y sx) := by rw [← hw5]; simp [go_sem]
  have xz0 : w5.frozen? ⟨w4.heap.size, 0, none⟩ = false := by rw [← hw5]; simp [go_sem]
  have x1 : w5.cell? ⟨w4.heap.size, 1, none⟩ = some (J Y ex) := by rw [← hw5]; simp [go_sem]
  have xz1 : w5.frozen? ⟨w4.heap.size, 1, none⟩ = false := by rw [← hw5]; simp [go_sem]
  have x2 : w5.cell? ⟨w4.heap.size, 2, none⟩ = some (J Y cx) := by rw [← hw5]; simp [go_sem]
  have xz2 : w5.frozen? ⟨w4.heap.size, 2, none⟩ = false := by rw [← hw5]; simp [go_sem]
  have x3 : w5.cell? ⟨w4.heap.size, 3, none⟩ = some (J Z xh) := by rw [← hw5]; simp [go_sem]
  have xz3 : w5.frozen? ⟨w4.heap.size, 3, none⟩ = false := by rw [← hw5]; simp [go_sem]
  have x4 : w5.cell? ⟨w4.heap.size, 4, none⟩ = some (J Z xl) := by rw [← hw5]; simp [go_sem]
  have xz4 : w5.frozen? ⟨w4.heap.size, 4, none⟩ = false := by rw [← hw5]; simp [go_sem]
  have x5 : w5.cell? ⟨w4.heap.size, 5, none⟩ = some (X tx) := by rw [← hw5]; simp [go_sem]
  have xz5 : w5.frozen? ⟨w4.heap.size, 5, none⟩ = false := by rw [← hw5]; simp [go_sem]
  have x6 : w5.cell? ⟨w4.heap.size, 6, none⟩ = some (J Y 0) := by rw [← hw5]; simp [go_sem]
  have xz6 : w5.frozen? ⟨w4.heap.size, 6, none⟩ = false := by rw [← hw5]; simp [go_sem]
  have UM : w4.heap.size < w5.heap.size := by rw [← hw5]; simp
  rw [hw5]
  clear hw5
  obtain ⟨rr0, aEY, rr1, aEX⟩ := aJ.y2 w.heap.size 0 1 (J Z 0) (J Y 0); obtain ⟨rs0, rs1, rs2, rs3, rs4⟩ := aJ.e5 w1.heap.size 0 1 2 3 4 (J Y p) (J Y mn) (J Y mx) (J Y mode) (.func (.func k) #[] #[])
  have aCu : Gr w w5 := Gr.g
  go_upto_region 7 with (go_at_call 74; refine (HC.out _).mono ?_; rintro x w6 ⟨rfl, fK⟩; obtain ⟨tr0, aBP, tr1, aBO⟩ := fK.y2 w.heap.size 0 1 (J Z 0) (J Y 0); obtain ⟨tx0, aES, tx1, aER, tx2, aEQ, tx3, aEP, tx4, aEO, tx5, aEN, tx6, aEM⟩ := fK.y7 w4.heap.size 0 1 2 3 4 5 6 (J Y sx) (J Y ex) (J Y cx) (J Z xh) (J Z xl) (X tx) (J Y 0); have hz6 := au tx0)
  obtain ⟨w7, hw7⟩ : ∃ w7, ((((((w6.setCell ⟨w4.heap.size, 0, none⟩ (J Y os)).setCell ⟨w4.heap.size, 1, none⟩ (J Y oe)).setCell ⟨w4.heap.size, 2, none⟩ (J Y oc)).setCell ⟨w4.heap.size, 3, none⟩ (J Z oh)).setCell ⟨w4.heap.size, 4, none⟩ (J Z ol)).setCell ⟨w4.heap.size, 5, none⟩ (X ot)).setCell ⟨w4.heap.size, 6, none⟩ (J Y of) = w7 := ⟨_, rfl⟩
  have aDY : Gr w w6 := Gr.g
  have hlt : w.heap.size ≤ w4.heap.size := om
  have aFj : Gr w w7 := by
   rw [← hw7]
   exact (((((((aDY.setCell (a := ⟨w4.heap.size, 0, none⟩) hlt _).setCell (a := ⟨w4.heap.size, 1, none⟩) hlt _).setCell (a := ⟨w4.heap.size, 2, none⟩) hlt _).setCell (a := ⟨w4.heap.size, 3, none⟩) hlt _).setCell (a := ⟨w4.heap.size, 4, none⟩) hlt _).setCell (a := ⟨w4.heap.size, 5, none⟩) hlt _).setCell (a := ⟨w4.heap.size, 6, none⟩) hlt _)
  have y0 : w7.cell? ⟨w4.heap.size, 0, none⟩ = some (J Y os) := by rw [← hw7]; exact kh
  have y1 : w7.cell? ⟨w4.heap.size, 1, none⟩ = some (J Y oe) := by rw [← hw7]; exact kh
  have y2 : w7.cell? ⟨w4.heap.size, 2, none⟩ = some (J Y oc) := by rw [← hw7]; exact kh
  have y3 : w7.cell? ⟨w4.heap.size, 3, none⟩ = some (J Z oh) := by rw [← hw7]; exact kh
  have y4 : w7.cell? ⟨w4.heap.size, 4, none⟩ = some (J Z ol) := by rw [← hw7]; exact kh
  have y5 : w7.cell? ⟨w4.heap.size, 5, none⟩ = some (X ot) := by rw [← hw7]; exact kh
  have y6 : w7.cell? ⟨w4.heap.size, 6, none⟩ = some (J Y of) := by rw [← hw7]; exact kh
  have yr0 : w7.cell? ⟨w.heap.size, 0, none⟩ = some (J Z 0) := by rw [← hw7]; exact kh
  have aEC : w7.frozen? ⟨w.heap.size, 0, none⟩ = false := by rw [← hw7]; exact kh
  have yr1 : w7.cell? ⟨w.heap.size, 1, none⟩ = some (J Y 0) := by rw [← hw7]; exact kh
  have aEB : w7.frozen? ⟨w.heap.size, 1, none⟩ = false := by rw [← hw7]; exact kh
  have hz7 : w4.heap.size < w7.heap.size := au y0
  rw [hw7]
  clear hw7
  go_region_held3 (fun w' => w'.cell? ⟨w4.heap.size, 0, none⟩ = some (J Y os) ∧ w'.cell? ⟨w4.heap.size, 1, none⟩ = some (J Y oe) ∧ w'.cell? ⟨w4.heap.size, 2, none⟩ = some (J Y oc) ∧ w'.cell? ⟨w4.heap.size, 3, none⟩ = some (J Z oh) ∧ w'.cell? ⟨w4.heap.size, 4, none⟩ = some (J Z ol) ∧ w'.cell? ⟨w4.heap.size, 5, none⟩ = some (X ot) ∧ w'.cell? ⟨w4.heap.size, 6, none⟩ = some (J Y of))
   ((go_split_ands; (repeat' apply And.intro) <;> exact kh))
   (first
    | (go_at_call 76; refine (HZ.out _).mono ?_; rintro x w8 ⟨rfl, aCw⟩; obtain ⟨vr0, aEE, vr1, aED⟩ := aCw.y2 w.heap.size 0 1 (J Z 0) (J Y 0))
    | (go_at_call 271; refine (HT.out _).mono ?_; rintro x w9 ⟨rfl, aP⟩; obtain ⟨fP, fU, fO, fQ⟩ := aP.y2 w.heap.size 0 1 (J Z 0) (J Y 0); have zx6 := aP.e1 w4.heap.size 6 (J Y of)))
  all_goals (try go_split_ands)
  all_goals go_wp2
  all_goals
   first | refine bodyPost_ret (v := O #[J Z z, J Y 1]) (by simp [results, Tryz.results23, go_sem, fP, fO]) rfl ⟨rfl, ?_⟩ | refine bodyPost_ret (v := O #[J Z z, J Y of]) (by simp [results, Tryz.results23, go_sem, fP, fO]) rfl ⟨rfl, ?_⟩
   exact Gr.g
