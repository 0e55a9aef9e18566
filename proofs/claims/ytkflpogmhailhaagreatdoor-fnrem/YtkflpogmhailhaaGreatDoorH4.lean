/- impl.calculate. -/
import Derived.Test.YtkflpogmhailhaaGreatDoorB7
import Derived.Test.YtkflpogmhailhaaGreatDoorC0
import Derived.Test.YtkflpogmhailhaaGreatDoorH1
import Derived.Deep.RegionHeld3
set_option linter.unusedVariables false
set_option linter.unusedSimpArgs false
namespace Go.Proofs.YtkflpogmhailhaaGreatDoor
open Go.RowKit


set_option maxRecDepth 1000000 in
set_option maxHeartbeats 4000000 in
theorem calc_no (p mn mx md nan f mode a b : Int) {w : World} (HF : Hid (∀ w', Gr w w' → Calls Tryz.prog 69 #[.int .i64 f, .int .i64 mode] w' fun x w'' => x = .returned (.tuple #[.agg #[.int .i64 p, .int .i64 mn, .int .i64 mx, .int .i64 md, Value.nilFunc], .bool false]) ∧ Gr w' w''))
    (HN : Hid (∀ w, Calls Tryz.prog 70 #[.agg #[.int .i64 p, .int .i64 mn, .int .i64 mx]] w fun e w' => e = .returned (.agg #[.int .u64 nan, .int .i64 1]) ∧ Gr w w')) (own : Nat) :
    Calls Tryz.prog 39 #[.int .i64 f, .int .i64 mode, .func (.func own) #[] #[], .int .u64 a, .int .u64 b] w fun e w' => e = .returned (.agg #[.int .u64 nan, .int .i64 1]) ∧ Gr w w' := by
  go_enter Tryz.func39, Tryz.ntmps39
  go_wp2_with (first
    | (go_at_call 69; refine (HF.out _ Gr.g).mono ?_; rintro x w1 ⟨rfl, hg_w1⟩; have kr0 : w1.cell? ⟨w.heap.size, 0, none⟩ = some (.int .u64 0) := hg_w1.c; have krz0 : w1.frozen? ⟨w.heap.size, 0, none⟩ = false := hg_w1.z; have kr1 : w1.cell? ⟨w.heap.size, 1, none⟩ = some (.int .i64 0) := hg_w1.c; have krz1 : w1.frozen? ⟨w.heap.size, 1, none⟩ = false := hg_w1.z)
    | (go_at_call 70; refine (HN.out _).mono ?_; rintro x w2 ⟨rfl, hg_w2⟩; have br0 : w2.cell? ⟨w.heap.size, 0, none⟩ = some (.int .u64 0) := hg_w2.c; have brz0 : w2.frozen? ⟨w.heap.size, 0, none⟩ = false := hg_w2.z; have br1 : w2.cell? ⟨w.heap.size, 1, none⟩ = some (.int .i64 0) := hg_w2.c; have brz1 : w2.frozen? ⟨w.heap.size, 1, none⟩ = false := hg_w2.z))
  refine bodyPost_ret (v := .agg #[.int .u64 nan, .int .i64 1]) (by simp [results, Tryz.results39, go_sem, br0, br1]) rfl ⟨rfl, ?_⟩
  exact Gr.g


set_option maxRecDepth 1000000 in
set_option maxHeartbeats 4000000 in
theorem calc_ok (p mn mx md f : Int) (k own : Nat) (a b sx ex cx xh xl sy ey cy yh yl : Int) (tx ty : Bool) {w : World} (HF : Hid (∀ w', Gr w w' → Calls Tryz.prog 69 #[.int .i64 f, .int .i64 md] w' fun x w'' => x = .returned (.tuple #[.agg #[.int .i64 p, .int .i64 mn, .int .i64 mx, .int .i64 md, .func (.func k) #[] #[]], .bool true]) ∧ Gr w' w''))
    (HA : Hid (∀ w, Calls Tryz.prog 53 #[.agg #[.int .i64 p, .int .i64 mn, .int .i64 mx], .int .u64 a] w fun e w' => e = .returned (.agg #[.int .i64 sx, .int .i64 ex, .int .i64 cx, .int .u64 xh, .int .u64 xl, .bool tx, .int .i64 0]) ∧ Gr w w')) (HB : Hid (∀ w, Calls Tryz.prog 53 #[.agg #[.int .i64 p, .int .i64 mn, .int .i64 mx], .int .u64 b] w fun e w' => e = .returned (.agg #[.int .i64 sy, .int .i64 ey, .int .i64 cy, .int .u64 yh, .int .u64 yl, .bool ty, .int .i64 0]) ∧ Gr w w')) (Q : Int → Int → Int → Int → Int → Bool → Prop) (HC : Hid (∀ w, Calls Tryz.prog 71 #[.agg #[.int .i64 p, .int .i64 mn, .int .i64 mx, .int .i64 md, .func (.func k) #[] #[]], .func (.func own) #[] #[], .agg #[.int .i64 sx, .int .i64 ex, .int .i64 cx, .int .u64 xh, .int .u64 xl, .bool tx, .int .i64 0], .agg #[.int .i64 sy, .int .i64 ey, .int .i64 cy, .int .u64 yh, .int .u64 yl, .bool ty, .int .i64 0]] w fun e w' => ∃ os oe oc oh ol ot, Q os oe oc oh ol ot ∧ e = .returned (.agg #[.int .i64 os, .int .i64 oe, .int .i64 oc, .int .u64 oh, .int .u64 ol, .bool ot, .int .i64 0]) ∧ Gr w w'))
    (R : Int → Int → Prop) (HP : Hid (∀ os oe oc oh ol ot w, Q os oe oc oh ol ot → Calls Tryz.prog 72 #[.agg #[.int .i64 p, .int .i64 mn, .int .i64 mx, .int .i64 md, .func (.func k) #[] #[]], .agg #[.int .i64 os, .int .i64 oe, .int .i64 oc, .int .u64 oh, .int .u64 ol, .bool ot, .int .i64 0]] w fun e w' => ∃ z fl, R z fl ∧ e = .returned (.agg #[.int .u64 z, .int .i64 fl]) ∧ Gr w w')) :
    Calls Tryz.prog 39 #[.int .i64 f, .int .i64 md, .func (.func own) #[] #[], .int .u64 a, .int .u64 b] w fun e w' => ∃ z fl, R z fl ∧ e = .returned (.agg #[.int .u64 z, .int .i64 fl]) ∧ Gr w w' := by
  go_enter Tryz.func39, Tryz.ntmps39
  go_wp2_with (go_at_call 69; refine (HF.out _ Gr.g).mono ?_; rintro x w1 ⟨rfl, hg_w1⟩; have kr0 : w1.cell? ⟨w.heap.size, 0, none⟩ = some (.int .u64 0) := hg_w1.c; have krz0 : w1.frozen? ⟨w.heap.size, 0, none⟩ = false := hg_w1.z; have kr1 : w1.cell? ⟨w.heap.size, 1, none⟩ = some (.int .i64 0) := hg_w1.c; have krz1 : w1.frozen? ⟨w.heap.size, 1, none⟩ = false := hg_w1.z; have hz1 := cell_size kr0)
  go_region_held3 (fun w' => w'.cell? ⟨w1.heap.size, 0, none⟩ = some (.int .i64 p) ∧ w'.cell? ⟨w1.heap.size, 1, none⟩ = some (.int .i64 mn) ∧ w'.cell? ⟨w1.heap.size, 2, none⟩ = some (.int .i64 mx) ∧ w'.cell? ⟨w1.heap.size, 3, none⟩ = some (.int .i64 md) ∧ w'.cell? ⟨w1.heap.size, 4, none⟩ = some (.func (.func k) #[] #[]))
    ((go_split_ands; (repeat' apply And.intro) <;> exact kl))
    (first
      | (go_at_call 53; first | (with_reducible refine (HA.out _).mono ?_; rintro e w2 ⟨rfl, hg_w2⟩; have cr0 : w2.cell? ⟨w.heap.size, 0, none⟩ = some (.int .u64 0) := hg_w2.c; have crz0 : w2.frozen? ⟨w.heap.size, 0, none⟩ = false := hg_w2.z; have cr1 : w2.cell? ⟨w.heap.size, 1, none⟩ = some (.int .i64 0) := hg_w2.c; have crz1 : w2.frozen? ⟨w.heap.size, 1, none⟩ = false := hg_w2.z) | (with_reducible refine (HB.out _).mono ?_; rintro e w2 ⟨rfl, hg_w2⟩; have cr0 : w2.cell? ⟨w.heap.size, 0, none⟩ = some (.int .u64 0) := hg_w2.c; have crz0 : w2.frozen? ⟨w.heap.size, 0, none⟩ = false := hg_w2.z; have cr1 : w2.cell? ⟨w.heap.size, 1, none⟩ = some (.int .i64 0) := hg_w2.c; have crz1 : w2.frozen? ⟨w.heap.size, 1, none⟩ = false := hg_w2.z))
      | (go_at_call 71; refine (HC.out _).mono ?_; rintro e w3 ⟨os, oe, oc, oh, ol, ot, hq, rfl, hg_w3⟩; have dr0 : w3.cell? ⟨w.heap.size, 0, none⟩ = some (.int .u64 0) := hg_w3.c; have drz0 : w3.frozen? ⟨w.heap.size, 0, none⟩ = false := hg_w3.z; have dr1 : w3.cell? ⟨w.heap.size, 1, none⟩ = some (.int .i64 0) := hg_w3.c; have drz1 : w3.frozen? ⟨w.heap.size, 1, none⟩ = false := hg_w3.z)
      | (go_at_call 72; refine (HP.out _ _ _ _ _ _ _ hq).mono ?_; rintro e w4 ⟨z, fl, hr, rfl, hg_w4⟩; have er0 : w4.cell? ⟨w.heap.size, 0, none⟩ = some (.int .u64 0) := hg_w4.c; have erz0 : w4.frozen? ⟨w.heap.size, 0, none⟩ = false := hg_w4.z; have er1 : w4.cell? ⟨w.heap.size, 1, none⟩ = some (.int .i64 0) := hg_w4.c; have erz1 : w4.frozen? ⟨w.heap.size, 1, none⟩ = false := hg_w4.z))
  all_goals (try go_split_ands)
  all_goals go_wp2
  all_goals
    refine bodyPost_ret (v := .agg #[.int .u64 z, .int .i64 fl]) (by simp [results, Tryz.results39, go_sem, er0, er1]) rfl ⟨z, fl, hr, rfl, ?_⟩
    exact Gr.g


end Go.Proofs.YtkflpogmhailhaaGreatDoor

/- Chapter 4: what an operation answers, by its rule on operands; both sides. -/
set_option linter.unusedVariables false
set_option linter.unusedSimpArgs false
namespace Go.Proofs.YtkflpogmhailhaaGreatDoor
open Go.RowKit

/-- As PackIs; class 5 is the infinity of a division by zero. -/
def PackD (p mn mx one inf sg nan mode : Int) (o : Opd) (Z fl : Int) : Prop := PackIs p mn mx one inf sg nan mode o Z fl ∨ o.c = 5 ∧ Z = sw o.s sg inf ∧ fl = 2
theorem PackIs.c4 {p mn mx one inf sg nan mode : Int} {o : Opd} {Z fl : Int} (h : PackIs p mn mx one inf sg nan mode o Z fl) : o.c ≤ 4 := by
  rcases h with ⟨h, _⟩ | ⟨h, _⟩ | ⟨h, _⟩ | ⟨h, _⟩ | ⟨h, _⟩ <;> omega
theorem PackD.one {p mn mx one inf sg nan mode : Int} {o : Opd} {Z fl Z' fl' : Int} (h : PackD p mn mx one inf sg nan mode o Z fl) (h' : PackD p mn mx one inf sg nan mode o Z' fl') : Z = Z' ∧ fl = fl' := by
  rcases h with h | ⟨c, rfl, rfl⟩ <;> rcases h' with h' | ⟨c', rfl, rfl⟩
  · exact PackIs.one h h'
  · have := h.c4; exfalso; omega
  · have := h'.c4; exfalso; omega
  · exact ⟨rfl, rfl⟩

def OpRD (R : Int → Int → Opd → Opd → Opd) (f mode a b Z fl : Int) : Prop :=
  (∃ p mx one inf sg nan x y, IsFmt f p mx one inf sg nan ∧ (0 ≤ mode ∧ mode ≤ 4) ∧ OpdIs p mx one inf sg nan a x ∧ OpdIs p mx one inf sg nan b y ∧ PackD p (1 - mx) mx one inf sg nan mode (R p mode x y) Z fl) ∨
  (∃ p mx one inf sg nan, IsFmt f p mx one inf sg nan ∧ (mode < 0 ∨ 4 < mode) ∧ Z = nan ∧ fl = 1) ∨
  (¬ (f = 0 ∨ f = 1) ∧ Z = 9221120237041090560 ∧ fl = 1)

theorem OpRD.one {R : Int → Int → Opd → Opd → Opd} {f mode a b Z fl Z' fl' : Int} (h : OpRD R f mode a b Z fl) (h' : OpRD R f mode a b Z' fl') : Z = Z' ∧ fl = fl' := by
  rcases h with ⟨p, mx, one, inf, sg, nan, x, y, hF, hm, hx, hy, hp⟩ | ⟨p, mx, one, inf, sg, nan, hF, hm, rfl, rfl⟩ | ⟨hF, rfl, rfl⟩ <;>
  rcases h' with ⟨p', mx', one', inf', sg', nan', x', y', hF', hm', hx', hy', hp'⟩ | ⟨p', mx', one', inf', sg', nan', hF', hm', rfl, rfl⟩ | ⟨hF', rfl, rfl⟩
  · obtain ⟨rfl, rfl, rfl, rfl, rfl, rfl⟩ := hF.one hF'
    obtain rfl := hx.one hF hx'
    obtain rfl := hy.one hF hy'
    exact PackD.one hp hp'
  · exfalso; omega
  · exact absurd hF.yes.symm (by simp [hF'])
  · exfalso; omega
  · obtain ⟨rfl, rfl, rfl, rfl, rfl, rfl⟩ := hF.one hF'
    exact ⟨rfl, rfl⟩
  · exact absurd hF.yes.symm (by simp [hF'])
  · exact absurd hF'.yes.symm (by simp [hF])
  · exact absurd hF'.yes.symm (by simp [hF])
  · exact ⟨rfl, rfl⟩

/-- An answer of both sides, out of what each says. -/
theorem both_ofD (R : Int → Int → Opd → Opd → Opd) (S I : Nat) (args : Array Value) (hR : ∀ p mode x y, VO x → VO y → 0 ≤ (R p mode x y).c ∧ (R p mode x y).c ≤ 5) (f mode a b : Int) (a0 : 0 ≤ a) (a1 : a < 18446744073709551616) (b0 : 0 ≤ b) (b1 : b < 18446744073709551616)
    (hs : ∀ w, Calls Tryz.prog S args w fun e w' => ∃ Z fl, OpRD R f mode a b Z fl ∧ e = .returned (.agg #[.int .u64 Z, .int .i64 fl]) ∧ Gb w w')
    (hi : ∀ w, Fm w → Calls Tryz.prog I args w fun e w' => ∃ Z fl, OpRD R f mode a b Z fl ∧ e = .returned (.agg #[.int .u64 Z, .int .i64 fl]) ∧ Gr w w') :
    ∃ Z fl : Int, OpRD R f mode a b Z fl ∧ (∀ w, Calls Tryz.prog S args w fun e w' => e = .returned (.agg #[.int .u64 Z, .int .i64 fl]) ∧ Gb w w') ∧
      (∀ w, Fm w → Calls Tryz.prog I args w fun e w' => e = .returned (.agg #[.int .u64 Z, .int .i64 fl]) ∧ Gr w w') := by
  have hex : ∃ Z fl : Int, OpRD R f mode a b Z fl := by
    by_cases hf : f = 0 ∨ f = 1
    · obtain ⟨p, mx, one, inf, sg, nan, hF⟩ := fmt_of f hf
      by_cases hm : 0 ≤ mode ∧ mode ≤ 4
      · obtain ⟨x, hx⟩ := opd_ex hF a a0 a1
        obtain ⟨y, hy⟩ := opd_ex hF b b0 b1
        obtain ⟨r1, r2⟩ := hR p mode x y (opd_vo hF hx).1 (opd_vo hF hy).1
        by_cases h5 : (R p mode x y).c = 5
        · exact ⟨_, _, .inl ⟨p, mx, one, inf, sg, nan, x, y, hF, hm, hx, hy, .inr ⟨h5, rfl, rfl⟩⟩⟩
        · obtain ⟨Z, fl, hp⟩ := pack_is p (1 - mx) mx one inf sg nan mode _ r1 (by omega)
          exact ⟨Z, fl, .inl ⟨p, mx, one, inf, sg, nan, x, y, hF, hm, hx, hy, .inl hp⟩⟩
      · exact ⟨_, _, .inr (.inl ⟨p, mx, one, inf, sg, nan, hF, by omega, rfl, rfl⟩)⟩
    · exact ⟨_, _, .inr (.inr ⟨hf, rfl, rfl⟩)⟩
  obtain ⟨Z, fl, h⟩ := hex
  refine ⟨Z, fl, h, fun w => (hs w).mono ?_, fun w hw => (hi w hw).mono ?_⟩
  · rintro e w' ⟨Z', fl', h', rfl, hg⟩
    obtain ⟨rfl, rfl⟩ := OpRD.one h h'
    exact ⟨rfl, hg⟩
  · rintro e w' ⟨Z', fl', h', rfl, hg⟩
    obtain ⟨rfl, rfl⟩ := OpRD.one h h'
    exact ⟨rfl, hg⟩

/-- What the program holds stands for an operand, at the precision p. -/
def SameP (p : Int) (o : Opd) (os oe oc oh ol : Int) (ot : Bool) (of : Int) : Prop :=
  (∃ M : Nat, oh = ((M / 18446744073709551616 : Nat) : Int) ∧ ol = ((M % 18446744073709551616 : Nat) : Int) ∧ of = 0 ∧ o.c = oc ∧ 0 ≤ oc ∧ oc ≤ 4 ∧ (oc ≤ 2 → o.s = os ∧ (os = 0 ∨ os = 1)) ∧
    (oc = 1 → 0 < M ∧ M < 340282366920938463463374607431768211456 ∧ (ot = true → p + 2 ≤ (nb M : Int)) ∧ -100000 ≤ oe ∧ oe ≤ 100000 ∧ ∀ mn mx one inf mode z fl, RoundIs p mn mx one inf mode os M oe ot z fl ↔ RoundIs p mn mx one inf mode os o.M o.e false z fl)) ∨
  (o.c = 5 ∧ oc = 2 ∧ o.s = os ∧ (os = 0 ∨ os = 1) ∧ of = 2) ∨
  (o.c = 0 ∧ oc = 1 ∧ oh = 0 ∧ ol = 0 ∧ o.s = os ∧ (os = 0 ∨ os = 1) ∧ of = 0 ∧ -100000 ≤ oe ∧ oe ≤ 100000)

theorem SameP.nan (p m : Int) (h0 : 3 ≤ m) (h1 : m ≤ 4) : SameP p ⟨m, 0, 0, 0⟩ 0 0 m 0 0 false 0 :=
  .inl ⟨0, rfl, rfl, rfl, rfl, by omega, h1, fun c => ⟨rfl, .inl rfl⟩, fun c => by omega⟩
/-- What has no digits. -/
theorem SameP.flat (p : Int) (o : Opd) (os oe oc : Int) (ot : Bool) (hc : o.c = oc) (c0 : 0 ≤ oc) (c4 : oc ≤ 4) (c1 : oc ≠ 1) (hs : oc ≤ 2 → o.s = os ∧ (os = 0 ∨ os = 1)) : SameP p o os oe oc 0 0 ot 0 :=
  .inl ⟨0, rfl, rfl, rfl, hc, c0, c4, hs, fun c => absurd c c1⟩
theorem SameP.self (p : Int) {x : Opd} (h : VO x) : SameP p x x.s x.e x.c ((x.M / 18446744073709551616 : Nat) : Int) ((x.M % 18446744073709551616 : Nat) : Int) false 0 :=
  .inl ⟨x.M, rfl, rfl, rfl, rfl, h.c0, h.c4, fun _ => ⟨rfl, h.s01⟩, fun c => by
    obtain ⟨a, b⟩ := h.fin c
    have := h.e0
    have := h.e1
    exact ⟨a, pow2_lt _ b, (fun t => by cases t), by omega, by omega, fun _ _ _ _ _ _ _ => Iff.rfl⟩⟩

theorem pack_anyD {p mn mx fb sp one inf sg nan : Int} (hm : IsM p mn mx fb sp one inf sg nan) (md : Int) (k : Nat) (hk : IsRule md k) (o : Opd) (os oe oc oh ol : Int) (ot : Bool) (of : Int) (h : SameP p o os oe oc oh ol ot of) (w : World) :
    Calls Tryz.prog 72 #[.agg #[.int .i64 p, .int .i64 mn, .int .i64 mx, .int .i64 md, .func (.func k) #[] #[]], .agg #[.int .i64 os, .int .i64 oe, .int .i64 oc, .int .u64 oh, .int .u64 ol, .bool ot, .int .i64 of]] w fun e w' => ∃ z fl, PackD p mn mx one inf sg nan md o z fl ∧ e = .returned (.agg #[.int .u64 z, .int .i64 fl]) ∧ Gr w w' := by
  have hp : p ≤ 53 ∧ 0 ≤ p := by rcases hm with h | h <;> omega
  rcases h with ⟨M, rfl, rfl, rfl, hc, c0, c4, hs, h1⟩ | ⟨hc, rfl, hs, hs01, rfl⟩ | ⟨hc, rfl, rfl, rfl, hs, hs01, rfl, e0, e1⟩
  · rcases (show oc = 0 ∨ oc = 1 ∨ oc = 2 ∨ oc = 3 ∨ oc = 4 by omega) with rfl | rfl | rfl | rfl | rfl
    · obtain ⟨s1, s2⟩ := hs (by omega)
      refine (pack_0 p mn mx md k os oe _ _ ot (sw os sg 0) (fun w => zero_any hm os _ ?_ w) w).mono ?_
      · rcases s2 with rfl | rfl
        · exact .inl ⟨rfl, by simp [sw]⟩
        · exact .inr ⟨rfl, by simp [sw]⟩
      · rintro r w' ⟨rfl, hg⟩
        exact ⟨_, _, .inl (.inl ⟨hc, by rw [s1], rfl⟩), rfl, hg⟩
    · obtain ⟨s1, s2⟩ := hs (by omega)
      obtain ⟨m0, m1, m2, e0, e1, m3⟩ := h1 rfl
      refine (pack_1 p mn mx md k os oe _ _ ot (fun z fl => ∃ z0, RoundIs p mn mx one inf md os M oe ot z0 fl ∧ z = sw os sg z0) (fun z fl ⟨_, h, _⟩ => h.fl) (fun w => ?_) w).mono ?_
      · refine (round_num hm md md k hk os s2 oe e0 e1 M m0 m1 ot m2 w).mono ?_
        rintro r w' ⟨z, fl, hr, rfl, hg⟩
        exact ⟨_, _, ⟨z, hr, sv_sw _ _ _⟩, rfl, hg⟩
      · rintro r w' ⟨z, fl, ⟨z0, hr, rfl⟩, rfl, hg⟩
        refine ⟨_, _, .inl (.inr (.inl ⟨hc, z0, ?_, by rw [s1]⟩)), rfl, hg⟩
        rw [s1]
        exact (m3 mn mx one inf md z0 fl).1 hr
    · obtain ⟨s1, s2⟩ := hs (by omega)
      refine (pack_2 p mn mx md k os oe _ _ ot (sw os sg inf) (fun w => inf_any hm os _ ?_ w) w).mono ?_
      · rcases s2 with rfl | rfl
        · exact .inl ⟨rfl, by simp [sw]⟩
        · exact .inr ⟨rfl, by simp [sw]; omega⟩
      · rintro r w' ⟨rfl, hg⟩
        exact ⟨_, _, .inl (.inr (.inr (.inl ⟨hc, by rw [s1], rfl⟩))), rfl, hg⟩
    · refine (pack_3 p mn mx md k os oe _ _ ot nan (fun w => nan_any hm w) w).mono ?_
      rintro r w' ⟨rfl, hg⟩
      exact ⟨_, _, .inl (.inr (.inr (.inr (.inl ⟨hc, rfl, rfl⟩)))), rfl, hg⟩
    · refine (pack_4 p mn mx md k os oe _ _ ot nan (fun w => invalid_any hm w) w).mono ?_
      rintro r w' ⟨rfl, hg⟩
      exact ⟨_, _, .inl (.inr (.inr (.inr (.inr ⟨hc, rfl, rfl⟩)))), rfl, hg⟩
  · refine (pack_2f p mn mx md k os oe _ _ ot 2 (sw os sg inf) (fun w => inf_any hm os _ ?_ w) w).mono ?_
    · rcases hs01 with rfl | rfl
      · exact .inl ⟨rfl, by simp [sw]⟩
      · exact .inr ⟨rfl, by simp [sw]; omega⟩
    · rintro r w' ⟨rfl, hg⟩
      exact ⟨_, _, .inr ⟨hc, by rw [hs], rfl⟩, rfl, hg⟩
  · refine (pack_1 p mn mx md k os oe _ _ ot (fun z fl => z = sw os sg 0 ∧ fl = 0) (fun z fl h => .inl h.2) (fun w => ?_) w).mono ?_
    · refine (round_Z hm md k os oe ot (by omega) (by omega) (sw os sg 0) (fun w => zero_any hm os _ ?_ w) w).mono ?_
      · rcases hs01 with rfl | rfl
        · exact .inl ⟨rfl, by simp [sw]⟩
        · exact .inr ⟨rfl, by simp [sw]⟩
      · rintro r w' ⟨rfl, hg⟩
        exact ⟨_, _, ⟨rfl, rfl⟩, rfl, hg⟩
    · rintro r w' ⟨z, fl, ⟨rfl, rfl⟩, rfl, hg⟩
      exact ⟨_, _, .inl (.inl ⟨hc, by rw [hs], rfl⟩), rfl, hg⟩

/-- What class a number of a word has, and its digits. -/
theorem opd_fin {f p mx one inf sg nan a : Int} (h : IsFmt f p mx one inf sg nan) {x : Opd} (hx : OpdIs p mx one inf sg nan a x) (hc : x.c = 1) : ∃ P : Nat, (P : Int) = p ∧ 1 ≤ P ∧ P ≤ 53 ∧ 2 ^ (P - 1) ≤ x.M ∧ x.M < 2 ^ P := by
  rcases hx with ⟨_, hu⟩ | ⟨_, rfl⟩
  · obtain ⟨h1, h2, h3, h4, h5, h6, h7, h8, h9⟩ := unpack_bounds h hu
    have h10 := h8 hc
    rcases h with ⟨rfl, rfl, rfl, rfl, rfl, rfl, rfl⟩ | ⟨rfl, rfl, rfl, rfl, rfl, rfl, rfl⟩
    · exact ⟨24, rfl, by decide, by decide, by have : 2 ^ (24 - 1) = 8388608 := by decide
                                               omega, by have : 2 ^ 24 = 16777216 := by decide
                                                         omega⟩
    · exact ⟨53, rfl, by decide, by decide, by have : 2 ^ (53 - 1) = 4503599627370496 := by decide
                                               omega, by have : 2 ^ 53 = 9007199254740992 := by decide
                                                         omega⟩
  · cases hc

theorem round_atD {f p mx one inf sg nan : Int} (h : IsFmt f p mx one inf sg nan) (mode : Int) (m0 : 0 ≤ mode) (m1 : mode ≤ 4) (o : Opd) (ho : o.c = 1) (hs : o.s = 0 ∨ o.s = 1) (m : Nat) (hM : 0 < m) (e : Int) (e0 : -5000 ≤ e) (e1 : e ≤ 5000) (t : Bool) (hn : p + 2 ≤ (nb m : Int)) (heq : ∀ mn mx one inf mode z fl, RoundIs p mn mx one inf mode o.s m e t z fl ↔ RoundIs p mn mx one inf mode o.s o.M o.e false z fl) (K : Nat) (hK : K ≤ 100000) (v : Value) (w : World) (hB : BigN K w v m) :
    Calls Tryz.prog 51 #[.int .i64 f, .int .i64 mode, .agg #[.int .i64 o.s, v, .int .i64 e, .bool t]] w fun x w' => ∃ z fl, PackD p (1 - mx) mx one inf sg nan mode o z fl ∧ x = .returned (.agg #[.int .u64 z, .int .i64 fl]) ∧ Gb w w' := by
  have hnb := big_nb hB hK
  obtain ⟨n, hn', hb⟩ := hB
  refine (l2Round_any h hb (by omega) hM hnb mode o.s e t m0 m1 hs (by omega) (by omega) (fun c => by omega)).mono ?_
  rintro x w' ⟨z, fl, hr, z0, z1, rfl, hg⟩
  exact ⟨_, _, .inl (.inr (.inl ⟨ho, z, (heq _ _ _ _ _ _ _).1 hr, rfl⟩)), rfl, hg⟩
end Go.Proofs.YtkflpogmhailhaaGreatDoor

/- impl's calculate, with flags. -/
set_option linter.unusedVariables false
set_option linter.unusedSimpArgs false
namespace Go.Proofs.YtkflpogmhailhaaGreatDoor
open Go.RowKit

set_option maxRecDepth 1000000 in
set_option maxHeartbeats 4000000 in
theorem calc_okf (p mn mx md f : Int) (k own : Nat) (a b sx ex cx xh xl sy ey cy yh yl : Int) (tx ty : Bool) {w : World} (HF : Hid (∀ w', Gr w w' → Calls Tryz.prog 69 #[.int .i64 f, .int .i64 md] w' fun x w'' => x = .returned (.tuple #[.agg #[.int .i64 p, .int .i64 mn, .int .i64 mx, .int .i64 md, .func (.func k) #[] #[]], .bool true]) ∧ Gr w' w''))
    (HA : Hid (∀ w, Calls Tryz.prog 53 #[.agg #[.int .i64 p, .int .i64 mn, .int .i64 mx], .int .u64 a] w fun e w' => e = .returned (.agg #[.int .i64 sx, .int .i64 ex, .int .i64 cx, .int .u64 xh, .int .u64 xl, .bool tx, .int .i64 0]) ∧ Gr w w')) (HB : Hid (∀ w, Calls Tryz.prog 53 #[.agg #[.int .i64 p, .int .i64 mn, .int .i64 mx], .int .u64 b] w fun e w' => e = .returned (.agg #[.int .i64 sy, .int .i64 ey, .int .i64 cy, .int .u64 yh, .int .u64 yl, .bool ty, .int .i64 0]) ∧ Gr w w')) (Q : Int → Int → Int → Int → Int → Bool → Int → Prop) (HC : Hid (∀ w, Calls Tryz.prog 71 #[.agg #[.int .i64 p, .int .i64 mn, .int .i64 mx, .int .i64 md, .func (.func k) #[] #[]], .func (.func own) #[] #[], .agg #[.int .i64 sx, .int .i64 ex, .int .i64 cx, .int .u64 xh, .int .u64 xl, .bool tx, .int .i64 0], .agg #[.int .i64 sy, .int .i64 ey, .int .i64 cy, .int .u64 yh, .int .u64 yl, .bool ty, .int .i64 0]] w fun e w' => ∃ os oe oc oh ol ot of, Q os oe oc oh ol ot of ∧ e = .returned (.agg #[.int .i64 os, .int .i64 oe, .int .i64 oc, .int .u64 oh, .int .u64 ol, .bool ot, .int .i64 of]) ∧ Gr w w'))
    (R : Int → Int → Prop) (HP : Hid (∀ os oe oc oh ol ot of w, Q os oe oc oh ol ot of → Calls Tryz.prog 72 #[.agg #[.int .i64 p, .int .i64 mn, .int .i64 mx, .int .i64 md, .func (.func k) #[] #[]], .agg #[.int .i64 os, .int .i64 oe, .int .i64 oc, .int .u64 oh, .int .u64 ol, .bool ot, .int .i64 of]] w fun e w' => ∃ z fl, R z fl ∧ e = .returned (.agg #[.int .u64 z, .int .i64 fl]) ∧ Gr w w')) :
    Calls Tryz.prog 39 #[.int .i64 f, .int .i64 md, .func (.func own) #[] #[], .int .u64 a, .int .u64 b] w fun e w' => ∃ z fl, R z fl ∧ e = .returned (.agg #[.int .u64 z, .int .i64 fl]) ∧ Gr w w' := by
  go_enter Tryz.func39, Tryz.ntmps39
  go_wp2_with (go_at_call 69; refine (HF.out _ Gr.g).mono ?_; rintro x w1 ⟨rfl, hg_w1⟩; have kr0 : w1.cell? ⟨w.heap.size, 0, none⟩ = some (.int .u64 0) := hg_w1.c; have krz0 : w1.frozen? ⟨w.heap.size, 0, none⟩ = false := hg_w1.z; have kr1 : w1.cell? ⟨w.heap.size, 1, none⟩ = some (.int .i64 0) := hg_w1.c; have krz1 : w1.frozen? ⟨w.heap.size, 1, none⟩ = false := hg_w1.z; have hz1 := cell_size kr0)
  go_region_held3 (fun w' => w'.cell? ⟨w1.heap.size, 0, none⟩ = some (.int .i64 p) ∧ w'.cell? ⟨w1.heap.size, 1, none⟩ = some (.int .i64 mn) ∧ w'.cell? ⟨w1.heap.size, 2, none⟩ = some (.int .i64 mx) ∧ w'.cell? ⟨w1.heap.size, 3, none⟩ = some (.int .i64 md) ∧ w'.cell? ⟨w1.heap.size, 4, none⟩ = some (.func (.func k) #[] #[]))
    ((go_split_ands; (repeat' apply And.intro) <;> exact kl))
    (first
      | (go_at_call 53; first | (with_reducible refine (HA.out _).mono ?_; rintro e w2 ⟨rfl, hg_w2⟩; have cr0 : w2.cell? ⟨w.heap.size, 0, none⟩ = some (.int .u64 0) := hg_w2.c; have crz0 : w2.frozen? ⟨w.heap.size, 0, none⟩ = false := hg_w2.z; have cr1 : w2.cell? ⟨w.heap.size, 1, none⟩ = some (.int .i64 0) := hg_w2.c; have crz1 : w2.frozen? ⟨w.heap.size, 1, none⟩ = false := hg_w2.z) | (with_reducible refine (HB.out _).mono ?_; rintro e w2 ⟨rfl, hg_w2⟩; have cr0 : w2.cell? ⟨w.heap.size, 0, none⟩ = some (.int .u64 0) := hg_w2.c; have crz0 : w2.frozen? ⟨w.heap.size, 0, none⟩ = false := hg_w2.z; have cr1 : w2.cell? ⟨w.heap.size, 1, none⟩ = some (.int .i64 0) := hg_w2.c; have crz1 : w2.frozen? ⟨w.heap.size, 1, none⟩ = false := hg_w2.z))
      | (go_at_call 71; refine (HC.out _).mono ?_; rintro e w3 ⟨os, oe, oc, oh, ol, ot, of, hq, rfl, hg_w3⟩; have dr0 : w3.cell? ⟨w.heap.size, 0, none⟩ = some (.int .u64 0) := hg_w3.c; have drz0 : w3.frozen? ⟨w.heap.size, 0, none⟩ = false := hg_w3.z; have dr1 : w3.cell? ⟨w.heap.size, 1, none⟩ = some (.int .i64 0) := hg_w3.c; have drz1 : w3.frozen? ⟨w.heap.size, 1, none⟩ = false := hg_w3.z)
      | (go_at_call 72; refine (HP.out _ _ _ _ _ _ _ _ hq).mono ?_; rintro e w4 ⟨z, fl, hr, rfl, hg_w4⟩; have er0 : w4.cell? ⟨w.heap.size, 0, none⟩ = some (.int .u64 0) := hg_w4.c; have erz0 : w4.frozen? ⟨w.heap.size, 0, none⟩ = false := hg_w4.z; have er1 : w4.cell? ⟨w.heap.size, 1, none⟩ = some (.int .i64 0) := hg_w4.c; have erz1 : w4.frozen? ⟨w.heap.size, 1, none⟩ = false := hg_w4.z))
  all_goals (try go_split_ands)
  all_goals go_wp2
  all_goals
    refine bodyPost_ret (v := .agg #[.int .u64 z, .int .i64 fl]) (by simp [results, Tryz.results39, go_sem, er0, er1]) rfl ⟨z, fl, hr, rfl, ?_⟩
    exact Gr.g

end Go.Proofs.YtkflpogmhailhaaGreatDoor

/- impl's combine and calculate for quotient, squareRoot, remainder; Div, Sqrt, Rem. -/
set_option linter.unusedVariables false
set_option linter.unusedSimpArgs false
namespace Go.Proofs.YtkflpogmhailhaaGreatDoor
open Go.RowKit

set_option maxRecDepth 100000 in
set_option maxHeartbeats 1000000 in
theorem combine_quotient (p mn mx md : Int) (k : Nat) (sx ex cx xh xl sy ey cy yh yl : Int) (tx ty : Bool) (m : Int) (hm : max cx cy = m) (h3 : m < 3) (Q : Int → Int → Int → Int → Int → Bool → Int → Prop) (HO : Hid (∀ w, Calls Tryz.prog 80 #[.agg #[.int .i64 p, .int .i64 mn, .int .i64 mx, .int .i64 md, .func (.func k) #[] #[]], .agg #[.int .i64 sx, .int .i64 ex, .int .i64 cx, .int .u64 xh, .int .u64 xl, .bool tx, .int .i64 0], .agg #[.int .i64 sy, .int .i64 ey, .int .i64 cy, .int .u64 yh, .int .u64 yl, .bool ty, .int .i64 0]] w fun e w' => ∃ os oe oc oh ol ot of, Q os oe oc oh ol ot of ∧ e = .returned (.agg #[.int .i64 os, .int .i64 oe, .int .i64 oc, .int .u64 oh, .int .u64 ol, .bool ot, .int .i64 of]) ∧ Gr w w')) (w : World) :
    Calls Tryz.prog 71 #[.agg #[.int .i64 p, .int .i64 mn, .int .i64 mx, .int .i64 md, .func (.func k) #[] #[]], .func (.func 80) #[] #[], .agg #[.int .i64 sx, .int .i64 ex, .int .i64 cx, .int .u64 xh, .int .u64 xl, .bool tx, .int .i64 0], .agg #[.int .i64 sy, .int .i64 ey, .int .i64 cy, .int .u64 yh, .int .u64 yl, .bool ty, .int .i64 0]] w fun e w' => ∃ os oe oc oh ol ot of, Q os oe oc oh ol ot of ∧ e = .returned (.agg #[.int .i64 os, .int .i64 oe, .int .i64 oc, .int .u64 oh, .int .u64 ol, .bool ot, .int .i64 of]) ∧ Gr w w' := by
  go_enter Tryz.func71, Tryz.ntmps71
  go_wp2_with (go_at_call 80; refine (HO.out _).mono ?_; rintro e w1 ⟨os, oe, oc, oh, ol, ot, of, hq, rfl, hg_w1⟩; have ar0 : w1.cell? ⟨w.heap.size + 1 + 1 + 1, 0, none⟩ = some (.int .i64 0) := hg_w1.c; have arz0 : w1.frozen? ⟨w.heap.size + 1 + 1 + 1, 0, none⟩ = false := hg_w1.z; have ar1 : w1.cell? ⟨w.heap.size + 1 + 1 + 1, 1, none⟩ = some (.int .i64 0) := hg_w1.c; have arz1 : w1.frozen? ⟨w.heap.size + 1 + 1 + 1, 1, none⟩ = false := hg_w1.z; have ar2 : w1.cell? ⟨w.heap.size + 1 + 1 + 1, 2, none⟩ = some (.int .i64 0) := hg_w1.c; have arz2 : w1.frozen? ⟨w.heap.size + 1 + 1 + 1, 2, none⟩ = false := hg_w1.z; have ar3 : w1.cell? ⟨w.heap.size + 1 + 1 + 1, 3, none⟩ = some (.int .u64 0) := hg_w1.c; have arz3 : w1.frozen? ⟨w.heap.size + 1 + 1 + 1, 3, none⟩ = false := hg_w1.z; have ar4 : w1.cell? ⟨w.heap.size + 1 + 1 + 1, 4, none⟩ = some (.int .u64 0) := hg_w1.c; have arz4 : w1.frozen? ⟨w.heap.size + 1 + 1 + 1, 4, none⟩ = false := hg_w1.z; have ar5 : w1.cell? ⟨w.heap.size + 1 + 1 + 1, 5, none⟩ = some (.bool false) := hg_w1.c; have arz5 : w1.frozen? ⟨w.heap.size + 1 + 1 + 1, 5, none⟩ = false := hg_w1.z; have ar6 : w1.cell? ⟨w.heap.size + 1 + 1 + 1, 6, none⟩ = some (.int .i64 0) := hg_w1.c; have arz6 : w1.frozen? ⟨w.heap.size + 1 + 1 + 1, 6, none⟩ = false := hg_w1.z)
  refine bodyPost_ret (v := .agg #[.int .i64 os, .int .i64 oe, .int .i64 oc, .int .u64 oh, .int .u64 ol, .bool ot, .int .i64 of]) (by simp [results, Tryz.results71, go_sem, ar0, ar1, ar2, ar3, ar4, ar5, ar6]) rfl ⟨os, oe, oc, oh, ol, ot, of, hq, rfl, ?_⟩
  exact Gr.g

set_option maxRecDepth 100000 in
set_option maxHeartbeats 1000000 in
theorem combine_squareRoot (p mn mx md : Int) (k : Nat) (sx ex cx xh xl sy ey cy yh yl : Int) (tx ty : Bool) (m : Int) (hm : max cx cy = m) (h3 : m < 3) (Q : Int → Int → Int → Int → Int → Bool → Int → Prop) (HO : Hid (∀ w, Calls Tryz.prog 87 #[.agg #[.int .i64 p, .int .i64 mn, .int .i64 mx, .int .i64 md, .func (.func k) #[] #[]], .agg #[.int .i64 sx, .int .i64 ex, .int .i64 cx, .int .u64 xh, .int .u64 xl, .bool tx, .int .i64 0], .agg #[.int .i64 sy, .int .i64 ey, .int .i64 cy, .int .u64 yh, .int .u64 yl, .bool ty, .int .i64 0]] w fun e w' => ∃ os oe oc oh ol ot of, Q os oe oc oh ol ot of ∧ e = .returned (.agg #[.int .i64 os, .int .i64 oe, .int .i64 oc, .int .u64 oh, .int .u64 ol, .bool ot, .int .i64 of]) ∧ Gr w w')) (w : World) :
    Calls Tryz.prog 71 #[.agg #[.int .i64 p, .int .i64 mn, .int .i64 mx, .int .i64 md, .func (.func k) #[] #[]], .func (.func 87) #[] #[], .agg #[.int .i64 sx, .int .i64 ex, .int .i64 cx, .int .u64 xh, .int .u64 xl, .bool tx, .int .i64 0], .agg #[.int .i64 sy, .int .i64 ey, .int .i64 cy, .int .u64 yh, .int .u64 yl, .bool ty, .int .i64 0]] w fun e w' => ∃ os oe oc oh ol ot of, Q os oe oc oh ol ot of ∧ e = .returned (.agg #[.int .i64 os, .int .i64 oe, .int .i64 oc, .int .u64 oh, .int .u64 ol, .bool ot, .int .i64 of]) ∧ Gr w w' := by
  go_enter Tryz.func71, Tryz.ntmps71
  go_wp2_with (go_at_call 87; refine (HO.out _).mono ?_; rintro e w1 ⟨os, oe, oc, oh, ol, ot, of, hq, rfl, hg_w1⟩; have ar0 : w1.cell? ⟨w.heap.size + 1 + 1 + 1, 0, none⟩ = some (.int .i64 0) := hg_w1.c; have arz0 : w1.frozen? ⟨w.heap.size + 1 + 1 + 1, 0, none⟩ = false := hg_w1.z; have ar1 : w1.cell? ⟨w.heap.size + 1 + 1 + 1, 1, none⟩ = some (.int .i64 0) := hg_w1.c; have arz1 : w1.frozen? ⟨w.heap.size + 1 + 1 + 1, 1, none⟩ = false := hg_w1.z; have ar2 : w1.cell? ⟨w.heap.size + 1 + 1 + 1, 2, none⟩ = some (.int .i64 0) := hg_w1.c; have arz2 : w1.frozen? ⟨w.heap.size + 1 + 1 + 1, 2, none⟩ = false := hg_w1.z; have ar3 : w1.cell? ⟨w.heap.size + 1 + 1 + 1, 3, none⟩ = some (.int .u64 0) := hg_w1.c; have arz3 : w1.frozen? ⟨w.heap.size + 1 + 1 + 1, 3, none⟩ = false := hg_w1.z; have ar4 : w1.cell? ⟨w.heap.size + 1 + 1 + 1, 4, none⟩ = some (.int .u64 0) := hg_w1.c; have arz4 : w1.frozen? ⟨w.heap.size + 1 + 1 + 1, 4, none⟩ = false := hg_w1.z; have ar5 : w1.cell? ⟨w.heap.size + 1 + 1 + 1, 5, none⟩ = some (.bool false) := hg_w1.c; have arz5 : w1.frozen? ⟨w.heap.size + 1 + 1 + 1, 5, none⟩ = false := hg_w1.z; have ar6 : w1.cell? ⟨w.heap.size + 1 + 1 + 1, 6, none⟩ = some (.int .i64 0) := hg_w1.c; have arz6 : w1.frozen? ⟨w.heap.size + 1 + 1 + 1, 6, none⟩ = false := hg_w1.z)
  refine bodyPost_ret (v := .agg #[.int .i64 os, .int .i64 oe, .int .i64 oc, .int .u64 oh, .int .u64 ol, .bool ot, .int .i64 of]) (by simp [results, Tryz.results71, go_sem, ar0, ar1, ar2, ar3, ar4, ar5, ar6]) rfl ⟨os, oe, oc, oh, ol, ot, of, hq, rfl, ?_⟩
  exact Gr.g

set_option maxRecDepth 100000 in
set_option maxHeartbeats 1000000 in
theorem combine_remainder (p mn mx md : Int) (k : Nat) (sx ex cx xh xl sy ey cy yh yl : Int) (tx ty : Bool) (m : Int) (hm : max cx cy = m) (h3 : m < 3) (Q : Int → Int → Int → Int → Int → Bool → Int → Prop) (HO : Hid (∀ w, Calls Tryz.prog 40 #[.agg #[.int .i64 p, .int .i64 mn, .int .i64 mx, .int .i64 md, .func (.func k) #[] #[]], .agg #[.int .i64 sx, .int .i64 ex, .int .i64 cx, .int .u64 xh, .int .u64 xl, .bool tx, .int .i64 0], .agg #[.int .i64 sy, .int .i64 ey, .int .i64 cy, .int .u64 yh, .int .u64 yl, .bool ty, .int .i64 0]] w fun e w' => ∃ os oe oc oh ol ot of, Q os oe oc oh ol ot of ∧ e = .returned (.agg #[.int .i64 os, .int .i64 oe, .int .i64 oc, .int .u64 oh, .int .u64 ol, .bool ot, .int .i64 of]) ∧ Gr w w')) (w : World) :
    Calls Tryz.prog 71 #[.agg #[.int .i64 p, .int .i64 mn, .int .i64 mx, .int .i64 md, .func (.func k) #[] #[]], .func (.func 40) #[] #[], .agg #[.int .i64 sx, .int .i64 ex, .int .i64 cx, .int .u64 xh, .int .u64 xl, .bool tx, .int .i64 0], .agg #[.int .i64 sy, .int .i64 ey, .int .i64 cy, .int .u64 yh, .int .u64 yl, .bool ty, .int .i64 0]] w fun e w' => ∃ os oe oc oh ol ot of, Q os oe oc oh ol ot of ∧ e = .returned (.agg #[.int .i64 os, .int .i64 oe, .int .i64 oc, .int .u64 oh, .int .u64 ol, .bool ot, .int .i64 of]) ∧ Gr w w' := by
  go_enter Tryz.func71, Tryz.ntmps71
  go_wp2_with (go_at_call 40; refine (HO.out _).mono ?_; rintro e w1 ⟨os, oe, oc, oh, ol, ot, of, hq, rfl, hg_w1⟩; have ar0 : w1.cell? ⟨w.heap.size + 1 + 1 + 1, 0, none⟩ = some (.int .i64 0) := hg_w1.c; have arz0 : w1.frozen? ⟨w.heap.size + 1 + 1 + 1, 0, none⟩ = false := hg_w1.z; have ar1 : w1.cell? ⟨w.heap.size + 1 + 1 + 1, 1, none⟩ = some (.int .i64 0) := hg_w1.c; have arz1 : w1.frozen? ⟨w.heap.size + 1 + 1 + 1, 1, none⟩ = false := hg_w1.z; have ar2 : w1.cell? ⟨w.heap.size + 1 + 1 + 1, 2, none⟩ = some (.int .i64 0) := hg_w1.c; have arz2 : w1.frozen? ⟨w.heap.size + 1 + 1 + 1, 2, none⟩ = false := hg_w1.z; have ar3 : w1.cell? ⟨w.heap.size + 1 + 1 + 1, 3, none⟩ = some (.int .u64 0) := hg_w1.c; have arz3 : w1.frozen? ⟨w.heap.size + 1 + 1 + 1, 3, none⟩ = false := hg_w1.z; have ar4 : w1.cell? ⟨w.heap.size + 1 + 1 + 1, 4, none⟩ = some (.int .u64 0) := hg_w1.c; have arz4 : w1.frozen? ⟨w.heap.size + 1 + 1 + 1, 4, none⟩ = false := hg_w1.z; have ar5 : w1.cell? ⟨w.heap.size + 1 + 1 + 1, 5, none⟩ = some (.bool false) := hg_w1.c; have arz5 : w1.frozen? ⟨w.heap.size + 1 + 1 + 1, 5, none⟩ = false := hg_w1.z; have ar6 : w1.cell? ⟨w.heap.size + 1 + 1 + 1, 6, none⟩ = some (.int .i64 0) := hg_w1.c; have arz6 : w1.frozen? ⟨w.heap.size + 1 + 1 + 1, 6, none⟩ = false := hg_w1.z)
  refine bodyPost_ret (v := .agg #[.int .i64 os, .int .i64 oe, .int .i64 oc, .int .u64 oh, .int .u64 ol, .bool ot, .int .i64 of]) (by simp [results, Tryz.results71, go_sem, ar0, ar1, ar2, ar3, ar4, ar5, ar6]) rfl ⟨os, oe, oc, oh, ol, ot, of, hq, rfl, ?_⟩
  exact Gr.g

set_option maxRecDepth 1000000 in
set_option maxHeartbeats 4000000 in
theorem implDiv_of (f mode a b : Int) (R : Int → Int → Prop) {w : World} (HC : Hid (∀ w', Gr w w' → Calls Tryz.prog 39 #[.int .i64 f, .int .i64 mode, .func (.func 80) #[] #[], .int .u64 a, .int .u64 b] w' fun e w'' => ∃ z fl, R z fl ∧ e = .returned (.agg #[.int .u64 z, .int .i64 fl]) ∧ Gr w' w'')) :
    Calls Tryz.prog 30 #[.int .i64 f, .int .i64 mode, .int .u64 a, .int .u64 b] w fun e w' => ∃ z fl, R z fl ∧ e = .returned (.agg #[.int .u64 z, .int .i64 fl]) ∧ Gr w w' := by
  go_enter Tryz.func30, Tryz.ntmps30
  go_wp2_with (go_at_call 39; refine (HC.out _ Gr.g).mono ?_; rintro e w1 ⟨z, fl, hr, rfl, hg_w1⟩; have ar0 : w1.cell? ⟨w.heap.size, 0, none⟩ = some (.int .u64 0) := hg_w1.c; have arz0 : w1.frozen? ⟨w.heap.size, 0, none⟩ = false := hg_w1.z; have ar1 : w1.cell? ⟨w.heap.size, 1, none⟩ = some (.int .i64 0) := hg_w1.c; have arz1 : w1.frozen? ⟨w.heap.size, 1, none⟩ = false := hg_w1.z)
  refine bodyPost_ret (v := .agg #[.int .u64 z, .int .i64 fl]) (by simp [results, Tryz.results30, go_sem, ar0, ar1]) rfl ⟨z, fl, hr, rfl, ?_⟩
  exact Gr.g

set_option maxRecDepth 1000000 in
set_option maxHeartbeats 4000000 in
theorem implSqrt_of (f mode a : Int) (R : Int → Int → Prop) {w : World} (HC : Hid (∀ w', Gr w w' → Calls Tryz.prog 39 #[.int .i64 f, .int .i64 mode, .func (.func 87) #[] #[], .int .u64 a, .int .u64 a] w' fun e w'' => ∃ z fl, R z fl ∧ e = .returned (.agg #[.int .u64 z, .int .i64 fl]) ∧ Gr w' w'')) :
    Calls Tryz.prog 33 #[.int .i64 f, .int .i64 mode, .int .u64 a] w fun e w' => ∃ z fl, R z fl ∧ e = .returned (.agg #[.int .u64 z, .int .i64 fl]) ∧ Gr w w' := by
  go_enter Tryz.func33, Tryz.ntmps33
  go_wp2_with (go_at_call 39; refine (HC.out _ Gr.g).mono ?_; rintro e w1 ⟨z, fl, hr, rfl, hg_w1⟩; have ar0 : w1.cell? ⟨w.heap.size, 0, none⟩ = some (.int .u64 0) := hg_w1.c; have arz0 : w1.frozen? ⟨w.heap.size, 0, none⟩ = false := hg_w1.z; have ar1 : w1.cell? ⟨w.heap.size, 1, none⟩ = some (.int .i64 0) := hg_w1.c; have arz1 : w1.frozen? ⟨w.heap.size, 1, none⟩ = false := hg_w1.z)
  refine bodyPost_ret (v := .agg #[.int .u64 z, .int .i64 fl]) (by simp [results, Tryz.results33, go_sem, ar0, ar1]) rfl ⟨z, fl, hr, rfl, ?_⟩
  exact Gr.g

set_option maxRecDepth 1000000 in
set_option maxHeartbeats 4000000 in
theorem implRem_of (f a b : Int) (R : Int → Int → Prop) {w : World} (HC : Hid (∀ w', Gr w w' → Calls Tryz.prog 39 #[.int .i64 f, .int .i64 0, .func (.func 40) #[] #[], .int .u64 a, .int .u64 b] w' fun e w'' => ∃ z fl, R z fl ∧ e = .returned (.agg #[.int .u64 z, .int .i64 fl]) ∧ Gr w' w'')) :
    Calls Tryz.prog 8 #[.int .i64 f, .int .u64 a, .int .u64 b] w fun e w' => ∃ z fl, R z fl ∧ e = .returned (.agg #[.int .u64 z, .int .i64 fl]) ∧ Gr w w' := by
  go_enter Tryz.func8, Tryz.ntmps8
  go_wp2_with (go_at_call 39; refine (HC.out _ Gr.g).mono ?_; rintro e w1 ⟨z, fl, hr, rfl, hg_w1⟩; have ar0 : w1.cell? ⟨w.heap.size, 0, none⟩ = some (.int .u64 0) := hg_w1.c; have arz0 : w1.frozen? ⟨w.heap.size, 0, none⟩ = false := hg_w1.z; have ar1 : w1.cell? ⟨w.heap.size, 1, none⟩ = some (.int .i64 0) := hg_w1.c; have arz1 : w1.frozen? ⟨w.heap.size, 1, none⟩ = false := hg_w1.z)
  refine bodyPost_ret (v := .agg #[.int .u64 z, .int .i64 fl]) (by simp [results, Tryz.results8, go_sem, ar0, ar1]) rfl ⟨z, fl, hr, rfl, ?_⟩
  exact Gr.g
end Go.Proofs.YtkflpogmhailhaaGreatDoor
