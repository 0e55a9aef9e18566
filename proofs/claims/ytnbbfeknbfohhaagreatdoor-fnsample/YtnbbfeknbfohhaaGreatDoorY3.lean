import Derived.Test.YtnbbfeknbfohhaaGreatDoorY2
import Derived.Deep.RegionHeld3
import Derived.Deep.DeepCutAuto
import Derived.Deep.Cut
import Derived.Laws.EntriesVeiled
set_option linter.unusedVariables false
set_option linter.unusedSimpArgs false
set_option maxHeartbeats 40000000
namespace Go.Proofs.YtnbbfeknbfohhaaGreatDoor
open Go.RowKit
set_option maxRecDepth 100000 in
theorem isCurve_i {mu inv scale : Int} (hm : Wo mu) (hi : Wo inv) (hs : Wo scale) {w : World} (hw : Fm w) :
  Calls Tryz.prog 40 #[.int .u64 mu, .int .u64 inv, .int .u64 scale] w fun e w' => e = .returned (.bool (isC mu inv scale)) ∧ Gr w w' := by
 have HM : KR 104 #[.agg #[.int .i64 53, .int .i64 (-1022), .int .i64 1023], .int .u64 mu] (.int .u64 (mu % 9223372036854775808)) := fun w => magnitude_any (.inr ⟨rfl, rfl, rfl, rfl, rfl, rfl, rfl, rfl, rfl⟩) mu hm.1 (by have := hm.2; omega) w
 obtain ⟨c0, c1, c2, c3, c4, c5⟩ := hw
 have hC : isC mu inv scale = (decide (mu % 9223372036854775808 ≤ 4787326403894837248) && (decide (hfC ≤ inv) && decide (inv ≤ 4607182418800017408)) && (decide (0 < scale) && decide (scale ≤ 4607182418800017408))) := rfl
 have m0 : 0 ≤ mu % 9223372036854775808 := by omega
 have i0 := hi.1
 have i1 := hi.2
 have s0 := hs.1
 have s1 := hs.2
 unfold hfC at hC
 generalize isC mu inv scale = b at *
 generalize mu % 9223372036854775808 = m at *
 clear hm hi hs
 rcases (show (¬ m ≤ 4787326403894837248 ∧ b = false) ∨ (m ≤ 4787326403894837248 ∧ ¬ 4602678819172646912 ≤ inv ∧ b = false) ∨ (m ≤ 4787326403894837248 ∧ 4602678819172646912 ≤ inv ∧ ¬ inv ≤ 4607182418800017408 ∧ b = false) ∨ (m ≤ 4787326403894837248 ∧ 4602678819172646912 ≤ inv ∧ inv ≤ 4607182418800017408 ∧ ¬ 0 < scale ∧ b = false) ∨ (m ≤ 4787326403894837248 ∧ 4602678819172646912 ≤ inv ∧ inv ≤ 4607182418800017408 ∧ 0 < scale ∧ b = decide (scale ≤ 4607182418800017408)) by
  rw [hC]
  by_cases a1 : m ≤ 4787326403894837248
  ·by_cases a2 : 4602678819172646912 ≤ inv
   ·by_cases a3 : inv ≤ 4607182418800017408
    ·by_cases a4 : 0 < scale
     ·exact .inr (.inr (.inr (.inr ⟨a1, a2, a3, a4, by simp [a1, a2, a3, a4]⟩)))
     ·exact .inr (.inr (.inr (.inl ⟨a1, a2, a3, a4, by simp [a4]⟩)))
    ·exact .inr (.inr (.inl ⟨a1, a2, a3, by simp [a3]⟩))
   ·exact .inr (.inl ⟨a1, a2, by simp [a2]⟩)
  ·exact .inl ⟨a1, by simp [a1]⟩) with ⟨a1, rfl⟩ | ⟨a1, a2, rfl⟩ | ⟨a1, a2, a3, rfl⟩ | ⟨a1, a2, a3, a4, rfl⟩ | ⟨a1, a2, a3, a4, rfl⟩
 all_goals
  clear hC
  go_enter Tryz.func40, Tryz.ntmps40
  go_wp2_with (go_at_call 104; refine (HM.out _).mono ?_; rintro e w1 ⟨rfl, hg_w1⟩)
  go_returns
  exact ⟨rfl, hg_w1⟩
abbrev crvV (a b c : Int) : Value := .agg #[.int .u64 a, .int .u64 b, .int .u64 c]
abbrev tryV (u c v : Int) : Value := .agg #[.int .u64 u, .int .u8 c, .int .u64 v]
structure Ac (w wx : World) (r h e u c v : Int) : Prop where
 g : Gr w wx := by exact kr
 a0 : wx.cell? ⟨w.heap.size, 0, none⟩ = some (.int .u64 r) := by exact kl
 a1 : wx.cell? ⟨w.heap.size, 1, none⟩ = some (.int .u64 h) := by exact kl
 a2 : wx.cell? ⟨w.heap.size, 2, none⟩ = some (.int .u64 e) := by exact kl
 b0 : wx.cell? ⟨w.heap.size + 1, 0, none⟩ = some (.int .u64 u) := by exact kl
 b1 : wx.cell? ⟨w.heap.size + 1, 1, none⟩ = some (.int .u8 c) := by exact kl
 b2 : wx.cell? ⟨w.heap.size + 1, 2, none⟩ = some (.int .u64 v) := by exact kl
set_option maxRecDepth 100000 in
theorem accepts_i {o : O7} (H : o.I) (HI : o.In) {r h e u c v : Int} (hr : Wo r) (hh : Wo h) (he : Wo e) (hu : Wo u) (c0 : 0 ≤ c) (c1 : c ≤ 255) (hv : Wo v) {w : World} (hw : Fm w) (hT : Tl w) (hD : Dc w) :
  Calls Tryz.prog 46 #[crvV r h e, tryV u c v] w fun x w' => x = .returned (.tuple #[.int .i64 (zOf (baseN u) c), .bool (o.acc (zOf (baseN u) c) (baseN u) r h e v)]) ∧ Gr w w' := by
 have HB : Hid (∀ w', Gr w w' → Calls Tryz.prog 133 #[.int .u64 u] w' fun e w'' => e = .returned (.int .i64 (baseN u : Nat)) ∧ w' = w'') := fun w' hg => base_i u hu.1 hu.2 (hT.below hg.below)
 have hn := baseN_le u
 have hz := zOf_in (baseN u) c hn
 have hzd : zOf (baseN u) c = if c % 2 = 1 then ((baseN u : Nat) : Int) + 1 else -((baseN u : Nat) : Int) := rfl
 generalize baseN u = n at *
 generalize zOf n c = z at *
 have hd := HI.sub (HI.int z) hr
 have hdd := HI.mul hd hd
 have hm := HI.mul hdd hh
 have hq : Wo (4593671619917905920 : Int) := Wo.c _
 have nn : (n : Int) * n ≤ 18 * 18 := Int.mul_le_mul (by omega) (by omega) (by omega) (by omega)
 have nn0 : 0 ≤ (n : Int) * n := Int.mul_nonneg (by omega) (by omega)
 have hi := HI.int ((n : Int) * n)
 have hmi := HI.mul hi hq
 have hx := HI.sub hm hmi
 have hc : Wo c32 := Wo.c _
 have hxc := HI.mul hx hc
 have hy := HI.fix hxc
 have hdy := decayN_in (o.fix (o.mul (o.xOf z n r h) c32))
 have K1 : ∀ n, -9223372036854775808 ≤ n → n ≤ 9223372036854775807 → Hid (∀ w', Gr w w' → Calls Tryz.prog 134 #[.int .i64 n] w' fun e w'' => e = .returned (.int .u64 (o.int n)) ∧ Gr w' w'') := fun n a b w' hg => H.word.out n a b w' (hw.gr hg)
 have K2 : ∀ a b, Wo a → Wo b → Hid (∀ w', Gr w w' → Calls Tryz.prog 42 #[.int .u64 a, .int .u64 b] w' fun e w'' => e = .returned (.int .u64 (o.sub a b)) ∧ Gr w' w'') := fun a b ha hb w' hg => H.minus.out a b ha hb w' (hw.gr hg)
 have K3 : ∀ a b, Wo a → Wo b → Hid (∀ w', Gr w w' → Calls Tryz.prog 43 #[.int .u64 a, .int .u64 b] w' fun e w'' => e = .returned (.int .u64 (o.mul a b)) ∧ Gr w' w'') := fun a b ha hb w' hg => H.times.out a b ha hb w' (hw.gr hg)
 have HW1 := K1 z (by omega) (by omega)
 have HS1 := K2 _ _ (HI.int z) hr
 have HM1 := K3 _ _ hd hd
 have HM2 := K3 _ _ hdd hh
 obtain ⟨N, hN⟩ : ∃ N, (n : Int) * n = N := ⟨_, rfl⟩
 have HW2 := K1 ((n : Int) * n) (by omega) (by omega)
 have HM3 := K3 _ _ hi hq
 have HS2 : Hid (∀ w', Gr w w' → Calls Tryz.prog 42 #[.int .u64 (o.mul (o.mul (o.sub (o.int z) r) (o.sub (o.int z) r)) h), .int .u64 (o.mul (o.int ((n : Int) * n)) 4593671619917905920)] w' fun e w'' => e = .returned (.int .u64 (o.xOf z n r h)) ∧ Gr w' w'') := K2 _ _ hm hmi
 have HM4 : Hid (∀ w', Gr w w' → Calls Tryz.prog 43 #[.int .u64 (o.xOf z n r h), .int .u64 c32] w' fun e w'' => e = .returned (.int .u64 (o.mul (o.xOf z n r h) c32)) ∧ Gr w' w'') := K3 _ _ hx hc
 clear K1 K2 K3
 have HF : Hid (∀ w', Gr w w' → Calls Tryz.prog 44 #[.int .u64 (o.mul (o.xOf z n r h) c32)] w' fun e w'' => e = .returned (.int .u64 (o.fix (o.mul (o.xOf z n r h) c32))) ∧ Gr w' w'') := fun w' hg => H.fix.out _ hxc w' (hw.gr hg)
 have HD : Hid (∀ w', Gr w w' → Calls Tryz.prog 135 #[.int .u64 (o.fix (o.mul (o.xOf z n r h) c32))] w' fun e w'' => e = .returned (.int .u64 (decayN (o.fix (o.mul (o.xOf z n r h) c32)))) ∧ Gr w' w'') := fun w' hg => decay_i _ hy.1 hy.2 (hD.below hg.below)
 have HP : KR 136 #[.int .u64 (decayN (o.fix (o.mul (o.xOf z n r h) c32))), .int .u64 e] (.int .u64 (o.leaves z n r h e)) := share_i _ _ hdy.1 (by omega) he.1 he.2
 have HR : Hid (o.acc z n r h e v = decide (v / 2 < o.leaves z n r h e)) := rfl
 have v0 := hv.1
 have v1 := hv.2
 have hv2 : IntKind.u64.wrap (v.tdiv 2) = v / 2 := by rw [Int.tdiv_eq_ediv_of_nonneg v0, IntKind.wrap_u64]; omega
 generalize o.acc z n r h e v = bb at *
 generalize o.leaves z n r h e = lv at *
 generalize decayN (o.fix (o.mul (o.xOf z n r h) c32)) = dy at *
 generalize o.fix (o.mul (o.xOf z n r h) c32) = fx at *
 generalize o.mul (o.xOf z n r h) c32 = xc at *
 generalize o.xOf z n r h = xx at *
 rw [hN] at HW2 HM3 HS2 nn nn0
 have hN2 : IntKind.i64.wrap N = N := by rw [IntKind.wrap_i64]; omega
 generalize o.mul (o.int N) 4593671619917905920 = mi at *
 generalize o.mul (o.mul (o.sub (o.int z) r) (o.sub (o.int z) r)) h = mh at *
 generalize o.mul (o.sub (o.int z) r) (o.sub (o.int z) r) = dd at *
 generalize o.sub (o.int z) r = d at *
 generalize o.int N = iN at *
 generalize o.int z = iz at *
 clear hx hxc hy hdy hT hD hw H HI he hu hv hr hh hd hdd hm hq hi hmi hc
 rcases (show (c % 2 = 1 ∧ z = (n : Int) + 1) ∨ (c % 2 = 0 ∧ z = -(n : Int)) by
  by_cases h : c % 2 = 1
  ·exact .inl ⟨h, by rw [hzd, if_pos h]⟩
  ·exact .inr ⟨by omega, by rw [hzd, if_neg h]⟩) with ⟨hc2, rfl⟩ | ⟨hc2, rfl⟩
 all_goals
  clear hzd
  go_enter Tryz.func46, Tryz.ntmps46
  go_upto_region 5 with (go_at_call 133; refine kw (HB.out _ kr) ?_)
  go_wp2
  go_cut [8] (fun s8 wx => s8 = .int .u64 d ∧ Ac w wx r h e u c v)
  case first =>
   go_region_held3 (fun w' => w'.cell? ⟨w.heap.size, 0, none⟩ = some (.int .u64 r) ∧ w'.cell? ⟨w.heap.size, 1, none⟩ = some (.int .u64 h) ∧ w'.cell? ⟨w.heap.size, 2, none⟩ = some (.int .u64 e) ∧ w'.cell? ⟨w.heap.size + 1, 0, none⟩ = some (.int .u64 u) ∧ w'.cell? ⟨w.heap.size + 1, 1, none⟩ = some (.int .u8 c) ∧ w'.cell? ⟨w.heap.size + 1, 2, none⟩ = some (.int .u64 v))
    ((go_split_ands; (repeat' apply And.intro) <;> exact kl))
    (first
     | (go_at_call 134; with_reducible refine (HW1.out _ kr).mono ?_; rintro e w2 ⟨rfl, hg_w2⟩)
     | (go_at_call 42; with_reducible refine (HS1.out _ kr).mono ?_; rintro e w3 ⟨rfl, hg_w3⟩))
   all_goals (try go_split_ands)
   all_goals (go_wp2; go_meet)
   all_goals exact ⟨rfl, {}⟩
  case rest =>
   obtain ⟨rfl, ⟨qg, qa0, qa1, qa2, qb0, qb1, qb2⟩⟩ := hcut
   go_wp2
   go_cut [9] (fun s9 wx => s9 = .int .u64 xx ∧ Ac w wx r h e u c v)
   case first =>
    go_region_held3 (fun w' => w'.cell? ⟨w.heap.size, 0, none⟩ = some (.int .u64 r) ∧ w'.cell? ⟨w.heap.size, 1, none⟩ = some (.int .u64 h) ∧ w'.cell? ⟨w.heap.size, 2, none⟩ = some (.int .u64 e) ∧ w'.cell? ⟨w.heap.size + 1, 0, none⟩ = some (.int .u64 u) ∧ w'.cell? ⟨w.heap.size + 1, 1, none⟩ = some (.int .u8 c) ∧ w'.cell? ⟨w.heap.size + 1, 2, none⟩ = some (.int .u64 v))
     ((go_split_ands; (repeat' apply And.intro) <;> exact kl))
     (first
      | (go_at_call 43; first | (with_reducible refine (HM1.out _ kr).mono ?_; rintro e w4 ⟨rfl, hg_w4⟩) | (with_reducible refine (HM2.out _ kr).mono ?_; rintro e w5 ⟨rfl, hg_w5⟩) | (with_reducible refine (HM3.out _ kr).mono ?_; rintro e w6 ⟨rfl, hg_w6⟩))
      | (go_at_call 134; with_reducible refine (HW2.out _ kr).mono ?_; rintro e w7 ⟨rfl, hg_w7⟩)
      | (go_at_call 42; with_reducible refine (HS2.out _ kr).mono ?_; rintro e w8 ⟨rfl, hg_w8⟩))
    all_goals (try go_split_ands)
    all_goals (go_wp2; go_meet)
    all_goals exact ⟨rfl, {}⟩
   case rest =>
    clear qg qa0 qa1 qa2 qb0 qb1 qb2
    obtain ⟨rfl, ⟨qg, qa0, qa1, qa2, qb0, qb1, qb2⟩⟩ := hcut
    go_upto_region 8 with (first
     | (go_at_call 43; refine (HM4.out _ qg).mono ?_; rintro e w4 ⟨rfl, hg_w4⟩)
     | (go_at_call 44; refine (HF.out _ kr).mono ?_; rintro e w5 ⟨rfl, hg_w5⟩)
     | (go_at_call 135; refine (HD.out _ kr).mono ?_; rintro e w6 ⟨rfl, hg_w6⟩; obtain ⟨pa0, pa1, pa2⟩ := hg_w6.e3 w.heap.size 0 1 2 (.int .u64 r) (.int .u64 h) (.int .u64 e); obtain ⟨pb0, pb1, pb2⟩ := hg_w6.e3 (w.heap.size + 1) 0 1 2 (.int .u64 u) (.int .u8 c) (.int .u64 v)))
    go_region_held3 (fun w' => w'.cell? ⟨w.heap.size, 0, none⟩ = some (.int .u64 r) ∧ w'.cell? ⟨w.heap.size, 1, none⟩ = some (.int .u64 h) ∧ w'.cell? ⟨w.heap.size, 2, none⟩ = some (.int .u64 e) ∧ w'.cell? ⟨w.heap.size + 1, 0, none⟩ = some (.int .u64 u) ∧ w'.cell? ⟨w.heap.size + 1, 1, none⟩ = some (.int .u8 c) ∧ w'.cell? ⟨w.heap.size + 1, 2, none⟩ = some (.int .u64 v))
     ((go_split_ands; (repeat' apply And.intro) <;> exact kl))
     (first
      | (go_at_call 136; with_reducible refine (HP.out _).mono ?_; rintro e w7 ⟨rfl, hg_w7⟩))
    all_goals (try go_split_ands)
    all_goals go_wp2
    all_goals go_returns
    all_goals
     obtain rfl := HR.out
     exact ⟨rfl, kr⟩
end Go.Proofs.YtnbbfeknbfohhaaGreatDoor
namespace Go.Proofs.YtnbbfeknbfohhaaGreatDoor
open Go.RowKit
theorem byt_cut (s : ByteArray) (a b i : Nat) (hb : b ≤ s.size) : byt (s.extract a b) i = if a + i < b then byt s (a + i) else 0 := by
 have hz : (s.extract a b).size = b - a := by rw [ByteArray.size_extract]; omega
 unfold byt
 by_cases h : a + i < b
 ·rw [if_pos h, dif_pos (by omega), dif_pos (by omega)]
  rw [ByteArray.getElem_extract]
 ·rw [if_neg h, dif_neg (by omega)]
theorem num_congr {s t : ByteArray} (k : Nat) : ∀ {p q : Nat}, (∀ i, i < k → byt s (p + i) = byt t (q + i)) → num s p k = num t q k := by
 induction k with
 | zero => intro p q _; rfl
 | succ k ih =>
  intro p q h
  show byt s p + 256 * num s (p + 1) k = byt t q + 256 * num t (q + 1) k
  rw [ih (p := p + 1) (q := q + 1) (fun i hi => by rw [show p + 1 + i = p + (i + 1) by omega, show q + 1 + i = q + (i + 1) by omega]; exact h (i + 1) (by omega)), show byt s p = byt t q from h 0 (by omega)]
theorem cut_1 (t : ByteArray) (ht : 17 ≤ t.size) : num (t.extract 0 17) 0 8 = num t 0 8 := num_congr 8 fun i hi => by
 rw [byt_cut _ _ _ _ ht, if_pos (by omega), Nat.zero_add]
theorem cut_2 (t : ByteArray) (ht : 17 ≤ t.size) : byt (t.extract 0 17) 8 = byt t 8 := by
 rw [byt_cut _ _ _ _ ht, if_pos (by omega)]
theorem cut_3 (t : ByteArray) (ht : 17 ≤ t.size) : num ((t.extract 0 17).extract 9 17) 0 8 = num t 9 8 := num_congr 8 fun i hi => by
 have z1 : (t.extract 0 17).size = 17 := by rw [ByteArray.size_extract]; omega
 rw [byt_cut _ _ _ _ (by omega), if_pos (by omega), byt_cut _ _ _ _ ht, if_pos (by omega), Nat.zero_add, Nat.zero_add]
set_option maxRecDepth 100000 in
theorem next_no (t : ByteArray) (lb : Nat) (ht : t.size < 17) {w : World} (hc : w.cell? ⟨lb, 0, none⟩ = some (.string t)) :
  Calls Tryz.prog 131 #[.pointer (some ⟨lb, 0, none⟩)] w fun e w' => e = .returned (.tuple #[tryV 0 0 0, .bool false]) ∧ Gr w w' := by
 have h1 : (t.size : Int) < 17 := by omega
 have hcA := kca hc
 have hlb := cell_size hc
 go_enter Tryz.func131, Tryz.ntmps131
 go_wp2
 go_returns
 exact ⟨rfl, kr⟩
set_option maxRecDepth 100000 in
theorem next_yes (t : ByteArray) (lb : Nat) (ht : 17 ≤ t.size) (hs : t.size ≤ 1048576) {w : World} (hc : w.cell? ⟨lb, 0, none⟩ = some (.string t)) (hz : w.frozen? ⟨lb, 0, none⟩ = false) :
  Calls Tryz.prog 131 #[.pointer (some ⟨lb, 0, none⟩)] w fun e w' => e = .returned (.tuple #[tryV (num t 0 8) (byt t 8) (num t 9 8), .bool true]) ∧ Gr (w.setCell ⟨lb, 0, none⟩ (.string (t.extract 17 t.size))) w' := by
 have h1 : ¬ (t.size : Int) < 17 := by omega
 have hcA := kca hc
 have hzA := kfa hz
 have hlb := cell_size hc
 have h2 : (17 : Int) ≤ t.size := by omega
 have z1 : (t.extract 0 17).size = 17 := by rw [ByteArray.size_extract]; omega
 have z2 : ((t.extract 0 17).extract 9 17).size = 8 := by rw [ByteArray.size_extract]; omega
 have D1 : KW 132 #[.string (t.extract 0 17)] (.int .u64 (num t 0 8)) := fun w => (draw_i (t.extract 0 17) (by omega) (by omega) w).mono fun e w' hh => ⟨hh.1.trans (by rw [cut_1 t ht]), hh.2⟩
 have D2 : KW 132 #[.string ((t.extract 0 17).extract 9 17)] (.int .u64 (num t 9 8)) := fun w => (draw_i ((t.extract 0 17).extract 9 17) (by omega) (by omega) w).mono fun e w' hh => ⟨hh.1.trans (by rw [cut_3 t ht]), hh.2⟩
 have q : ∀ w, (Instr.index 9 (.string (t.extract 0 17)) (.int .i64 8)).run Tryz.prog w = .ok (.int .u8 (byt t 8)) w := fun w => (index_s (t.extract 0 17) 8 (by omega) w).trans (by rw [cut_2 t ht])
 have q1 : ∀ w, (Instr.slice 9 (.string t) none (some (.int .i64 17)) none).run Tryz.prog w = .ok (.string (t.extract 0 17)) w := fun w => run_slice_string_h w 9 t Tryz.underlying9 .i64 17 (by omega) h2
 have q2 : ∀ w, (Instr.slice 9 (.string t) (some (.int .i64 17)) none none).run Tryz.prog w = .ok (.string (t.extract 17 t.size)) w := fun w => run_slice_string_l w 9 t Tryz.underlying9 .i64 17 (by omega) h2
 have q3 : ∀ w, (Instr.slice 9 (.string (t.extract 0 17)) (some (.int .i64 9)) none none).run Tryz.prog w = .ok (.string ((t.extract 0 17).extract 9 17)) w := fun w => by
  have := run_slice_string_l w 9 (t.extract 0 17) Tryz.underlying9 .i64 9 (by omega) (by rw [z1]; omega)
  rw [z1] at this
  exact this
 generalize t.extract 17 t.size = t' at *
 generalize (t.extract 0 17).extract 9 17 = t2 at *
 generalize t.extract 0 17 = t1 at *
 go_enter Tryz.func131, Tryz.ntmps131
 go_upto_region 5 with fail
 have hsz : (w.setCell ⟨lb, 0, none⟩ (.string t')).heap.size = w.heap.size := World.size_setCell ..
 rw [← hsz]
 obtain ⟨W, hW⟩ : ∃ W, w.setCell ⟨lb, 0, none⟩ (.string t') = W := ⟨_, rfl⟩
 have hGW : Gr (w.setCell ⟨lb, 0, none⟩ (.string t')) W := by rw [hW]; exact Gr.refl _
 rw [hW]
 clear hW
 clear hc hz hcA hzA hsz hlb q1 q2
 go_region_held3 (fun w' => True)
  (trivial)
  (first
   | (go_at_call 132; first | (with_reducible refine kw (D1.out _) ?_) | (with_reducible refine kw (D2.out _) ?_)))
 all_goals (try go_split_ands)
 all_goals go_wp2
 all_goals go_returns
 all_goals exact ⟨rfl, kr⟩
set_option maxRecDepth 100000 in
theorem triesOf_i (t : ByteArray) (w : World) :
  Calls Tryz.prog 45 #[.string t] w fun e w' => e = .returned (.func (.func 131) #[] #[.pointer (some ⟨w.heap.size, 0, none⟩)]) ∧ w' = w.alloc (.cells #[.string t] 9) := by
 go_enter Tryz.func45, Tryz.ntmps45
 go_wp2
 go_returns
 exact ⟨rfl, rfl⟩
end Go.Proofs.YtnbbfeknbfohhaaGreatDoor
namespace Go.Proofs.YtnbbfeknbfohhaaGreatDoor
open Go.RowKit
set_option maxRecDepth 100000 in
theorem sample_no_i {mu inv scale : Int} (hm : Wo mu) (hi : Wo inv) (hs : Wo scale) (s : ByteArray) (hz : s.size ≤ 1048576) (hn : ¬ (s.size ≤ 20000 ∧ isC mu inv scale = true)) {w : World} (hw : Fm w) :
  Calls Tryz.prog 10 #[.int .u64 mu, .int .u64 inv, .int .u64 scale, .string s] w fun e w' => e = .returned (smpV ⟨1, 0, 0, 0⟩) ∧ Gr w w' := by
 have HC : Hid (∀ w', Gr w w' → Calls Tryz.prog 40 #[.int .u64 mu, .int .u64 inv, .int .u64 scale] w' fun e w'' => e = .returned (.bool (isC mu inv scale)) ∧ Gr w' w'') := fun w' hg => isCurve_i hm hi hs (hw.gr hg)
 generalize isC mu inv scale = b at *
 clear hm hi hs hw
 rcases (show (20000 : Int) < s.size ∨ (¬ (20000 : Int) < s.size ∧ b = false) by
  rcases (show (20000 : Int) < s.size ∨ ¬ (20000 : Int) < s.size by omega) with h | h
  ·exact .inl h
  ·refine .inr ⟨h, ?_⟩
   cases b
   ·rfl
   ·exact absurd ⟨by omega, rfl⟩ hn) with h | ⟨h, rfl⟩
 ·clear hn
  go_enter Tryz.func10, Tryz.ntmps10
  go_wp2
  go_returns
  exact ⟨rfl, kr⟩
 ·clear hn
  go_enter Tryz.func10, Tryz.ntmps10
  go_wp2_with (go_at_call 40; refine (HC.out _ kr).mono ?_; rintro e w1 ⟨rfl, hg_w1⟩; obtain ⟨pr0, prz0, pr1, prz1, pr2, prz2, pr3, prz3⟩ := hg_w1.y4 w.heap.size 0 1 2 3 (.int .i64 0) (.int .i64 0) (.int .i64 0) (.int .i64 0))
  refine bodyPost_ret (v := smpV ⟨1, 0, 0, 0⟩) (by simp [results, Tryz.results10, go_sem, pr0, pr1, pr2, pr3]) rfl ⟨rfl, ?_⟩
  exact kr
def Tail (s : ByteArray) (k : Nat) (t : ByteArray) : Prop := t.size + 17 * k = s.size ∧ ∀ i, byt t i = byt s (17 * k + i)
theorem Tail.next {s t : ByteArray} {k : Nat} (h : Tail s k t) (ht : 17 ≤ t.size) : Tail s (k + 1) (t.extract 17 t.size) := by
 refine ⟨by rw [ByteArray.size_extract]; have := h.1; omega, fun i => ?_⟩
 rw [byt_cut _ _ _ _ (Nat.le_refl _)]
 split
 ·rw [h.2]; congr 1; omega
 ·unfold byt
  rw [dif_neg (by have := h.1; omega)]
theorem Tail.num {s t : ByteArray} {k : Nat} (h : Tail s k t) (p n : Nat) : num t p n = num s (17 * k + p) n := num_congr n fun i _ => by rw [h.2]; congr 1; omega
def tU (t : ByteArray) : Int := if 17 ≤ t.size then num t 0 8 else 0
def tC (t : ByteArray) : Int := if 17 ≤ t.size then byt t 8 else 0
def tV (t : ByteArray) : Int := if 17 ≤ t.size then num t 9 8 else 0
def tL (t : ByteArray) : ByteArray := if 17 ≤ t.size then t.extract 17 t.size else t
def Nx (lb : Nat) (t : ByteArray) (w w' : World) : Prop := Gr (w.setCell ⟨lb, 0, none⟩ (.string (tL t))) w' ∨ (tL t = t ∧ Gr w w')
theorem next_i (t : ByteArray) (lb : Nat) (hs : t.size ≤ 1048576) {w : World} (hc : w.cell? ⟨lb, 0, none⟩ = some (.string t)) (hz : w.frozen? ⟨lb, 0, none⟩ = false) :
  Calls Tryz.prog 131 #[.pointer (some ⟨lb, 0, none⟩)] w fun e w' => e = .returned (.tuple #[tryV (tU t) (tC t) (tV t), .bool (decide (17 ≤ t.size))]) ∧ Nx lb t w w' := by
 unfold tU tC tV Nx tL
 by_cases h : 17 ≤ t.size
 ·rw [if_pos h, if_pos h, if_pos h, if_pos h, decide_eq_true h]
  exact (next_yes t lb h hs hc hz).mono fun e w' hh => ⟨hh.1, .inl hh.2⟩
 ·rw [if_neg h, if_neg h, if_neg h, if_neg h, decide_eq_false h]
  exact (next_no t lb (by omega) hc).mono fun e w' hh => ⟨hh.1, .inr ⟨rfl, hh.2⟩⟩
structure Md (w : World) (b kb m lb : Nat) (r h e u k : Int) (t : ByteArray) : Prop where
 rs : Rs w b
 k0 : w.cell? ⟨kb, 0, none⟩ = some (.int .u64 r)
 k1 : w.cell? ⟨kb, 1, none⟩ = some (.int .u64 h)
 k2 : w.cell? ⟨kb, 2, none⟩ = some (.int .u64 e)
 m0 : w.cell? ⟨m, 0, none⟩ = some (.int .i64 2)
 m1 : w.cell? ⟨m, 1, none⟩ = some (.int .i64 0)
 m2 : w.cell? ⟨m, 2, none⟩ = some (.int .i64 u)
 m3 : w.cell? ⟨m, 3, none⟩ = some (.int .i64 k)
 z0 : w.frozen? ⟨m, 0, none⟩ = false
 z1 : w.frozen? ⟨m, 1, none⟩ = false
 z2 : w.frozen? ⟨m, 2, none⟩ = false
 z3 : w.frozen? ⟨m, 3, none⟩ = false
 l0 : w.cell? ⟨lb, 0, none⟩ = some (.string t)
 lz : w.frozen? ⟨lb, 0, none⟩ = false
structure On (w : World) (o : Nat) (x y z : Int) : Prop where
 o0 : w.cell? ⟨o, 0, none⟩ = some (.int .u64 x)
 o1 : w.cell? ⟨o, 1, none⟩ = some (.int .u8 y)
 o2 : w.cell? ⟨o, 2, none⟩ = some (.int .u64 z)
 z0 : w.frozen? ⟨o, 0, none⟩ = false
 z1 : w.frozen? ⟨o, 1, none⟩ = false
 z2 : w.frozen? ⟨o, 2, none⟩ = false
theorem Rs.set {w : World} {b g : Nat} (h : Rs w b) (hb : g ≠ b) (o : Nat) (v : Value) : Rs (w.setCell ⟨g, o, none⟩ v) b :=
 ⟨cell_setNew hb h.r0, cell_setNew hb h.r1, cell_setNew hb h.r2, cell_setNew hb h.r3, fz_set h.y0, fz_set h.y1, fz_set h.y2, fz_set h.y3⟩
theorem Md.gr {w w' : World} {b kb m lb : Nat} {r h e u k : Int} {t : ByteArray} (H : Md w b kb m lb r h e u k t) (g : Gr w w') : Md w' b kb m lb r h e u k t :=
 ⟨H.rs.gb g.gb, g.old H.k0, g.old H.k1, g.old H.k2, g.old H.m0, g.old H.m1, g.old H.m2, g.old H.m3, fz_old g H.z0, fz_old g H.z1, fz_old g H.z2, fz_old g H.z3, g.old H.l0, fz_old g H.lz⟩
theorem On.gr {w w' : World} {o : Nat} {x y z : Int} (H : On w o x y z) (g : Gr w w') : On w' o x y z :=
 ⟨g.old H.o0, g.old H.o1, g.old H.o2, fz_old g H.z0, fz_old g H.z1, fz_old g H.z2⟩
theorem Md.off {w : World} {b kb m lb o : Nat} {r h e u k : Int} {t : ByteArray} (H : Md w b kb m lb r h e u k t) (i : Nat) (v : Value) (h1 : o ≠ b) (h2 : o ≠ kb) (h3 : o ≠ m) (h4 : o ≠ lb) : Md (w.setCell ⟨o, i, none⟩ v) b kb m lb r h e u k t :=
 ⟨H.rs.set h1 _ _, cell_setNew h2 H.k0, cell_setNew h2 H.k1, cell_setNew h2 H.k2, cell_setNew h3 H.m0, cell_setNew h3 H.m1, cell_setNew h3 H.m2, cell_setNew h3 H.m3, fz_set H.z0, fz_set H.z1, fz_set H.z2, fz_set H.z3, cell_setNew h4 H.l0, fz_set H.lz⟩
theorem Md.adv {w : World} {b kb m lb : Nat} {r h e u k : Int} {t : ByteArray} (H : Md w b kb m lb r h e u k t) (h1 : m ≠ b) (h2 : m ≠ kb) (h3 : m ≠ lb) (u' k' : Int) : Md ((w.setCell ⟨m, 2, none⟩ (.int .i64 u')).setCell ⟨m, 3, none⟩ (.int .i64 k')) b kb m lb r h e u' k' t :=
 ⟨(H.rs.set h1 _ _).set h1 _ _, cell_setNew h2 (cell_setNew h2 H.k0), cell_setNew h2 (cell_setNew h2 H.k1), cell_setNew h2 (cell_setNew h2 H.k2), cell_setOff (by decide) (cell_setOff (by decide) H.m0), cell_setOff (by decide) (cell_setOff (by decide) H.m1), cell_setOff (by decide) (cell_setSame (has_of H.m2)), cell_setSame (has_set (has_of H.m3)), fz_set (fz_set H.z0), fz_set (fz_set H.z1), fz_set (fz_set H.z2), fz_set (fz_set H.z3), cell_setNew h3 (cell_setNew h3 H.l0), fz_set (fz_set H.lz)⟩
theorem Md.left {w : World} {b kb m lb : Nat} {r h e u k : Int} {t : ByteArray} (H : Md w b kb m lb r h e u k t) (h1 : lb ≠ b) (h2 : lb ≠ kb) (h3 : lb ≠ m) (t' : ByteArray) : Md (w.setCell ⟨lb, 0, none⟩ (.string t')) b kb m lb r h e u k t' :=
 ⟨H.rs.set h1 _ _, cell_setNew h2 H.k0, cell_setNew h2 H.k1, cell_setNew h2 H.k2, cell_setNew h3 H.m0, cell_setNew h3 H.m1, cell_setNew h3 H.m2, cell_setNew h3 H.m3, fz_set H.z0, fz_set H.z1, fz_set H.z2, fz_set H.z3, cell_setSame (has_of H.l0), fz_set H.lz⟩
theorem Md.nx {w w' : World} {b kb m lb : Nat} {r h e u k : Int} {t : ByteArray} (H : Md w b kb m lb r h e u k t) (h1 : lb ≠ b) (h2 : lb ≠ kb) (h3 : lb ≠ m) (hn : Nx lb t w w') : Md w' b kb m lb r h e u k (tL t) := by
 rcases hn with g | ⟨e1, g⟩
 ·exact (H.left h1 h2 h3 _).gr g
 ·rw [e1]; exact H.gr g
theorem On.off {w : World} {o g : Nat} {x y z : Int} (H : On w o x y z) (h : g ≠ o) (i : Nat) (v : Value) : On (w.setCell ⟨g, i, none⟩ v) o x y z :=
 ⟨cell_setNew h H.o0, cell_setNew h H.o1, cell_setNew h H.o2, fz_set H.z0, fz_set H.z1, fz_set H.z2⟩
theorem On.nx {w w' : World} {o lb : Nat} {x y z : Int} {t : ByteArray} (H : On w o x y z) (h : lb ≠ o) (hn : Nx lb t w w') : On w' o x y z := by
 rcases hn with g | ⟨_, g⟩
 ·exact (H.off h _ _).gr g
 ·exact H.gr g
theorem On.put {w : World} {o : Nat} {x y z : Int} (H : On w o x y z) (x' y' z' : Int) : On (((w.setCell ⟨o, 0, none⟩ (.int .u64 x')).setCell ⟨o, 1, none⟩ (.int .u8 y')).setCell ⟨o, 2, none⟩ (.int .u64 z')) o x' y' z' :=
 ⟨cell_setOff (by decide) (cell_setOff (by decide) (cell_setSame (has_of H.o0))), cell_setOff (by decide) (cell_setSame (has_set (has_of H.o1))), cell_setSame (has_set (has_set (has_of H.o2))), fz_set (fz_set (fz_set H.z0)), fz_set (fz_set (fz_set H.z1)), fz_set (fz_set (fz_set H.z2))⟩
theorem Nx.gr {W w w' : World} {lb : Nat} {t : ByteArray} (hn : Nx lb t w w') (g : Gr W w) (h : W.heap.size ≤ lb) : Gr W w' := by
 rcases hn with k | ⟨_, k⟩
 ·exact (g.setCell h _).trans k
 ·exact g.trans k
theorem Nx.size {w w' : World} {lb : Nat} {t : ByteArray} (hn : Nx lb t w w') : w.heap.size ≤ w'.heap.size := by
 rcases hn with k | ⟨_, k⟩
 ·have := k.size; rw [World.size_setCell] at this; exact this
 ·exact k.size
theorem on_new (w : World) (x y z : Int) : On (w.alloc (.cells #[.int .u64 x, .int .u8 y, .int .u64 z] 74)) w.heap.size x y z :=
 ⟨kb, kb, kb, kb, kb, kb⟩
theorem md_new {w : World} {b : Nat} (h : Rs w b) (r n e : Int) (s : ByteArray) : Md (((w.alloc (.cells #[.int .u64 r, .int .u64 n, .int .u64 e] 70)).alloc (.cells #[.int .i64 2, .int .i64 0, .int .i64 0, .int .i64 0] 24)).alloc (.cells #[.string s] 9)) b w.heap.size (w.heap.size + 1) (w.heap.size + 1 + 1) r n e 0 0 s := by
 obtain ⟨r0, r1, r2, r3, y0, y1, y2, y3⟩ := h
 exact ⟨⟨kb, kb, kb, kb, kb, kb, kb, kb⟩, kb, kb, kb, kb, kb, kb, kb, kb, kb, kb, kb, kb, kb⟩
structure Mk (w : World) (m : Nat) (a z u k : Int) : Prop where
 c0 : w.cell? ⟨m, 0, none⟩ = some (.int .i64 a)
 c1 : w.cell? ⟨m, 1, none⟩ = some (.int .i64 z)
 c2 : w.cell? ⟨m, 2, none⟩ = some (.int .i64 u)
 c3 : w.cell? ⟨m, 3, none⟩ = some (.int .i64 k)
 z1 : w.frozen? ⟨m, 1, none⟩ = false
theorem Mk.gr {w w' : World} {m : Nat} {a z u k : Int} (H : Mk w m a z u k) (g : Gr w w') : Mk w' m a z u k :=
 ⟨g.old H.c0, g.old H.c1, g.old H.c2, g.old H.c3, fz_old g H.z1⟩
theorem Md.mk0 {w : World} {b kb m lb : Nat} {r h e u k : Int} {t : ByteArray} (H : Md w b kb m lb r h e u k t) : Mk (w.setCell ⟨m, 0, none⟩ (.int .i64 0)) m 0 0 u k :=
 ⟨cell_setSame (has_of H.m0), cell_setOff (by decide) H.m1, cell_setOff (by decide) H.m2, cell_setOff (by decide) H.m3, fz_set H.z1⟩
theorem gr_fin {w x : World} {b : Nat} (h : Gr w x) (hb : w.heap.size ≤ b) (v0 v1 v2 v3 : Value) : Gr w ((((x.setCell ⟨b, 0, none⟩ v0).setCell ⟨b, 1, none⟩ v1).setCell ⟨b, 2, none⟩ v2).setCell ⟨b, 3, none⟩ v3) :=
 (((h.setCell hb _).setCell hb _).setCell hb _).setCell hb _
end Go.Proofs.YtnbbfeknbfohhaaGreatDoor
namespace Go.Proofs.YtnbbfeknbfohhaaGreatDoor
open Go.RowKit
set_option maxRecDepth 100000 in
theorem sample_yes_i {o : O7} (H : o.I) (HI : o.In) {mu inv scale : Int} (hm : Wo mu) (hi : Wo inv) (hs : Wo scale) (s : ByteArray) (hz : s.size ≤ 20000) (hn : isC mu inv scale = true) {w : World} (hw : Fm w) (hT : Tl w) (hD : Dc w) :
  Calls Tryz.prog 10 #[.int .u64 mu, .int .u64 inv, .int .u64 scale, .string s] w fun e w' => ∃ r, Tried (o.accAt mu inv scale s) (o.zAt mu s) s.size r ∧ e = .returned (smpV r) ∧ Gr w w' := by
 have hf : ∀ (z fl : Int) (w : World), (Instr.field 41 (.agg #[.int .u64 z, .int .i64 fl]) 0).run Tryz.prog w = .ok (.int .u64 z) w := fun z fl w => by kernel_rfl
 have HC : Hid (∀ w', Gr w w' → Calls Tryz.prog 40 #[.int .u64 mu, .int .u64 inv, .int .u64 scale] w' fun e w'' => e = .returned (.bool true) ∧ Gr w' w'') := fun w' hg => by have := isCurve_i hm hi hs (hw.gr hg); rw [hn] at this; exact this
 have hrm := HI.rint hm
 have hab := HI.sub hm hrm
 have hii := HI.mul hi hi
 have hnw := HI.mul hii (Wo.c hfC)
 have hsc := HI.mul hs (Wo.c c63)
 have hsh := HI.fix hsc
 have HR : Hid (∀ w', Gr w w' → Calls Tryz.prog 41 #[.int .i64 1, .int .i64 4, .int .u64 mu, .bool false] w' fun e w'' => ∃ fl : Int, e = .returned (.agg #[.int .u64 (o.rint mu), .int .i64 fl]) ∧ Gr w' w'') := fun w' hg => H.rint.out mu hm w' (hw.gr hg)
 have HA : Hid (∀ w', Gr w w' → Calls Tryz.prog 42 #[.int .u64 mu, .int .u64 (o.rint mu)] w' fun e w'' => e = .returned (.int .u64 (o.above mu)) ∧ Gr w' w'') := fun w' hg => H.minus.out _ _ hm hrm w' (hw.gr hg)
 have HM1 : Hid (∀ w', Gr w w' → Calls Tryz.prog 43 #[.int .u64 inv, .int .u64 inv] w' fun e w'' => e = .returned (.int .u64 (o.mul inv inv)) ∧ Gr w' w'') := fun w' hg => H.times.out _ _ hi hi w' (hw.gr hg)
 have HM2 : Hid (∀ w', Gr w w' → Calls Tryz.prog 43 #[.int .u64 (o.mul inv inv), .int .u64 4602678819172646912] w' fun e w'' => e = .returned (.int .u64 (o.narrow inv)) ∧ Gr w' w'') := fun w' hg => H.times.out _ _ hii (Wo.c _) w' (hw.gr hg)
 have HM3 : Hid (∀ w', Gr w w' → Calls Tryz.prog 43 #[.int .u64 scale, .int .u64 4890909195324358656] w' fun e w'' => e = .returned (.int .u64 (o.mul scale c63)) ∧ Gr w' w'') := fun w' hg => H.times.out _ _ hs (Wo.c _) w' (hw.gr hg)
 have HF : Hid (∀ w', Gr w w' → Calls Tryz.prog 44 #[.int .u64 (o.mul scale c63)] w' fun e w'' => e = .returned (.int .u64 (o.shr scale)) ∧ Gr w' w'') := fun w' hg => H.fix.out _ hsc w' (hw.gr hg)
 have HT : Hid (∀ w', Gr w w' → Calls Tryz.prog 23 #[.int .i64 1, .int .i64 2, .int .i64 1, .int .u64 (o.rint mu)] w' fun e w'' => ∃ fl : Int, e = .returned (.agg #[.int .u64 (o.whole (o.rint mu)), .int .i64 fl]) ∧ Gr w' w'') := fun w' hg => H.whole.out _ hm (of_decide_eq_true (isC_parts hn).1) w' (hw.gr hg)
 have HX : Hid (∀ k, ∀ w', Gr w w' → Calls Tryz.prog 46 #[crvV (o.above mu) (o.narrow inv) (o.shr scale), tryV (num s (17 * k) 8) (byt s (17 * k + 8)) (num s (17 * k + 9) 8)] w' fun e w'' => e = .returned (.tuple #[.int .i64 (zOf (baseN (num s (17 * k) 8)) (byt s (17 * k + 8))), .bool (o.accAt mu inv scale s k)]) ∧ Gr w' w'') := fun k w' hg =>
  accepts_i H HI hab hnw hsh (num_8 s _) (byt_in s _).1 (byt_in s _).2 (num_8 s _) (hw.gr hg) (hT.below hg.below) (hD.below hg.below)
 have HZ : Hid (∀ k, o.zAt mu s k = wrap64 (zOf (baseN (num s (17 * k) 8)) (byt s (17 * k + 8)) + wrap64 (o.whole (o.rint mu)))) := fun k => rfl
 have hsz : ¬ (20000 : Int) < s.size := by omega
 generalize o.whole (o.rint mu) = T at *
 generalize o.accAt mu inv scale s = acc at *
 generalize o.zAt mu s = zz at *
 generalize o.shr scale = sh at *
 generalize o.mul scale c63 = sc at *
 generalize o.narrow inv = nw at *
 generalize o.above mu = ab at *
 generalize o.mul inv inv = ii at *
 generalize o.rint mu = rm at *
 clear H HI hn hm hi hs hw hT hD hrm hab hii hnw hsc hsh
 go_enter Tryz.func10, Tryz.ntmps10
 go_upto_region 3 with (go_at_call 40; refine (HC.out _ kr).mono ?_; rintro e w1 ⟨rfl, hg_w1⟩)
 go_upto_region 4 with (go_at_call 41; refine (HR.out _ kr).mono ?_; rintro e w2 ⟨f2, rfl, hg_w2⟩)
 go_upto_region 5 with (first
  | (go_at_call 42; refine (HA.out _ kr).mono ?_; rintro e w3 ⟨rfl, hg_w3⟩)
  | (go_at_call 43; first | (with_reducible refine (HM1.out _ kr).mono ?_; rintro e w4 ⟨rfl, hg_w4⟩) | (with_reducible refine (HM2.out _ kr).mono ?_; rintro e w5 ⟨rfl, hg_w5⟩) | (with_reducible refine (HM3.out _ kr).mono ?_; rintro e w6 ⟨rfl, hg_w6⟩))
  | (go_at_call 44; refine (HF.out _ kr).mono ?_; rintro e w7 ⟨rfl, hg_w7⟩))
 have G7 : Hid (Gr (w.alloc (.cells #[.int .i64 0, .int .i64 0, .int .i64 0, .int .i64 0] 24)) w7) := (show Gr _ w7 from kr)
 clear hg_w1 hg_w2 hg_w3 hg_w4 hg_w5 hg_w6 hg_w7 HC HR HA HM1 HM2 HM3 HF
 go_upto_region 7 with (go_at_call 45; refine (triesOf_i _ _).mono ?_; rintro e w8 ⟨rfl, hw8⟩)
 have hM8 := md_new ((rs_new w).gb G7.out.gb) ab nw sh s
 have G8 : Hid (Gr w w8) := (show Gr w w8 from by subst hw8; have := G7.out; exact kr)
 have hb7 : w.heap.size < w7.heap.size := by have := G7.out.size; simp only [World.size_alloc] at this; omega
 have hs8 : w8.heap.size = w7.heap.size + 1 + 1 + 1 := by subst hw8; simp only [World.size_alloc]
 rw [← hw8] at hM8 ⊢
 have HM8 : Hid _ := hM8
 have HN8 : Hid (Calls Tryz.prog 131 #[.pointer (some ⟨w7.heap.size + 1 + 1, 0, none⟩)] w8 fun e w' => e = .returned (.tuple #[tryV (tU s) (tC s) (tV s), .bool (decide (17 ≤ s.size))]) ∧ Nx (w7.heap.size + 1 + 1) s w8 w') := next_i s _ (by omega) hM8.l0 hM8.lz
 clear hM8 hw8 G7
 obtain ⟨b, hb⟩ : ∃ b, w.heap.size = b := ⟨_, rfl⟩
 obtain ⟨kb, hkb⟩ : ∃ b, w7.heap.size = b := ⟨_, rfl⟩
 obtain ⟨m, hm⟩ : ∃ b, kb + 1 = b := ⟨_, rfl⟩
 obtain ⟨lb, hlb⟩ : ∃ b, m + 1 = b := ⟨_, rfl⟩
 rw [hkb] at HN8 HM8 hb7 hs8 ⊢
 rw [hb] at HM8 hb7 ⊢
 rw [hm] at HN8 HM8 hs8 ⊢
 rw [hlb] at HN8 HM8 hs8 ⊢
 go_wp2_with (go_at_call 131; refine HN8.out.mono ?_; rintro e w9 ⟨rfl, hnx⟩)
 have hM9 := HM8.out.nx (show lb ≠ b by omega) (show lb ≠ kb by omega) (show lb ≠ m by omega) hnx
 have hG9 : Gr w w9 := hnx.gr G8.out (by omega)
 have hs9 := hnx.size
 have HM0 : Hid (Md (w9.alloc (.cells #[.int .u64 (tU s), .int .u8 (tC s), .int .u64 (tV s)] 74)) b kb m lb ab nw sh 0 0 (tL s)) := hM9.gr kr
 have HO0 : Hid _ := on_new w9 (tU s) (tC s) (tV s)
 have HG0 : Hid (Gr w (w9.alloc (.cells #[.int .u64 (tU s), .int .u8 (tC s), .int .u64 (tV s)] 74))) := (show Gr w _ from kr)
 clear hM9 hG9 HM8 HN8 hnx G8
 go_loopw [13, 14] (fun s13 s14 wr => ∃ (k : Nat) (t : ByteArray) (ob : Nat), Tail s k t ∧ lb < ob ∧ s13 = .pointer (some ⟨ob, 0, none⟩) ∧ s14 = .bool (decide (17 ≤ t.size)) ∧ (∀ j, j < k → acc j = false) ∧ Md wr b kb m lb ab nw sh (17 * (k : Int)) k (tL t) ∧ On wr ob (tU t) (tC t) (tV t) ∧ Gr w wr) (fun _ _ wr => s.size + 17 - usedOf wr m)
 case atStart => exact ⟨0, s, w9.heap.size, ⟨by omega, fun i => by congr 1; omega⟩, by omega, rfl, rfl, fun j hj => absurd hj (by omega), HM0.out, HO0.out, HG0.out⟩
 case round =>
  obtain ⟨k, t, ob, ht, hob, rfl, rfl, ha, hM, hO, hG⟩ := hrel
  rename_i wr
  have HA : Hid (∀ j, j < k → acc j = false) := ha
  have HG : Hid (Gr w wr) := hG
  obtain ⟨u, hu⟩ : ∃ u : Int, 17 * (k : Int) = u := ⟨_, rfl⟩
  rw [hu] at hM
  have HMr : Hid (Md wr b kb m lb ab nw sh u k (tL t)) := hM
  have HOr : Hid (On wr ob (tU t) (tC t) (tV t)) := hO
  have p2 := hM.m2
  have HU : Hid (usedOf wr m = u.toNat) := by show _ = _; simp only [usedOf, p2]
  have hsz := ht.1
  clear ha hG HM0 HO0 HG0
  by_cases hle : 17 ≤ t.size
  ·have hen : decide (17 ≤ t.size) = true := decide_eq_true hle
   rw [hen]
   have hnext := ht.next hle
   have hL : tL t = t.extract 17 t.size := if_pos hle
   have hU : tU t = num s (17 * k) 8 := (if_pos hle).trans (ht.num 0 8)
   have hC : tC t = byt s (17 * k + 8) := (if_pos hle).trans (ht.2 8)
   have hV : tV t = num s (17 * k + 9) 8 := (if_pos hle).trans (ht.num 9 8)
   rw [hU, hC, hV] at HOr
   have HXk := HX.out k
   have HZk := HZ.out k
   have hzn := zOf_in _ (byt s (17 * k + 8)) (baseN_le (num s (17 * k) 8))
   have hn8 := num_8 s (17 * k)
   have hb8 := byt_in s (17 * k + 8)
   have hv8 := num_8 s (17 * k + 9)
   generalize zOf (baseN (num s (17 * k) 8)) (byt s (17 * k + 8)) = zv at *
   generalize num s (17 * k) 8 = xu at *
   generalize num s (17 * k + 9) 8 = xv at *
   generalize byt s (17 * k + 8) = xc at *
   have HXX : Hid _ := HXk
   have HZZ : Hid _ := HZk
   have HTL : Hid (Tail s (k + 1) (tL t)) := by show Tail _ _ _; rw [hL]; exact hnext
   have hTs : (tL t).size ≤ 1048576 := by have := HTL.out.1; omega
   generalize tL t = t' at *
   have p3 := hM.m3
   have z2 := hM.z2
   have z3 := hM.z3
   have u0 : 0 ≤ u := by omega
   have u1 : u ≤ 20000 := by omega
   have k1 : (k : Int) ≤ 20000 := by omega
   clear HXk HZk HX HZ hen hnext hL hU hC hV hM hO
   go_upto_region 12 with fail
   obtain ⟨wa, hwa⟩ : ∃ x, (wr.setCell ⟨m, 2, none⟩ (.int .i64 (u + 17))).setCell ⟨m, 3, none⟩ (.int .i64 ((k : Int) + 1)) = x := ⟨_, rfl⟩
   have HMa : Hid (Md wa b kb m lb ab nw sh (u + 17) ((k : Int) + 1) t') := by rw [← hwa]; exact HMr.out.adv (by omega) (by omega) (by omega) _ _
   have HOa : Hid (On wa ob xu xc xv) := by rw [← hwa]; exact (HOr.out.off (by omega) _ _).off (by omega) _ _
   have HGa : Hid (Gr w wa) := by rw [← hwa]; exact (HG.out.setCell (show w.heap.size ≤ m by omega) _).setCell (show w.heap.size ≤ m by omega) _
   rw [hwa]
   clear hwa p2 p3 z2 z3 HMr HOr HG
   have k0 := HMa.out.k0
   have k1' := HMa.out.k1
   have k2 := HMa.out.k2
   have o0 := HOa.out.o0
   have o1 := HOa.out.o1
   have o2 := HOa.out.o2
   go_upto_region 13 with (go_at_call 46; refine (HXX.out _ HGa.out).mono ?_; rintro e wb ⟨rfl, hg_wb⟩)
   have HMb : Hid (Md wb b kb m lb ab nw sh (u + 17) ((k : Int) + 1) t') := HMa.out.gr hg_wb
   have HOb : Hid (On wb ob xu xc xv) := HOa.out.gr hg_wb
   have HGb : Hid (Gr w wb) := HGa.out.trans hg_wb
   clear HMa HOa HGa k0 k1' k2 o0 o1 o2 hg_wb HXX
   cases hacc : acc k
   ·have o0 := HOb.out.o0
    have o1 := HOb.out.o1
    have o2 := HOb.out.o2
    have hlo := cell_size HMb.out.l0
    have HNx : Hid (∀ wc, Gr wb wc → Calls Tryz.prog 131 #[.pointer (some ⟨lb, 0, none⟩)] wc fun e w' => e = .returned (.tuple #[tryV (tU t') (tC t') (tV t'), .bool (decide (17 ≤ t'.size))]) ∧ Nx lb t' wc w') := fun wc hg => next_i t' lb hTs (HMb.out.gr hg).l0 (HMb.out.gr hg).lz
    have HMc : Hid (Md (wb.alloc (.cells #[.int .u64 xu, .int .u8 xc, .int .u64 xv] 74)) b kb m lb ab nw sh (u + 17) ((k : Int) + 1) t') := HMb.out.gr kr
    have HOc : Hid _ := on_new wb xu xc xv
    have HGc : Hid (Gr w (wb.alloc (.cells #[.int .u64 xu, .int .u8 xc, .int .u64 xv] 74))) := (show Gr w _ from by have := HGb.out; exact kr)
    clear HMb HOb HT
    go_wp2_with (go_at_call 131; refine (HNx.out _ kr).mono ?_; rintro e wd ⟨rfl, hnx⟩; have HMd : Hid _ := HMc.out.nx (show lb ≠ b by omega) (show lb ≠ kb by omega) (show lb ≠ m by omega) hnx; have HOd : Hid _ := HOc.out.nx (show lb ≠ wb.heap.size by omega) hnx; have HGd : Hid (Gr w wd) := hnx.gr HGc.out (by omega); have d0 := HOd.out.o0; have d1 := HOd.out.o1; have d2 := HOd.out.o2; have e0 := HOd.out.z0; have e1 := HOd.out.z1; have e2 := HOd.out.z2)
    go_roundw
    case rel =>
     refine ⟨k + 1, t', wb.heap.size, HTL.out, hlo, rfl, rfl, fun j hj => ?_, ?_, HOd.out.put _ _ _, ?_⟩
     ·rcases Nat.lt_or_ge j k with h | h
      ·exact HA.out j h
      ·obtain rfl : j = k := by omega
       exact hacc
     ·rw [show 17 * ((k + 1 : Nat) : Int) = u + 17 by omega]
      exact ((HMd.out.off 0 _ (by omega) (by omega) (by omega) (by omega)).off 1 _ (by omega) (by omega) (by omega) (by omega)).off 2 _ (by omega) (by omega) (by omega) (by omega)
     ·exact ((HGd.out.setCell (show w.heap.size ≤ wb.heap.size by omega) _).setCell (show w.heap.size ≤ wb.heap.size by omega) _).setCell (show w.heap.size ≤ wb.heap.size by omega) _
    case measure =>
     have h1 := HU.out
     have p2 := (((HMd.out.off 0 (.int .u64 (tU t')) (show wb.heap.size ≠ b by omega) (show wb.heap.size ≠ kb by omega) (show wb.heap.size ≠ m by omega) (show wb.heap.size ≠ lb by omega)).off 1 (.int .u8 (tC t')) (show wb.heap.size ≠ b by omega) (show wb.heap.size ≠ kb by omega) (show wb.heap.size ≠ m by omega) (show wb.heap.size ≠ lb by omega)).off 2 (.int .u64 (tV t')) (show wb.heap.size ≠ b by omega) (show wb.heap.size ≠ kb by omega) (show wb.heap.size ≠ m by omega) (show wb.heap.size ≠ lb by omega)).m2
     show s.size + 17 - usedOf _ m < s.size + 17 - usedOf wr m
     simp only [usedOf] at h1 ⊢
     rw [p2, h1]
     show s.size + 17 - (u + 17).toNat < _
     omega
   ·have m0 := HMb.out.m0
    have y0 := HMb.out.z0
    go_upto_region 15 with fail
    obtain ⟨wx, hwx⟩ : ∃ x, wb.setCell ⟨m, 0, none⟩ (.int .i64 0) = x := ⟨_, rfl⟩
    have HK : Hid (Mk wx m 0 0 (u + 17) ((k : Int) + 1)) := by rw [← hwx]; exact HMb.out.mk0
    have HRs : Hid (Rs wx b) := by rw [← hwx]; exact HMb.out.rs.set (by omega) _ _
    have HGx : Hid (Gr w wx) := by rw [← hwx]; exact HGb.out.setCell (show w.heap.size ≤ m by omega) _
    rw [hwx]
    clear hwx m0 y0 HMb HOb HGb
    go_upto_region 16 with (go_at_call 23; refine (HT.out _ HGx.out).mono ?_; rintro e wy ⟨f6, rfl, hg_wy⟩; have hK := HK.out.gr hg_wy; have c0 := hK.c0; have c1 := hK.c1; have c2 := hK.c2; have c3 := hK.c3; have z1 := hK.z1)
    obtain ⟨r0, r1, r2, r3, y0, y1, y2, y3⟩ := HRs.out.gb hg_wy.gb
    have HRy : Hid (Rs wy b) := HRs.out.gb hg_wy.gb
    have hmb : m ≠ b := by omega
    clear hK
    go_wp2
    have hw : zz k = wrap64 (zv + wrap64 T) := HZZ.out
    rw [← hw]
    obtain ⟨e0, e1, e2, e3⟩ := fin4 (HRy.out.set hmb 1 (.int .i64 (zz k))) (.int .i64 0) (.int .i64 (zz k)) (.int .i64 (u + 17)) (.int .i64 ((k : Int) + 1))
    refine bodyPost_ret (v := smpV ⟨0, zz k, u + 17, (k : Int) + 1⟩) (by simp [results, Tryz.results10, go_sem, e0, e1, e2, e3]) rfl ⟨_, .inl ⟨k, by have := HTL.out.1; omega, hacc, HA.out, by rw [← hu]⟩, rfl, ?_⟩
    exact gr_fin ((HGx.out.trans hg_wy).setCell (show w.heap.size ≤ m by omega) _) (by omega) _ _ _ _
  ·have hen : decide (17 ≤ t.size) = false := decide_eq_false hle
   rw [hen]
   obtain ⟨⟨r0, r1, r2, r3, y0, y1, y2, y3⟩, _, _, _, m0, m1, m2, m3, _, _, _, _, _, _⟩ := hM
   clear HX HZ HT hO HOr
   go_wp2
   obtain ⟨e0, e1, e2, e3⟩ := fin4 HMr.out.rs (.int .i64 2) (.int .i64 0) (.int .i64 u) (.int .i64 k)
   refine bodyPost_ret (v := smpV ⟨2, 0, u, (k : Int)⟩) (by simp [results, Tryz.results10, go_sem, e0, e1, e2, e3]) rfl ⟨_, .inr ⟨k, by omega, by omega, HA.out, by rw [← hu]⟩, rfl, ?_⟩
   exact gr_fin HG.out (by omega) _ _ _ _
end Go.Proofs.YtnbbfeknbfohhaaGreatDoor
