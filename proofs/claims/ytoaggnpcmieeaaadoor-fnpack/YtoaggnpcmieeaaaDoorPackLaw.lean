/- laws.FnPack. -/
import Derived.Test.YtoaggnpcmieeaaaDoorPackMath
import Derived.Test.YtoaggnpcmieeaaaDoorF2E
import Derived.Test.YtoaggnpcmieeaaaDoorDrawR
import Derived.Laws.StructEq
import Derived.Deep.RegionHeld3
set_option linter.unusedVariables false
set_option linter.unusedSimpArgs false
namespace Go.Proofs.YtoaggnpcmieeaaaDoor
open Go.RowKit

theorem eqResS (a b c d : Int) (w : World) : (Op.equalIn 10000 32 (.agg #[.int .u64 a, .int .i64 b]) (.agg #[.int .u64 c, .int .i64 d])).run Tryd.prog w = .ok (a == c && b == d) w := by
  have u3 := Tryd.underlying22
  have a3 := Tryd.isAgg22
  have z3 := Tryd.sizeOf22
  have u4 := Tryd.underlying3
  have a4 := Tryd.isAgg3
  have z4 := Tryd.sizeOf3
  have hS : Tryd.prog.underlying 32 = some (.struct (Tryd.prog.fieldsOf 32)) := by kernel_rfl
  rw [show (10000 : Nat) = 9999 + 1 from rfl, run_equalIn_agg w 9999 32 _ _ hS (by kernel_rfl)]
  simp only [Program.fieldsOf, Tryd.underlying32]
  go_simp
  by_cases h1 : a = c <;> by_cases h2 : b = d <;> simp [h1, h2]

theorem eqPartsS (c s x g : Int) (w : World) : (Op.equalIn 10000 24 (.agg #[.int .i64 c, .int .i64 s, .int .i64 x, .int .u64 g]) (.agg #[.int .i64 c, .int .i64 s, .int .i64 x, .int .u64 g])).run Tryd.prog w = .ok true w := by
  have u3 := Tryd.underlying22
  have a3 := Tryd.isAgg22
  have z3 := Tryd.sizeOf22
  have u4 := Tryd.underlying3
  have a4 := Tryd.isAgg3
  have z4 := Tryd.sizeOf3
  have hS : Tryd.prog.underlying 24 = some (.struct (Tryd.prog.fieldsOf 24)) := by kernel_rfl
  rw [show (10000 : Nat) = 9999 + 1 from rfl, run_equalIn_agg w 9999 24 _ _ hS (by kernel_rfl)]
  simp only [Program.fieldsOf, Tryd.underlying24]
  go_simp

/-- Unpack, both, at any word; and where it is a number RoundPack gives it back. -/
theorem unp_back (f W : Int) (h0 : 0 ≤ W) (h1 : W < 18446744073709551616) : ∃ c s x g : Int, (0 ≤ c ∧ c ≤ 4) ∧
    (∀ w, Calls Tryd.prog 7 #[.int .i64 f, .int .u64 W] w fun e w' => e = .returned (.agg #[.int .i64 c, .int .i64 s, .int .i64 x, .int .u64 g]) ∧ Gr w w') ∧
    (∀ w, Fm w → Calls Tryd.prog 8 #[.int .i64 f, .int .u64 W] w fun e w' => e = .returned (.agg #[.int .i64 c, .int .i64 s, .int .i64 x, .int .u64 g]) ∧ Gr w w') ∧
    (c ≤ 1 → ∀ mode w, 0 ≤ mode → mode ≤ 4 → Fm w → Calls Tryd.prog 14 #[.int .i64 f, .int .i64 mode, .int .i64 s, .int .i64 x, .agg #[.int .u64 0, .int .u64 g], .bool false] w fun y w' => y = .returned (.agg #[.int .u64 W, .int .i64 0]) ∧ Gr w w') := by
  rcases fit_or f W h0 h1 with ⟨p, mx, one, inf, sg, nan, hf, hW⟩ | hno
  · obtain ⟨c, s, x, g, hu⟩ := unpack_is hf W h0 hW
    have hc : 0 ≤ c ∧ c ≤ 4 := by
      obtain ⟨v, _, hd⟩ := hu
      rcases hd with h | h | h | h | ⟨_, _, h, _⟩ <;> omega
    refine ⟨c, s, x, g, hc, fun w => (specUnpack_fit hf W h0 hW w).mono ?_, fun w hw => (implUnpack_fit hf W h0 hW hw).mono ?_, fun k mode w m0 m1 hw => implRP_back hf W c s x g hu k mode m0 m1 hw⟩
    all_goals
      rintro e w' ⟨c', s', x', g', hu', rfl, hg⟩
      obtain ⟨rfl, rfl, rfl, rfl⟩ := UnpackIs.one hf hu hu'
      exact ⟨rfl, hg⟩
  · refine ⟨4, 0, 0, 0, by omega, fun w => specUnpack_no f W h0 hno w, fun w hw => ?_, fun k => by omega⟩
    rcases hno with hno | ⟨rfl, hno⟩
    · exact implUnpack_none f W hno w
    · exact implUnpack_wide W hno h1 hw

set_option maxRecDepth 1000000 in
set_option maxHeartbeats 8000000 in
theorem lawPack (a : Option Addr) (len cap : Nat) (w : World) (hC : CodeRow w a len) (hw : Fm w) :
    Calls Tryd.prog 6 #[.slice a len cap] w fun e w' => e = .returned (.bool true) ∧ Gb w w' := by
  have hlen : len ≤ 1048576 := hC.1
  have HC : Hid (∀ w', Gr w w' → CodeRow w' a len) := fun w' hg => hC.gr hg
  have HW : Hid (∀ w', Gb w w' → Fm w') := fun w' hg => hw.gb hg
  clear hC hw
  go_enter Tryd.func6, Tryd.ntmps6
  go_upto_region 4 with (go_at_call 16; refine (drawUnpack_any a len cap _ (HC.out _ kr)).mono ?_; rintro x w' ⟨f, W, f0, f1, W0, W1, rfl, hw⟩; subst hw)
  obtain ⟨c, s, x, g, cb, HA, HB, HD⟩ := unp_back f W W0 W1
  have HSp : Hid (∀ w, Calls Tryd.prog 7 #[.int .i64 f, .int .u64 W] w fun e w' => e = .returned (.agg #[.int .i64 c, .int .i64 s, .int .i64 x, .int .u64 g]) ∧ Gr w w') := HA
  have HIm : Hid (∀ w', Gr w w' → Calls Tryd.prog 8 #[.int .i64 f, .int .u64 W] w' fun e w'' => e = .returned (.agg #[.int .i64 c, .int .i64 s, .int .i64 x, .int .u64 g]) ∧ Gr w' w'') := fun w' hg => HB w' (HW.out w' hg.gb)
  have HRP : Hid (c ≤ 1 → ∀ mode w', 0 ≤ mode → mode ≤ 4 → Gr w w' → Calls Tryd.prog 14 #[.int .i64 f, .int .i64 mode, .int .i64 s, .int .i64 x, .agg #[.int .u64 0, .int .u64 g], .bool false] w' fun y w'' => y = .returned (.agg #[.int .u64 W, .int .i64 0]) ∧ Gr w' w'') := fun k mode w' m0 m1 hg => HD k mode w' m0 m1 (HW.out w' hg.gb)
  have hqP := eqPartsS c s x g
  have hqR : ∀ w, (Op.equalIn 10000 32 (.agg #[.int .u64 W, .int .i64 0]) (.agg #[.int .u64 W, .int .i64 0])).run Tryd.prog w = .ok true w := fun w => by rw [eqResS]; simp
  clear HA HB HD
  go_upto_region 5 with (go_at_call 7; refine (HSp.out _).mono ?_; rintro y w1 ⟨rfl, hg_w1⟩)
  go_upto_region 6 with (go_at_call 8; refine (HIm.out _ kr).mono ?_; rintro y w2 ⟨rfl, hg_w2⟩; have q0 : w2.cell? ⟨w1.heap.size, 0, none⟩ = some (.int .i64 c) := kq; have q1 : w2.cell? ⟨w1.heap.size, 1, none⟩ = some (.int .i64 s) := kq; have q2 : w2.cell? ⟨w1.heap.size, 2, none⟩ = some (.int .i64 x) := kq; have q3 : w2.cell? ⟨w1.heap.size, 3, none⟩ = some (.int .u64 g) := kq; have Q0 := (fun ob => cell_alloc ob q0); have Q1 := (fun ob => cell_alloc ob q1); have Q2 := (fun ob => cell_alloc ob q2); have Q3 := (fun ob => cell_alloc ob q3))
  go_wp2_with fail
  go_loopw [7] (fun i wr => ∃ k : Nat, k ≤ 5 ∧ i = .int .i64 k ∧ Gr w wr ∧ wr.cell? ⟨w1.heap.size, 0, none⟩ = some (.int .i64 c) ∧ wr.cell? ⟨w1.heap.size, 1, none⟩ = some (.int .i64 s) ∧ wr.cell? ⟨w1.heap.size, 2, none⟩ = some (.int .i64 x) ∧ wr.cell? ⟨w1.heap.size, 3, none⟩ = some (.int .u64 g) ∧ wr.cell? ⟨w2.heap.size, 0, none⟩ = some (.int .i64 c) ∧ wr.cell? ⟨w2.heap.size, 1, none⟩ = some (.int .i64 s) ∧ wr.cell? ⟨w2.heap.size, 2, none⟩ = some (.int .i64 x) ∧ wr.cell? ⟨w2.heap.size, 3, none⟩ = some (.int .u64 g)) (fun i _ => 5 - (intOf i).toNat)
  case atStart => exact ⟨0, by omega, rfl, kr, kq, kq, kq, kq, kq, kq, kq, kq⟩
  case round =>
    obtain ⟨k, hk, rfl, hgr, t0, t1, t2, t3, t4, t5, t6, t7⟩ := hrel
    by_cases hgo : k < 5 ∧ c ≤ 1
    · obtain ⟨hk5, hc1⟩ := hgo
      have hk5' : (k : Int) ≤ 4 := by omega
      go_wp2_with (go_at_call 14; refine (HRP.out hc1 (k : Int) _ (by omega) (by omega) kr).mono ?_; rintro y w3 ⟨rfl, hg_w3⟩; have u0 : w3.cell? ⟨w1.heap.size, 0, none⟩ = some (.int .i64 c) := kq; have u1 : w3.cell? ⟨w1.heap.size, 1, none⟩ = some (.int .i64 s) := kq; have u2 : w3.cell? ⟨w1.heap.size, 2, none⟩ = some (.int .i64 x) := kq; have u3 : w3.cell? ⟨w1.heap.size, 3, none⟩ = some (.int .u64 g) := kq; have v0 : w3.cell? ⟨w2.heap.size, 0, none⟩ = some (.int .i64 c) := kq; have v1 : w3.cell? ⟨w2.heap.size, 1, none⟩ = some (.int .i64 s) := kq; have v2 : w3.cell? ⟨w2.heap.size, 2, none⟩ = some (.int .i64 x) := kq; have v3 : w3.cell? ⟨w2.heap.size, 3, none⟩ = some (.int .u64 g) := kq)
      go_roundw
      case rel => exact ⟨k + 1, by omega, by go_num, kr, kq, kq, kq, kq, kq, kq, kq, kq⟩
      case measure => simp [intOf] <;> omega
    · have HN : Hid (¬ (k < 5 ∧ c ≤ 1)) := hgo
      clear hgo
      rcases (show 4 < (k : Int) ∨ ((k : Int) ≤ 4 ∧ 1 < c) by have := HN.out; omega) with hx | ⟨hx, hx2⟩
      all_goals
        go_upto_region 14 with (go_at_call 17; refine (drawRP_any a len cap _ (HC.out _ kr)).mono ?_; rintro y w5 ⟨f', m', s', e', h', l', b', F', M', S', E', H', L', rfl, hg_w5⟩)
        obtain ⟨hn, rfl⟩ := Int.eq_ofNat_of_zero_le H'.1
        obtain ⟨ln, rfl⟩ := Int.eq_ofNat_of_zero_le L'.1
        obtain ⟨z, fl, RA, RB⟩ := rp_same f' m' s' e' hn ln b' (by omega) (by omega)
        generalize ((hn : Nat) : Int) = h' at *
        generalize ((ln : Nat) : Int) = l' at *
        have HS2 : Hid (∀ w, Calls Tryd.prog 12 #[.int .i64 f', .int .i64 m', .int .i64 s', .int .i64 e', .agg #[.int .u64 h', .int .u64 l'], .bool b'] w fun x w' => x = .returned (.agg #[.int .u64 z, .int .i64 fl]) ∧ Gb w w') := RA
        have HI2 : Hid (∀ w', Gb w w' → Calls Tryd.prog 14 #[.int .i64 f', .int .i64 m', .int .i64 s', .int .i64 e', .agg #[.int .u64 h', .int .u64 l'], .bool b'] w' fun x w'' => x = .returned (.agg #[.int .u64 z, .int .i64 fl]) ∧ Gr w' w'') := fun w' hg => RB w' (HW.out w' hg)
        have hqZ : ∀ w, (Op.equalIn 10000 32 (.agg #[.int .u64 z, .int .i64 fl]) (.agg #[.int .u64 z, .int .i64 fl])).run Tryd.prog w = .ok true w := fun w => by rw [eqResS]; simp
        have hgb5 : Gb w w5 := Gr.gb kr
        clear RA RB
        go_region_held3 (fun w' => w'.cell? ⟨w5.heap.size, 0, none⟩ = some (.int .u64 h') ∧ w'.cell? ⟨w5.heap.size, 1, none⟩ = some (.int .u64 l'))
          ((go_split_ands; (repeat' apply And.intro) <;> (repeat' (first | (with_reducible assumption) | (with_reducible refine has_of (by with_reducible assumption)) | (with_reducible refine Gr.old (by with_reducible assumption) ?_) | (with_reducible refine Gb.old (by with_reducible assumption) ?_) | (with_reducible refine cell_swap _ ?_ (by with_reducible assumption); omega) | (with_reducible refine cell_setSame ?_) | (with_reducible refine has_old (by with_reducible assumption) ?_) | (with_reducible refine has_set ?_) | (with_reducible refine cell_setOff ?_ ?_; omega) | (with_reducible refine cell_setNew ?_ ?_; (dsimp only; omega)) | (simp [go_sem]; done) | (simp [go_sem]; rfl) | (with_reducible refine cell_alloc _ ?_) | (with_reducible refine cell_drew ?_) | (with_reducible refine has_alloc _ ?_) | (with_reducible refine fz_old (by with_reducible assumption) ?_) | (with_reducible refine Gb.fzc (by with_reducible assumption) (by first | (with_reducible assumption) | (with_reducible exact cell_drew (by with_reducible assumption))) ?_) | (with_reducible refine Gb.fz (by with_reducible assumption) ?_ ?_) | go_size | (with_reducible refine fz_alloc ?_) | (with_reducible refine fz_set ?_) | (with_reducible refine fz_drew ?_)))))
          (first
            | (go_at_call 14; refine (HI2.out _ kg).mono ?_; rintro y w6 ⟨rfl, hg_w6⟩)
            | (go_at_call 12; refine (HS2.out _).mono ?_; rintro y w7 ⟨rfl, hg_w7⟩))
      all_goals go_wp2
      all_goals go_returns
      all_goals exact ⟨rfl, kg⟩
end Go.Proofs.YtoaggnpcmieeaaaDoor
