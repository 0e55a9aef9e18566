/- math/bits.Sub64 (the model's own entry), words.minus, words.below. -/
import Derived.Test.YtkflpogmhailhaaDoorA1
import Derived.Test.YtkflpogmhailhaaDoorRows
import Derived.WalkSpells
import Derived.Laws.Externs
import Derived.Shelf.Spec.BitsCarry
import Derived.Deep.RegionHeld3
import Derived.Test.YtkflpogmhailhaaDoorA2
set_option linter.unusedVariables false
set_option linter.unusedSimpArgs false
namespace Go.Proofs.YtkflpogmhailhaaDoor
open Go.RowKit

def bow (x y : Int) : Int := if x < y then 1 else 0
theorem bow_le (x y : Int) : bow x y ≤ 1 := by unfold bow; split <;> omega
theorem bow_ge (x y : Int) : 0 ≤ bow x y := by unfold bow; split <;> omega

theorem sub64 (x y b : Int) (hx : 0 ≤ x) (hy : 0 ≤ y) (hy' : y < 18446744073709551616) (hb0 : 0 ≤ b) (hb : b ≤ 1) (w : World) : (callFunc 133 #[.int .u64 x, .int .u64 y, .int .u64 b]).run Tryd.prog w =
    .ok (.value (.tuple #[.int .u64 ((x - y - b) % 18446744073709551616), .int .u64 (bow x (y + b))])) w := by
  obtain ⟨x, rfl⟩ := Int.eq_ofNat_of_zero_le hx
  obtain ⟨y, rfl⟩ := Int.eq_ofNat_of_zero_le hy
  obtain ⟨b, rfl⟩ := Int.eq_ofNat_of_zero_le hb0
  rw [run_callFunc_extern Tryd.func133 (by kernel_rfl) (by kernel_rfl) (by kernel_rfl) (e := sub64Entry) (by kernel_rfl), run_sub64 x y b (by omega)]
  have e1 : (((x + 18446744073709551616 - y - b) % 18446744073709551616 : Nat) : Int) = ((x : Int) - y - b) % 18446744073709551616 := by omega
  have e2 : ((if x < y + b then 1 else 0 : Nat) : Int) = bow x (y + b) := by unfold bow; split <;> split <;> omega
  rw [← e1, ← e2]
  rfl
theorem sub64_0 (x y : Int) (hx : 0 ≤ x) (hy : 0 ≤ y) (hy' : y < 18446744073709551616) (w : World) : (callFunc 133 #[.int .u64 x, .int .u64 y, .int .u64 0]).run Tryd.prog w =
    .ok (.value (.tuple #[.int .u64 ((x - y) % 18446744073709551616), .int .u64 (bow x y)])) w := by
  simpa using sub64 x y 0 hx hy hy' (Int.le_refl 0) (by decide) w

set_option maxHeartbeats 1000000 in
theorem minus_any (a0 a1 b0 b1 : Int) (ha0 : 0 ≤ a0) (ha1 : 0 ≤ a1) (hb0 : 0 ≤ b0) (hb1 : 0 ≤ b1) (gb0 : b0 < 18446744073709551616) (gb1 : b1 < 18446744073709551616) (w : World) :
    Calls Tryd.prog 126 #[.agg #[.int .u64 a0, .int .u64 a1], .agg #[.int .u64 b0, .int .u64 b1]] w fun e w' =>
      e = .returned (.tuple #[.agg #[.int .u64 ((a0 - b0) % 18446744073709551616), .int .u64 ((a1 - b1 - bow a0 b0) % 18446744073709551616)],
        .bool (bow a1 (b1 + bow a0 b0) != 0)]) ∧ ∃ c1 c2 c3 c4 : Array Value, w' = ((((w.alloc (.cells c1 121)).alloc (.cells c2 121)).alloc (.cells c3 121)).alloc (.cells c4 121)).drew.drew := by
  have k0 := bow_ge a0 b0
  have k1 := bow_le a0 b0
  go_enter Tryd.func126, Tryd.ntmps126
  go_wp2
  refine wp_loop_rounds 3 ?_
  rw [rounds_succ]
  go_wp2
  go_region_with (simp only [sub64_0 a0 b0 ha0 hb0 gb0])
  all_goals (go_wp2; rw [rounds_succ]; go_wp2; go_region_with (simp only [sub64 a1 b1 _ ha1 hb1 gb1 k0 k1]))
  all_goals (go_wp2; rw [rounds_succ]; go_wp2; go_returns; exact ⟨rfl, _, _, _, _, rfl⟩)

/-- Less, by words. -/
def lt2 (a1 a0 b1 b0 : Int) : Bool := bow a1 (b1 + bow a0 b0) != 0
theorem lt2_iff (a1 a0 b1 b0 : Int) (ha0 : 0 ≤ a0) (hb0 : 0 ≤ b0) (ga0 : a0 < 18446744073709551616) (gb0 : b0 < 18446744073709551616) : lt2 a1 a0 b1 b0 = decide (a1 * 18446744073709551616 + a0 < b1 * 18446744073709551616 + b0) := by
  unfold lt2 bow
  rw [Bool.eq_iff_iff]
  simp only [bne_iff_ne, ne_eq, decide_eq_true_eq]
  split <;> split <;> omega
end Go.Proofs.YtkflpogmhailhaaDoor

/- impl.SubWide. -/
set_option linter.unusedVariables false
set_option linter.unusedSimpArgs false
namespace Go.Proofs.YtkflpogmhailhaaDoor
open Go.RowKit

set_option maxHeartbeats 1000000 in
theorem subWide_any (ah al bh bl : Int) (ha0 : 0 ≤ ah) (ha1 : ah < 18446744073709551616) (hb0 : 0 ≤ al) (hb1 : al < 18446744073709551616) (hc0 : 0 ≤ bh) (hc1 : bh < 18446744073709551616) (hd0 : 0 ≤ bl) (hd1 : bl < 18446744073709551616) (w : World) :
    Calls Tryd.prog 104 #[.agg #[.int .u64 ah, .int .u64 al], .agg #[.int .u64 bh, .int .u64 bl]] w fun e w' =>
      e = .returned (.tuple #[.agg #[.int .u64 ((ah - bh - bow al bl) % 18446744073709551616), .int .u64 ((al - bl) % 18446744073709551616)], .bool (lt2 ah al bh bl)]) ∧ Gr w w' := by
  have HL : Hid (lt2 ah al bh bl = (bow ah (bh + bow al bl) != 0)) := rfl
  go_enter Tryd.func104, Tryd.ntmps104
  go_wp2
  go_region_held3 (fun w' => w'.cell? ⟨w.heap.size, 0, none⟩ = some (.int .u64 ah) ∧ w'.cell? ⟨w.heap.size, 1, none⟩ = some (.int .u64 al) ∧ w'.cell? ⟨w.heap.size + 1, 0, none⟩ = some (.int .u64 bh) ∧ w'.cell? ⟨w.heap.size + 1, 1, none⟩ = some (.int .u64 bl))
    (simp [go_sem, World.cell?_alloc_past])
    (first
      | (go_at_call 122; refine (wordsOf_any _ _ _).mono ?_; rintro e w1 ⟨rfl, c1, c2, rfl⟩)
      | (go_at_call 126; refine (minus_any al ah bl bh hb0 ha0 hd0 hc0 hd1 hc1 _).mono ?_; rintro e w2 ⟨rfl, d1, d2, d3, d4, rfl⟩))
  all_goals go_wp2_with (go_at_call 106; refine (wide_any _ _ _).mono ?_; rintro e w1 ⟨rfl, f1, f2, rfl⟩)
  all_goals go_returns
  all_goals exact ⟨ret_wb rfl rfl HL.out.symm, ⟨by go_grown, by go_grown⟩⟩
end Go.Proofs.YtkflpogmhailhaaDoor
