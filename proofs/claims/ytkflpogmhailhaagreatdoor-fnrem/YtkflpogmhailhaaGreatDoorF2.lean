/- impl's chapter 2: the methods of a format. -/
import Derived.Test.YtkflpogmhailhaaGreatDoorL2A
import Derived.Test.YtkflpogmhailhaaGreatDoorA2
import Derived.Deep.RegionHeld3
import Derived.Laws.BitsAllLaws
set_option linter.unusedVariables false
set_option linter.unusedSimpArgs false
namespace Go.Proofs.YtkflpogmhailhaaGreatDoor
open Go.RowKit

/-- The numbers of a format as the program holds them: precision, least, greatest, bits of fraction, place of the sign, and the words. -/
def IsM (p mn mx fb sp one inf sg nan : Int) : Prop :=
  (p = 24 ∧ mn = -126 ∧ mx = 127 ∧ fb = 23 ∧ sp = 31 ∧ one = 8388608 ∧ inf = 2139095040 ∧ sg = 2147483648 ∧ nan = 2143289344) ∨
  (p = 53 ∧ mn = -1022 ∧ mx = 1023 ∧ fb = 52 ∧ sp = 63 ∧ one = 4503599627370496 ∧ inf = 9218868437227405312 ∧ sg = 9223372036854775808 ∧ nan = 9221120237041090560)

theorem wi64 (n : Int) (h0 : -9223372036854775808 ≤ n) (h1 : n < 9223372036854775808) : IntKind.i64.wrap n = n := by rw [IntKind.wrap_i64]; omega
theorem wu64 (n : Int) (h0 : 0 ≤ n) (h1 : n < 18446744073709551616) : IntKind.u64.wrap n = n := by rw [IntKind.wrap_u64]; omega

theorem bits_len (x : Int) (h0 : 0 ≤ x) (h1 : x < 18446744073709551616) (w : World) :
    Calls Tryz.prog 145 #[.int .u64 x] w fun e w' => e = .returned (.int .i64 (Go.Lib.bitLen x.toNat : Int)) ∧ w' = w := by
  go_enter Tryz.func145, Tryz.ntmps145
  go_wp2_with (go_at_call 148; refine (len64_any x h0 h1 _).mono ?_; rintro e w' ⟨rfl, rfl⟩)
  go_ret
  exact ⟨rfl, rfl⟩
theorem bits_len_at (x z : Int) (h0 : 0 ≤ x) (h1 : x < 18446744073709551616) (hz : (Go.Lib.bitLen x.toNat : Int) = z) (w : World) :
    Calls Tryz.prog 145 #[.int .u64 x] w fun e w' => e = .returned (.int .i64 z) ∧ w' = w := hz ▸ bits_len x h0 h1 w

theorem fb_any {p mn mx fb sp one inf sg nan : Int} (h : IsM p mn mx fb sp one inf sg nan) (w : World) :
    Calls Tryz.prog 117 #[.agg #[.int .i64 p, .int .i64 mn, .int .i64 mx]] w fun e w' => e = .returned (.int .i64 fb) ∧ Gr w w' := by
  rcases h with ⟨rfl, rfl, rfl, rfl, rfl, rfl, rfl, rfl, rfl⟩ | ⟨rfl, rfl, rfl, rfl, rfl, rfl, rfl, rfl, rfl⟩
  all_goals
    go_enter Tryz.func117, Tryz.ntmps117
    go_wp2
    go_returns
    exact ⟨rfl, kr⟩

set_option maxRecDepth 100000 in
set_option maxHeartbeats 1000000 in
theorem sp_any {p mn mx fb sp one inf sg nan : Int} (h : IsM p mn mx fb sp one inf sg nan) (w : World) :
    Calls Tryz.prog 118 #[.agg #[.int .i64 p, .int .i64 mn, .int .i64 mx]] w fun e w' => e = .returned (.int .i64 sp) ∧ Gr w w' := by
  have HF := fun w => fb_any h w
  have HL : ∃ l : Int, (∀ w, Calls Tryz.prog 145 #[.int .u64 mx] w fun e w' => e = .returned (.int .i64 l) ∧ w' = w) ∧ fb + l + 1 = sp := by
    rcases h with ⟨rfl, rfl, rfl, rfl, rfl, rfl, rfl, rfl, rfl⟩ | ⟨rfl, rfl, rfl, rfl, rfl, rfl, rfl, rfl, rfl⟩
    · exact ⟨7, fun w => bits_len_at 127 7 (by omega) (by omega) (by decide +kernel) w, rfl⟩
    · exact ⟨10, fun w => bits_len_at 1023 10 (by omega) (by omega) (by decide +kernel) w, rfl⟩
  have hb : 0 ≤ mx ∧ mx ≤ 1023 ∧ 0 ≤ fb ∧ fb ≤ 52 ∧ 0 ≤ sp ∧ sp ≤ 63 := by rcases h with h | h <;> omega
  obtain ⟨l, HL, hl⟩ := HL
  have HFF : Hid _ := HF
  have HLL : Hid _ := HL
  clear HF HL h
  obtain rfl : sp = fb + l + 1 := hl.symm
  clear hl
  have u1 : IntKind.u64.wrap mx = mx := by rw [IntKind.wrap_u64]; omega
  have u2 : IntKind.i64.wrap (fb + l) = fb + l := wi64 _ (by omega) (by omega)
  have u3 : IntKind.i64.wrap (fb + l + 1) = fb + l + 1 := wi64 _ (by omega) (by omega)
  go_enter Tryz.func118, Tryz.ntmps118
  go_wp2
  go_region_held3 (fun w' => w'.cell? ⟨w.heap.size, 0, none⟩ = some (.int .i64 p) ∧ w'.cell? ⟨w.heap.size, 1, none⟩ = some (.int .i64 mn) ∧ w'.cell? ⟨w.heap.size, 2, none⟩ = some (.int .i64 mx))
    ((go_split_ands; (repeat' apply And.intro) <;> exact kl))
    (first
      | (go_at_call 117; refine (HFF.out _).mono ?_; rintro e w3 ⟨rfl, hg_w3⟩; have hc_w3 := hg_w3.cells; have hf_w3 := hg_w3.frozens; have hz_w3 := hg_w3.size; (try simp only [World.size_alloc, World.size_drew, World.size_setCell] at hz_w3))
      | (go_at_call 145; refine (HLL.out _).mono ?_; rintro e w4 ⟨rfl, hw⟩; rw [hw]; clear hw))
  all_goals go_wp2
  all_goals go_returns
  all_goals exact ⟨rfl, kr⟩

theorem IsM.cases {p mn mx fb sp one inf sg nan : Int} (h : IsM p mn mx fb sp one inf sg nan) : sp = 31 ∨ sp = 63 := by rcases h with h | h <;> omega

set_option maxRecDepth 100000 in
set_option maxHeartbeats 1000000 in
theorem zero_any {p mn mx fb sp one inf sg nan : Int} (h : IsM p mn mx fb sp one inf sg nan) (s z : Int) (hs : s = 0 ∧ z = 0 ∨ s = 1 ∧ z = sg) (w : World) :
    Calls Tryz.prog 85 #[.agg #[.int .i64 p, .int .i64 mn, .int .i64 mx], .int .i64 s] w fun e w' => e = .returned (.int .u64 z) ∧ Gr w w' := by
  have HF : Hid (∀ w, Calls Tryz.prog 118 #[.agg #[.int .i64 p, .int .i64 mn, .int .i64 mx]] w fun e w' => e = .returned (.int .i64 sp) ∧ Gr w w') := fun w => sp_any h w
  rcases h with ⟨rfl, rfl, rfl, rfl, rfl, rfl, rfl, rfl, rfl⟩ | ⟨rfl, rfl, rfl, rfl, rfl, rfl, rfl, rfl, rfl⟩ <;> rcases hs with ⟨rfl, rfl⟩ | ⟨rfl, rfl⟩
  all_goals
    go_enter Tryz.func85, Tryz.ntmps85
    go_wp2_with (go_at_call 118; refine (HF.out _).mono ?_; rintro e w3 ⟨rfl, hg_w3⟩)
    go_returns
    exact ⟨rfl, kr⟩

set_option maxRecDepth 100000 in
set_option maxHeartbeats 1000000 in
theorem fits_any {p mn mx fb sp one inf sg nan : Int} (h : IsM p mn mx fb sp one inf sg nan) (W : Int) (h0 : 0 ≤ W) (h1 : W < 18446744073709551616) (w : World) :
    Calls Tryz.prog 82 #[.agg #[.int .i64 p, .int .i64 mn, .int .i64 mx], .int .u64 W] w fun e w' => e = .returned (.bool (decide (W < 2 * sg))) ∧ Gr w w' := by
  have HF : Hid (∀ w, Calls Tryz.prog 118 #[.agg #[.int .i64 p, .int .i64 mn, .int .i64 mx]] w fun e w' => e = .returned (.int .i64 sp) ∧ Gr w w') := fun w => sp_any h w
  rcases h with ⟨rfl, rfl, rfl, rfl, rfl, rfl, rfl, rfl, rfl⟩ | ⟨rfl, rfl, rfl, rfl, rfl, rfl, rfl, rfl, rfl⟩
  all_goals
    go_enter Tryz.func82, Tryz.ntmps82
    go_wp2_with (go_at_call 118; refine (HF.out _).mono ?_; rintro e w3 ⟨rfl, hg_w3⟩)
    go_returns
    refine ⟨ret_congr (congrArg Value.bool ?_), kr⟩
    first
      | rfl
      | (refine decide_eq_decide.mpr ?_; omega)
      | (rw [decide_eq_true (by omega), decide_eq_true (by omega)])
      | (symm; refine decide_eq_true ?_; omega)

set_option maxRecDepth 100000 in
set_option maxHeartbeats 1000000 in
theorem signOf_any {p mn mx fb sp one inf sg nan : Int} (h : IsM p mn mx fb sp one inf sg nan) (W : Int) (h0 : 0 ≤ W) (h1 : W < 2 * sg) (w : World) :
    Calls Tryz.prog 86 #[.agg #[.int .i64 p, .int .i64 mn, .int .i64 mx], .int .u64 W] w fun e w' => e = .returned (.int .i64 (W / sg)) ∧ Gr w w' := by
  have HF : Hid (∀ w, Calls Tryz.prog 118 #[.agg #[.int .i64 p, .int .i64 mn, .int .i64 mx]] w fun e w' => e = .returned (.int .i64 sp) ∧ Gr w w') := fun w => sp_any h w
  rcases h with ⟨rfl, rfl, rfl, rfl, rfl, rfl, rfl, rfl, rfl⟩ | ⟨rfl, rfl, rfl, rfl, rfl, rfl, rfl, rfl, rfl⟩
  all_goals
    go_enter Tryz.func86, Tryz.ntmps86
    go_wp2_with (go_at_call 118; refine (HF.out _).mono ?_; rintro e w3 ⟨rfl, hg_w3⟩)
    go_returns
    exact ⟨ret_congr (congrArg (Value.int IntKind.i64) (by first | rfl | omega)), kr⟩

theorem andNot63 (W : Int) (h0 : 0 ≤ W) (h1 : W < 18446744073709551616) : bits .andNot .u64 W 9223372036854775808 = W % 9223372036854775808 := by
  obtain ⟨A, rfl⟩ := Int.eq_ofNat_of_zero_le h0
  have e := u64_andNot_nat A 9223372036854775808 (by omega) (by omega)
  rw [show ((9223372036854775808 : Nat) : Int) = 9223372036854775808 from rfl] at e
  rw [e, show 18446744073709551615 - 9223372036854775808 = 2 ^ 63 - 1 from rfl, Nat.and_two_pow_sub_one_eq_mod]
  omega
theorem andNot31 (W : Int) (h0 : 0 ≤ W) (h1 : W < 4294967296) : bits .andNot .u64 W 2147483648 = W % 2147483648 := by
  obtain ⟨A, rfl⟩ := Int.eq_ofNat_of_zero_le h0
  have e := u64_andNot_nat A 2147483648 (by omega) (by omega)
  rw [show ((2147483648 : Nat) : Int) = 2147483648 from rfl] at e
  have e1 : A &&& (2 ^ 32 - 1) = A := by rw [Nat.and_two_pow_sub_one_eq_mod]; omega
  have e2 : A &&& (18446744073709551615 - 2147483648) = A % 2 ^ 31 := by
    rw [← e1, Nat.and_assoc, show (2 ^ 32 - 1) &&& (18446744073709551615 - 2147483648) = 2 ^ 31 - 1 from by decide, Nat.and_two_pow_sub_one_eq_mod, e1]
  rw [e, e2]
  omega

set_option maxRecDepth 100000 in
set_option maxHeartbeats 1000000 in
theorem magnitude_any {p mn mx fb sp one inf sg nan : Int} (h : IsM p mn mx fb sp one inf sg nan) (W : Int) (h0 : 0 ≤ W) (h1 : W < 2 * sg) (w : World) :
    Calls Tryz.prog 83 #[.agg #[.int .i64 p, .int .i64 mn, .int .i64 mx], .int .u64 W] w fun e w' => e = .returned (.int .u64 (W % sg)) ∧ Gr w w' := by
  have HF : Hid (∀ w, Calls Tryz.prog 85 #[.agg #[.int .i64 p, .int .i64 mn, .int .i64 mx], .int .i64 1] w fun e w' => e = .returned (.int .u64 sg) ∧ Gr w w') := fun w => zero_any h 1 sg (.inr ⟨rfl, rfl⟩) w
  rcases h with ⟨rfl, rfl, rfl, rfl, rfl, rfl, rfl, rfl, rfl⟩ | ⟨rfl, rfl, rfl, rfl, rfl, rfl, rfl, rfl, rfl⟩
  all_goals
    go_enter Tryz.func83, Tryz.ntmps83
    go_wp2_with (go_at_call 85; refine (HF.out _).mono ?_; rintro e w3 ⟨rfl, hg_w3⟩)
    go_returns
    refine ⟨ret_congr (congrArg (Value.int IntKind.u64) ?_), kr⟩
    first | exact andNot31 W h0 (by omega) | exact andNot63 W h0 (by omega)

set_option maxRecDepth 100000 in
set_option maxHeartbeats 1000000 in
theorem inf_any {p mn mx fb sp one inf sg nan : Int} (h : IsM p mn mx fb sp one inf sg nan) (s z : Int) (hs : s = 0 ∧ z = inf ∨ s = 1 ∧ z = sg + inf) (w : World) :
    Calls Tryz.prog 84 #[.agg #[.int .i64 p, .int .i64 mn, .int .i64 mx], .int .i64 s] w fun e w' => e = .returned (.int .u64 z) ∧ Gr w w' := by
  have HF : Hid (∀ w, Calls Tryz.prog 117 #[.agg #[.int .i64 p, .int .i64 mn, .int .i64 mx]] w fun e w' => e = .returned (.int .i64 fb) ∧ Gr w w') := fun w => fb_any h w
  have HZ : ∃ y : Int, Hid (∀ w, Calls Tryz.prog 85 #[.agg #[.int .i64 p, .int .i64 mn, .int .i64 mx], .int .i64 s] w fun e w' => e = .returned (.int .u64 y) ∧ Gr w w') ∧ ((s = 0 ∧ y = 0) ∨ (s = 1 ∧ y = sg)) := by
    rcases hs with ⟨rfl, rfl⟩ | ⟨rfl, rfl⟩
    · exact ⟨0, fun w => zero_any h 0 0 (.inl ⟨rfl, rfl⟩) w, .inl ⟨rfl, rfl⟩⟩
    · exact ⟨sg, fun w => zero_any h 1 sg (.inr ⟨rfl, rfl⟩) w, .inr ⟨rfl, rfl⟩⟩
  obtain ⟨y, HZ, hy⟩ := HZ
  obtain ⟨m2, m3, m4, hm2, hm3, hm4, hor, hb⟩ : ∃ m2 m3 m4 : Int, IntKind.i64.wrap (2 * mx) = m2 ∧ IntKind.i64.wrap (m2 + 1) = m3 ∧ IntKind.u64.wrap (m3 * 2 ^ fb.toNat) = m4 ∧ bits .or .u64 y m4 = z ∧ 0 ≤ m3 ∧ m3 ≤ 3000 ∧ 0 ≤ fb ∧ fb ≤ 52 := by
    rcases h with ⟨rfl, rfl, rfl, rfl, rfl, rfl, rfl, rfl, rfl⟩ | ⟨rfl, rfl, rfl, rfl, rfl, rfl, rfl, rfl, rfl⟩ <;> rcases hs with ⟨rfl, rfl⟩ | ⟨h1, rfl⟩ <;> rcases hy with ⟨hy1, rfl⟩ | ⟨hy1, rfl⟩ <;> first
      | (exfalso; omega)
      | exact ⟨_, _, _, rfl, rfl, rfl, by decide +kernel, by decide, by decide, by decide, by decide⟩
  have hm5 : IntKind.u64.wrap m3 = m3 := wu64 _ (by omega) (by omega)
  have hfb : ¬ fb < 0 := by omega
  have HM4 : Hid _ := hm4
  clear h hs hy
  go_enter Tryz.func84, Tryz.ntmps84
  go_wp2
  go_region_held3 (fun w' => w'.cell? ⟨w.heap.size, 0, none⟩ = some (.int .i64 p) ∧ w'.cell? ⟨w.heap.size, 1, none⟩ = some (.int .i64 mn) ∧ w'.cell? ⟨w.heap.size, 2, none⟩ = some (.int .i64 mx))
    ((go_split_ands; (repeat' apply And.intro) <;> exact kl))
    (first
      | (go_at_call 117; refine (HF.out _).mono ?_; rintro e w3 ⟨rfl, hg_w3⟩; have hc_w3 := hg_w3.cells; have hf_w3 := hg_w3.frozens; have hz_w3 := hg_w3.size; (try simp only [World.size_alloc, World.size_drew, World.size_setCell] at hz_w3))
      | (go_at_call 85; refine (HZ.out _).mono ?_; rintro e w4 ⟨rfl, hg_w4⟩; have hc_w4 := hg_w4.cells; have hf_w4 := hg_w4.frozens; have hz_w4 := hg_w4.size; (try simp only [World.size_alloc, World.size_drew, World.size_setCell] at hz_w4)))
  all_goals go_wp2
  all_goals go_returns
  all_goals exact ⟨rfl, kr⟩
end Go.Proofs.YtkflpogmhailhaaGreatDoor
