/- FromInt: both sides. -/
import Derived.Test.YtfakbjgbbcigpaaGreatDoorL5ZFS
import Derived.Test.YtfakbjgbbcigpaaGreatDoorL5FI
set_option linter.unusedVariables false
set_option linter.unusedSimpArgs false
namespace Go.Proofs.YtfakbjgbbcigpaaGreatDoor
open Go.RowKit

/-! ### the program -/

theorem beq_dec (x y : Int) : (x == y) = decide (x = y) := by by_cases h : x = y <;> simp [h]

theorem fw_0 (a : Int) (a0 : 0 ≤ a) (a1 : a < 18446744073709551616) : ∃ s m : Int, (fitsK 0 a = true → s = signK 0 a ∧ m = ((magK 0 a : Nat) : Int)) ∧ ∀ w, Calls Tryz.prog 125 #[.agg #[.int .i32 (-2147483648), .int .i32 2147483647], .int .u64 a] w fun e w' => e = .returned (.tuple #[.int .i64 s, .int .u64 m, .bool (fitsK 0 a)]) ∧ Gr w w' := by
  obtain ⟨x, hx⟩ : ∃ x, IntKind.i32.wrap a = x := ⟨_, rfl⟩
  have hx' := hx
  rw [IntKind.wrap_i32] at hx'
  have hft : fitsK 0 a = decide (IntKind.u64.wrap x = a) := by
    unfold fitsK
    rw [IntKind.wrap_u64, decide_eq_decide]
    by_cases h : 9223372036854775808 ≤ a
    · have e1 : signK 0 a = 1 := by unfold signK; rw [if_pos ⟨.inl rfl, h⟩]
      have e2 : magK 0 a = (18446744073709551616 - a).toNat := by unfold magK; rw [if_pos ⟨.inl rfl, h⟩]
      rw [e1, e2, show mostK 0 1 = 2147483648 by decide]; omega
    · have e1 : signK 0 a = 0 := by unfold signK; rw [if_neg (fun k => h k.2)]
      have e2 : magK 0 a = a.toNat := by unfold magK; rw [if_neg (fun k => h k.2)]
      rw [e1, e2, show mostK 0 0 = 2147483647 by decide]; omega
  have hd := hft
  rw [hd]
  by_cases c : x < 0
  · refine ⟨1, IntKind.u64.wrap (-a), fun h => ?_, fun w => fromWord_0n a x _ _ _ hx c rfl (beq_dec _ _) rfl w⟩
    have := of_decide_eq_true h
    rw [IntKind.wrap_u64] at this
    have hh : 9223372036854775808 ≤ a := by omega
    unfold signK magK
    rw [if_pos ⟨.inl rfl, hh⟩, if_pos ⟨.inl rfl, hh⟩, IntKind.wrap_u64]
    exact ⟨rfl, by omega⟩
  · refine ⟨0, a, fun h => ?_, fun w => fromWord_0p a x _ _ hx (by omega) rfl (beq_dec _ _) w⟩
    have := of_decide_eq_true h
    rw [IntKind.wrap_u64] at this
    have hh : ¬ 9223372036854775808 ≤ a := by omega
    unfold signK magK
    rw [if_neg (fun k => hh k.2), if_neg (fun k => hh k.2)]
    exact ⟨rfl, by omega⟩

theorem fw_1 (a : Int) (a0 : 0 ≤ a) (a1 : a < 18446744073709551616) : ∃ s m : Int, (fitsK 1 a = true → s = signK 1 a ∧ m = ((magK 1 a : Nat) : Int)) ∧ ∀ w, Calls Tryz.prog 128 #[.agg #[.int .i64 (-9223372036854775808), .int .i64 9223372036854775807], .int .u64 a] w fun e w' => e = .returned (.tuple #[.int .i64 s, .int .u64 m, .bool (fitsK 1 a)]) ∧ Gr w w' := by
  obtain ⟨x, hx⟩ : ∃ x, IntKind.i64.wrap a = x := ⟨_, rfl⟩
  have hx' := hx
  rw [IntKind.wrap_i64] at hx'
  have hft : fitsK 1 a = decide (IntKind.u64.wrap x = a) := by
    unfold fitsK
    rw [IntKind.wrap_u64, decide_eq_decide]
    by_cases h : 9223372036854775808 ≤ a
    · have e1 : signK 1 a = 1 := by unfold signK; rw [if_pos ⟨.inr rfl, h⟩]
      have e2 : magK 1 a = (18446744073709551616 - a).toNat := by unfold magK; rw [if_pos ⟨.inr rfl, h⟩]
      rw [e1, e2, show mostK 1 1 = 9223372036854775808 by decide]; omega
    · have e1 : signK 1 a = 0 := by unfold signK; rw [if_neg (fun k => h k.2)]
      have e2 : magK 1 a = a.toNat := by unfold magK; rw [if_neg (fun k => h k.2)]
      rw [e1, e2, show mostK 1 0 = 9223372036854775807 by decide]; omega
  have hd := hft
  rw [hd]
  by_cases c : x < 0
  · refine ⟨1, IntKind.u64.wrap (-a), fun h => ?_, fun w => fromWord_1n a x _ _ _ hx c rfl (beq_dec _ _) rfl w⟩
    have hh : 9223372036854775808 ≤ a := by omega
    unfold signK magK
    rw [if_pos ⟨.inr rfl, hh⟩, if_pos ⟨.inr rfl, hh⟩, IntKind.wrap_u64]
    exact ⟨rfl, by omega⟩
  · refine ⟨0, a, fun h => ?_, fun w => fromWord_1p a x _ _ hx (by omega) rfl (beq_dec _ _) w⟩
    have hh : ¬ 9223372036854775808 ≤ a := by omega
    unfold signK magK
    rw [if_neg (fun k => hh k.2), if_neg (fun k => hh k.2)]
    exact ⟨rfl, by omega⟩

theorem fw_2 (a : Int) (a0 : 0 ≤ a) (a1 : a < 18446744073709551616) : ∃ s m : Int, (fitsK 2 a = true → s = signK 2 a ∧ m = ((magK 2 a : Nat) : Int)) ∧ ∀ w, Calls Tryz.prog 130 #[.agg #[.int .u32 0, .int .u32 4294967295], .int .u64 a] w fun e w' => e = .returned (.tuple #[.int .i64 s, .int .u64 m, .bool (fitsK 2 a)]) ∧ Gr w w' := by
  obtain ⟨x, hx⟩ : ∃ x, IntKind.u32.wrap a = x := ⟨_, rfl⟩
  have hx' := hx
  rw [IntKind.wrap_u32] at hx'
  have hsg : signK 2 a = 0 := by unfold signK; rw [if_neg (by omega)]
  have hmg : magK 2 a = a.toNat := by unfold magK; rw [if_neg (by omega)]
  have hft : fitsK 2 a = decide (IntKind.u64.wrap x = a) := by
    unfold fitsK
    rw [hsg, hmg]
    rw [IntKind.wrap_u64, decide_eq_decide, show mostK 2 0 = 4294967295 by decide]
    omega
  rw [hft, hsg, hmg]
  exact ⟨0, a, fun _ => ⟨rfl, by omega⟩, fun w => fromWord_2p a x _ _ hx (by omega) rfl (beq_dec _ _) w⟩

theorem fw_3 (a : Int) (a0 : 0 ≤ a) (a1 : a < 18446744073709551616) : ∃ s m : Int, (fitsK 3 a = true → s = signK 3 a ∧ m = ((magK 3 a : Nat) : Int)) ∧ ∀ w, Calls Tryz.prog 132 #[.agg #[.int .u64 0, .int .u64 18446744073709551615], .int .u64 a] w fun e w' => e = .returned (.tuple #[.int .i64 s, .int .u64 m, .bool (fitsK 3 a)]) ∧ Gr w w' := by
  have hsg : signK 3 a = 0 := by unfold signK; rw [if_neg (by omega)]
  have hmg : magK 3 a = a.toNat := by unfold magK; rw [if_neg (by omega)]
  have hft : fitsK 3 a = true := by
    unfold fitsK
    rw [hsg, hmg]
    rw [show mostK 3 0 = 18446744073709551615 by decide]
    exact decide_eq_true (by omega)
  rw [hft, hsg, hmg]
  exact ⟨0, a, fun _ => ⟨rfl, by omega⟩, fun w => fromWord_3p a a0 (by rw [IntKind.wrap_u64]; omega) w⟩

theorem implFromInt_any (f mode kind a : Int) (a0 : 0 ≤ a) (a1 : a < 18446744073709551616) (w : World) (hw : Fm w) :
    Calls Tryz.prog 7 #[.int .i64 f, .int .i64 mode, .int .i64 kind, .int .u64 a] w fun e w' => ∃ Z fl, FromIs f mode kind a Z fl ∧ e = .returned (.agg #[.int .u64 Z, .int .i64 fl]) ∧ Gr w w' := by
  have fin : ∀ Z, FromIs f mode kind a Z 1 → (Calls Tryz.prog 7 #[.int .i64 f, .int .i64 mode, .int .i64 kind, .int .u64 a] w fun e w' => e = .returned (.agg #[.int .u64 Z, .int .i64 1]) ∧ Gr w w') → Calls Tryz.prog 7 #[.int .i64 f, .int .i64 mode, .int .i64 kind, .int .u64 a] w fun e w' => ∃ Z fl, FromIs f mode kind a Z fl ∧ e = .returned (.agg #[.int .u64 Z, .int .i64 fl]) ∧ Gr w w' := fun Z hp h => h.mono (fun e w' ⟨h1, h2⟩ => ⟨Z, 1, hp, h1, h2⟩)
  have kn : ∃ (kv : Value) (kb : Bool), ∀ w, Calls Tryz.prog 32 #[.int .i64 kind] w fun e w' => e = .returned (.tuple #[kv, .bool kb]) ∧ Gr w w' := by
    by_cases hk : 0 ≤ kind ∧ kind ≤ 3
    · rcases (show kind = 0 ∨ kind = 1 ∨ kind = 2 ∨ kind = 3 by omega) with rfl | rfl | rfl | rfl
      · exact ⟨_, _, kindOf_0⟩
      · exact ⟨_, _, kindOf_1⟩
      · exact ⟨_, _, kindOf_2⟩
      · exact ⟨_, _, kindOf_3⟩
    · exact ⟨_, _, fun w => kindOf_no kind hk w⟩
  obtain ⟨kv, kb, HKn⟩ := kn
  by_cases hf : f = 0 ∨ f = 1
  · obtain ⟨p, mx, one, inf, sg, nan, hF⟩ := fmt_of f hf
    obtain ⟨mn, fb, sp, hM, hmn, hfb⟩ := hF.m
    have HN : Hid (∀ w, Calls Tryz.prog 33 #[.agg #[.int .i64 p, .int .i64 mn, .int .i64 mx]] w fun e w' => e = .returned (.agg #[.int .u64 nan, .int .i64 1]) ∧ Gr w w') := fun w => invalid_any hM w
    by_cases hm : 0 ≤ mode ∧ mode ≤ 4
    · obtain ⟨k, hk⟩ := rule_of mode hm.1 hm.2
      have HS : Hid (∀ w', Gr w w' → Calls Tryz.prog 31 #[.int .i64 f, .int .i64 mode] w' fun x w'' => x = .returned (.tuple #[.agg #[.int .i64 p, .int .i64 mn, .int .i64 mx, .int .i64 mode, .func (.func k) #[] #[]], .bool true]) ∧ Gr w' w'') := fun w'' hg' => settingOf_yes hF hM mode k (fun w => ruleOf_yes mode k hk w) (hw.gr hg')
      have bad : fitsK kind a = false → FromIs f mode kind a nan 1 := fun h => .inr (.inl ⟨p, mx, one, inf, sg, nan, hF, .inr h, rfl, rfl⟩)
      have HR : ∀ s m, s = signK kind a → m = ((magK kind a : Nat) : Int) → Hid (∀ w, Calls Tryz.prog 34 #[.agg #[.int .i64 p, .int .i64 mn, .int .i64 mx, .int .i64 mode, .func (.func k) #[] #[]], .int .i64 s, .int .i64 0, .agg #[.int .u64 0, .int .u64 m], .bool false] w fun e w' => ∃ z fl, PackIs p (1 - mx) mx one inf sg nan mode (intO kind a) z fl ∧ e = .returned (.agg #[.int .u64 z, .int .i64 fl]) ∧ Gr w w') := by
        intro s m hs hm' w
        subst hs hm'
        have hlt := magK_lt kind a a0 a1
        rcases Nat.eq_zero_or_pos (magK kind a) with h0 | h0
        · have hs0 : signK kind a = 0 := by
            unfold magK at h0
            unfold signK
            by_cases c : (kind = 0 ∨ kind = 1) ∧ 9223372036854775808 ≤ a
            · rw [if_pos c] at h0; exfalso; omega
            · rw [if_neg c]
          rw [h0, hs0]
          refine (round_Z hM mode k 0 0 false (by omega) (by omega) (sw 0 sg 0) (fun w => zero_any hM 0 _ (.inl ⟨rfl, by simp [sw]⟩) w) w).mono ?_
          rintro e w' ⟨rfl, hg⟩
          refine ⟨_, _, ?_, rfl, hg⟩
          unfold intO; rw [if_pos h0]; exact .inl ⟨rfl, rfl, rfl⟩
        · have := round_num hM mode mode k hk (signK kind a) (signK_01 kind a) 0 (by omega) (by omega) (magK kind a) h0 (by omega) false (fun h => by cases h) w
          rw [show magK kind a / 18446744073709551616 = 0 by omega, show magK kind a % 18446744073709551616 = magK kind a by omega] at this
          refine this.mono ?_
          rintro e w' ⟨z, fl, hr, rfl, hg⟩
          rw [hmn] at hr
          refine ⟨_, _, ?_, rfl, hg⟩
          unfold intO; rw [if_neg (by omega)]
          exact .inr (.inl ⟨rfl, z, hr, by rw [sv_sw]⟩)
      have ok : fitsK kind a = true → (∃ s m, (s = signK kind a ∧ m = ((magK kind a : Nat) : Int)) ∧ Calls Tryz.prog 7 #[.int .i64 f, .int .i64 mode, .int .i64 kind, .int .u64 a] w fun e w' => ∃ z fl, PackIs p (1 - mx) mx one inf sg nan mode (intO kind a) z fl ∧ e = .returned (.agg #[.int .u64 z, .int .i64 fl]) ∧ Gr w w') → Calls Tryz.prog 7 #[.int .i64 f, .int .i64 mode, .int .i64 kind, .int .u64 a] w fun e w' => ∃ Z fl, FromIs f mode kind a Z fl ∧ e = .returned (.agg #[.int .u64 Z, .int .i64 fl]) ∧ Gr w w' := fun hq ⟨s, m, _, h⟩ => h.mono (fun e w' ⟨z, fl, h0, h1, h2⟩ => ⟨z, fl, .inl ⟨p, mx, one, inf, sg, nan, hF, hm, hq, h0⟩, h1, h2⟩)
      by_cases hkd : 0 ≤ kind ∧ kind ≤ 3
      · rcases (show kind = 0 ∨ kind = 1 ∨ kind = 2 ∨ kind = 3 by omega) with rfl | rfl | rfl | rfl
        · obtain ⟨s, m, he, HW⟩ := fw_0 a a0 a1
          cases hq : fitsK 0 a <;> rw [hq] at HW he
          · exact fin nan (bad hq) (from_bad0 p mn mx mode nan f mode 0 a s m k HS kindOf_0 HW HN)
          · exact ok hq ⟨s, m, he rfl, from_ok0 p mn mx mode f mode 0 a s m k HS kindOf_0 HW _ (HR s m (he rfl).1 (he rfl).2)⟩
        · obtain ⟨s, m, he, HW⟩ := fw_1 a a0 a1
          cases hq : fitsK 1 a <;> rw [hq] at HW he
          · exact fin nan (bad hq) (from_bad1 p mn mx mode nan f mode 1 a s m k HS kindOf_1 HW HN)
          · exact ok hq ⟨s, m, he rfl, from_ok1 p mn mx mode f mode 1 a s m k HS kindOf_1 HW _ (HR s m (he rfl).1 (he rfl).2)⟩
        · obtain ⟨s, m, he, HW⟩ := fw_2 a a0 a1
          cases hq : fitsK 2 a <;> rw [hq] at HW he
          · exact fin nan (bad hq) (from_bad2 p mn mx mode nan f mode 2 a s m k HS kindOf_2 HW HN)
          · exact ok hq ⟨s, m, he rfl, from_ok2 p mn mx mode f mode 2 a s m k HS kindOf_2 HW _ (HR s m (he rfl).1 (he rfl).2)⟩
        · obtain ⟨s, m, he, HW⟩ := fw_3 a a0 a1
          cases hq : fitsK 3 a <;> rw [hq] at HW he
          · exact fin nan (bad hq) (from_bad3 p mn mx mode nan f mode 3 a s m k HS kindOf_3 HW HN)
          · exact ok hq ⟨s, m, he rfl, from_ok3 p mn mx mode f mode 3 a s m k HS kindOf_3 HW _ (HR s m (he rfl).1 (he rfl).2)⟩
      · exact fin nan (bad (by unfold fitsK; exact decide_eq_false (fun h => hkd h.1))) (from_no2 p mn mx mode nan f mode kind a k HS (fun w => kindOf_no kind hkd w) HN)
    · exact fin nan (.inr (.inl ⟨p, mx, one, inf, sg, nan, hF, .inl hm, rfl, rfl⟩)) (from_no1 p mn mx mode nan f mode kind a kv kb (fun w'' hg' => settingOf_bad hF hM mode (fun w => ruleOf_no mode (by omega) w) (hw.gr hg')) HKn HN)
  · exact fin _ (.inr (.inr ⟨hf, rfl, rfl⟩)) (from_no1 _ _ _ _ _ f mode kind a kv kb (fun w'' hg' => settingOf_none f mode hf (hw.gr hg')) HKn (fun w => invalid_any m64 w))

theorem fromInt_same (f mode kind a : Int) (a0 : 0 ≤ a) (a1 : a < 18446744073709551616) :
    ∃ Z fl : Int, FromIs f mode kind a Z fl ∧ (∀ w, Calls Tryz.prog 6 #[.int .i64 f, .int .i64 mode, .int .i64 kind, .int .u64 a] w fun e w' => e = .returned (.agg #[.int .u64 Z, .int .i64 fl]) ∧ Gb w w') ∧
      (∀ w, Fm w → Calls Tryz.prog 7 #[.int .i64 f, .int .i64 mode, .int .i64 kind, .int .u64 a] w fun e w' => e = .returned (.agg #[.int .u64 Z, .int .i64 fl]) ∧ Gr w w') :=
  both_by (fun _ _ _ _ h h' => FromIs.one h h') (from_ex f mode kind a) (specFromInt_any f mode kind a a0 a1) (implFromInt_any f mode kind a a0 a1)

end Go.Proofs.YtfakbjgbbcigpaaGreatDoor
