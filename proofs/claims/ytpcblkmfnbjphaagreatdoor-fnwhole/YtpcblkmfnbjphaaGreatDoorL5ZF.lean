/- FromInt: both sides. -/
import Derived.Test.YtpcblkmfnbjphaaGreatDoorG1
import Derived.Test.YtpcblkmfnbjphaaGreatDoorL5FI
import Derived.Test.YtpcblkmfnbjphaaGreatDoorG3
set_option linter.unusedVariables false
set_option linter.unusedSimpArgs false
namespace Go.Proofs.YtpcblkmfnbjphaaGreatDoor
open Go.RowKit

/-- The number of an integer's word. -/
def intO (kind a : Int) : Opd := if magK kind a = 0 then ⟨0, 0, 0, 0⟩ else ⟨1, signK kind a, 0, magK kind a⟩
/-- What FromInt answers. -/
def FromIs (f mode kind a Z fl : Int) : Prop :=
  (∃ p mx one inf sg nan, IsFmt f p mx one inf sg nan ∧ (0 ≤ mode ∧ mode ≤ 4) ∧ fitsK kind a = true ∧ PackIs p (1 - mx) mx one inf sg nan mode (intO kind a) Z fl) ∨
  (∃ p mx one inf sg nan, IsFmt f p mx one inf sg nan ∧ (¬ (0 ≤ mode ∧ mode ≤ 4) ∨ fitsK kind a = false) ∧ Z = nan ∧ fl = 1) ∨
  (¬ (f = 0 ∨ f = 1) ∧ Z = 9221120237041090560 ∧ fl = 1)

theorem FromIs.one {f mode kind a Z fl Z' fl' : Int} (h : FromIs f mode kind a Z fl) (h' : FromIs f mode kind a Z' fl') : Z = Z' ∧ fl = fl' := by
  rcases h with ⟨p, mx, one, inf, sg, nan, hF, hm, hk, hp⟩ | ⟨p, mx, one, inf, sg, nan, hF, hm, rfl, rfl⟩ | ⟨hF, rfl, rfl⟩ <;>
  rcases h' with ⟨p', mx', one', inf', sg', nan', hF', hm', hk', hp'⟩ | ⟨p', mx', one', inf', sg', nan', hF', hm', rfl, rfl⟩ | ⟨hF', rfl, rfl⟩
  · obtain ⟨rfl, rfl, rfl, rfl, rfl, rfl⟩ := hF.one hF'
    exact PackIs.one hp hp'
  · exfalso
    rcases hm' with h | h
    · exact h hm
    · rw [hk] at h; cases h
  · exact absurd hF.yes.symm (by simp [hF'])
  · exfalso
    rcases hm with h | h
    · exact h hm'
    · rw [hk'] at h; cases h
  · obtain ⟨rfl, rfl, rfl, rfl, rfl, rfl⟩ := hF.one hF'
    exact ⟨rfl, rfl⟩
  · exact absurd hF.yes.symm (by simp [hF'])
  · exact absurd hF'.yes.symm (by simp [hF])
  · exact absurd hF'.yes.symm (by simp [hF])
  · exact ⟨rfl, rfl⟩

theorem intO_c (kind a : Int) : 0 ≤ (intO kind a).c ∧ (intO kind a).c ≤ 4 := by unfold intO; split <;> (dsimp only; omega)

theorem from_ex (f mode kind a : Int) : ∃ Z fl, FromIs f mode kind a Z fl := by
  by_cases hf : f = 0 ∨ f = 1
  · obtain ⟨p, mx, one, inf, sg, nan, hF⟩ := fmt_of f hf
    by_cases hm : 0 ≤ mode ∧ mode ≤ 4
    · cases hk : fitsK kind a
      · exact ⟨_, _, .inr (.inl ⟨p, mx, one, inf, sg, nan, hF, .inr hk, rfl, rfl⟩)⟩
      · obtain ⟨Z, fl, hp⟩ := pack_is p (1 - mx) mx one inf sg nan mode _ (intO_c kind a).1 (intO_c kind a).2
        exact ⟨Z, fl, .inl ⟨p, mx, one, inf, sg, nan, hF, hm, hk, hp⟩⟩
    · exact ⟨_, _, .inr (.inl ⟨p, mx, one, inf, sg, nan, hF, .inl hm, rfl, rfl⟩)⟩
  · exact ⟨_, _, .inr (.inr ⟨hf, rfl, rfl⟩)⟩

/-! ### the model -/

theorem cmpZ_le (M L : Nat) : decide (cmpZ M L ≤ 0) = decide (M ≤ L) := by
  unfold cmpZ
  by_cases h : M ≤ L
  · rw [decide_eq_true h, decide_eq_true]
    split <;> (try split) <;> omega
  · rw [decide_eq_false h, decide_eq_false]
    rw [if_neg (by omega), if_pos (by omega)]; omega

theorem l5Int_any (kind a : Int) (a0 : 0 ≤ a) (a1 : a < 18446744073709551616) (w : World) :
    Calls Tryz.prog 25 #[.int .i64 kind, .int .u64 a] w fun e w' => ∃ b k c, BigN 2 w' (.slice (some ⟨b, 0, none⟩) k c) (magK kind a) ∧ e = .returned (.tuple #[.agg #[.int .i64 (signK kind a), .slice (some ⟨b, 0, none⟩) k c, .int .i64 0, .bool false], .bool (fitsK kind a)]) ∧ Gb w w' := by
  have HB : ∀ (v : Int) (N : Nat), v = (N : Int) → N < 18446744073709551616 → Hid (∀ w, Calls Tryz.prog 58 #[.int .u64 v] w fun e w' => ∃ b k c, BigN 2 w' (.slice (some ⟨b, 0, none⟩) k c) N ∧ e = .returned (.slice (some ⟨b, 0, none⟩) k c) ∧ Gb w w') := by
    intro v N e h w
    subst e
    exact big_slice ((l2Big_any N h w).mono (fun e w' ⟨v, k, c1, c2, c3, c4⟩ => ⟨v, k, c1, c2, by omega, c4⟩))
  have HM : ∀ s, s = 0 ∨ s = 1 → Hid (∀ w, Calls Tryz.prog 23 #[.int .i64 kind, .int .i64 s] w fun e w' => ∃ b k c, BigN 20 w' (.slice (some ⟨b, 0, none⟩) k c) (mostK kind s) ∧ e = .returned (.slice (some ⟨b, 0, none⟩) k c) ∧ Gb w w') := fun s hs w => l5Most_any kind s hs w
  have HC : ∀ M L : Nat, Hid (∀ v v' w, BigN 2 w v M → BigN 20 w v' L → Calls Tryz.prog 53 #[v, v'] w fun e w' => e = .returned (.int .i64 (cmpZ M L)) ∧ Gb w w') := fun M L v v' w ⟨n, h1, h2⟩ ⟨n', h1', h2'⟩ => l2Cmp_any h2 (by omega) h2' (by omega)
  have HT : Hid (∀ w, Calls Tryz.prog 24 #[.int .i64 63] w fun e w' => e = .returned (.int .u64 9223372036854775808) ∧ w = w') := fun w => l2Two_any 63 _ (by omega) (by decide) w
  have ht : a = ((a.toNat : Nat) : Int) := by omega
  have kd : ∀ B S, bitsK kind = B → sgnK kind = S → Hid (∀ w, Calls Tryz.prog 21 #[.int .i64 kind] w fun e w' => e = .returned (.tuple #[.int .i64 B, .bool S]) ∧ w = w') := by
    intro B S e1 e2 w
    rw [← e1, ← e2]
    exact l5Kind_any kind w
  by_cases hk : 0 ≤ kind ∧ kind ≤ 3
  · have hB : 0 < bitsK kind := by rcases (show kind = 0 ∨ kind = 1 ∨ kind = 2 ∨ kind = 3 by omega) with rfl | rfl | rfl | rfl <;> decide
    have ft : decide (cmpZ (magK kind a) (mostK kind (signK kind a)) ≤ 0) = fitsK kind a := by
      rw [cmpZ_le]; unfold fitsK
      rw [decide_eq_decide]
      exact ⟨fun h => ⟨hk, h⟩, fun h => h.2⟩
    by_cases hs : kind = 0 ∨ kind = 1
    · have hS : sgnK kind = true := by unfold sgnK; exact decide_eq_true hs
      by_cases hh : 9223372036854775808 ≤ a
      · have e1 : signK kind a = 1 := by unfold signK; rw [if_pos ⟨hs, hh⟩]
        have e2 : magK kind a = (18446744073709551616 - a).toNat := by unfold magK; rw [if_pos ⟨hs, hh⟩]
        have hw1 : IntKind.u64.wrap (0 - a) = 18446744073709551616 - a := by rw [IntKind.wrap_u64]; omega
        have hw2 : IntKind.u64.wrap (-a) = 18446744073709551616 - a := by rw [IntKind.wrap_u64]; omega
        rw [e1] at ft ⊢
        exact l5Int_n kind a (18446744073709551616 - a) (bitsK kind) _ a.toNat _ _ _ hB ft (decide_eq_true hh) hw1 hw2 (kd _ _ rfl hS) (HB a _ ht (by omega)) (HB _ _ (by rw [e2]; omega) (magK_lt kind a a0 a1)) HT (HM 1 (.inr rfl)) (HC _ _) w
      · have e1 : signK kind a = 0 := by unfold signK; rw [if_neg (fun h => hh h.2)]
        have e2 : magK kind a = a.toNat := by unfold magK; rw [if_neg (fun h => hh h.2)]
        rw [e1] at ft ⊢
        exact l5Int_p kind a (bitsK kind) _ _ _ _ hB ft (decide_eq_false hh) (kd _ _ rfl hS) (HB a _ (by rw [e2]; exact ht) (magK_lt kind a a0 a1)) HT (HM 0 (.inl rfl)) (HC _ _) w
    · have hS : sgnK kind = false := by unfold sgnK; exact decide_eq_false hs
      have e1 : signK kind a = 0 := by unfold signK; rw [if_neg (fun h => hs h.1)]
      have e2 : magK kind a = a.toNat := by unfold magK; rw [if_neg (fun h => hs h.1)]
      rw [e1] at ft ⊢
      exact l5Int_u kind a (bitsK kind) _ _ _ _ hB ft (kd _ _ rfl hS) (HB a _ (by rw [e2]; exact ht) (magK_lt kind a a0 a1)) (HM 0 (.inl rfl)) (HC _ _) w
  · have hs : ¬ (kind = 0 ∨ kind = 1) := by omega
    have e1 : signK kind a = 0 := by unfold signK; rw [if_neg (fun h => hs h.1)]
    have e2 : magK kind a = a.toNat := by unfold magK; rw [if_neg (fun h => hs h.1)]
    have e3 : fitsK kind a = false := by unfold fitsK; exact decide_eq_false (fun h => hk h.1)
    rw [e1, e3]
    exact l5Int_z kind a _ (kd _ _ (by unfold bitsK; rw [if_neg (by omega), if_neg (by omega)]) (by unfold sgnK; exact decide_eq_false hs)) (HB a _ (by rw [e2]; exact ht) (magK_lt kind a a0 a1)) w

theorem specFromInt_any (f mode kind a : Int) (a0 : 0 ≤ a) (a1 : a < 18446744073709551616) (w : World) :
    Calls Tryz.prog 6 #[.int .i64 f, .int .i64 mode, .int .i64 kind, .int .u64 a] w fun e w' => ∃ Z fl, FromIs f mode kind a Z fl ∧ e = .returned (.agg #[.int .u64 Z, .int .i64 fl]) ∧ Gb w w' := by
  have HX : ∀ t, fitsK kind a = t → Hid (∀ w, Calls Tryz.prog 25 #[.int .i64 kind, .int .u64 a] w fun e w' => ∃ b k c, BigN 2 w' (.slice (some ⟨b, 0, none⟩) k c) (magK kind a) ∧ e = .returned (.tuple #[.agg #[.int .i64 (signK kind a), .slice (some ⟨b, 0, none⟩) k c, .int .i64 0, .bool false], .bool t]) ∧ Gb w w') := fun t ht w => ht ▸ l5Int_any kind a a0 a1 w
  have fin : ∀ Z fl, FromIs f mode kind a Z fl → (Calls Tryz.prog 6 #[.int .i64 f, .int .i64 mode, .int .i64 kind, .int .u64 a] w fun e w' => e = .returned (.agg #[.int .u64 Z, .int .i64 fl]) ∧ Gb w w') → Calls Tryz.prog 6 #[.int .i64 f, .int .i64 mode, .int .i64 kind, .int .u64 a] w fun e w' => ∃ Z fl, FromIs f mode kind a Z fl ∧ e = .returned (.agg #[.int .u64 Z, .int .i64 fl]) ∧ Gb w w' := fun Z fl hp h => h.mono (fun e w' ⟨h1, h2⟩ => ⟨Z, fl, hp, h1, h2⟩)
  by_cases hf : f = 0 ∨ f = 1
  · obtain ⟨p, mx, one, inf, sg, nan, hF⟩ := fmt_of f hf
    cases hk : fitsK kind a
    · exact fin nan 1 (.inr (.inl ⟨p, mx, one, inf, sg, nan, hF, .inr hk, rfl, rfl⟩)) (sFrom_bad0 f mode kind a _ nan 1 _ (HX false hk) (fun w => l2Bad_fmt hF w) w)
    · have HFm : Hid (∀ w, Calls Tryz.prog 26 #[.int .i64 f] w fun e w' => e = .returned (.bool true) ∧ w = w') := fun w => l2Format_any f true (by simp [hf]) w
      by_cases hm : 0 ≤ mode ∧ mode ≤ 4
      · have HWy : Hid (∀ w, Calls Tryz.prog 27 #[.int .i64 mode] w fun e w' => e = .returned (.bool true) ∧ w = w') := fun w => l2Way_any mode true (by simp [hm]) w
        rcases Nat.eq_zero_or_pos (magK kind a) with h0 | h0
        · refine fin (sw 0 sg 0) 0 (.inl ⟨p, mx, one, inf, sg, nan, hF, hm, hk, ?_⟩) (sFrom_zero f mode kind a _ _ _ _ h0 (HX true hk) HFm HWy (fun w => l3Zero_any hF 0 (.inl rfl) w) w)
          unfold intO; rw [if_pos h0]; exact .inl ⟨rfl, rfl, rfl⟩
        · refine (sFrom_num f mode kind a _ _ h0 (HX true hk) HFm HWy (PackIs p (1 - mx) mx one inf sg nan mode ⟨1, signK kind a, 0, magK kind a⟩) (fun v w hB => round_at hF mode hm.1 hm.2 ⟨1, signK kind a, 0, magK kind a⟩ rfl (signK_01 kind a) h0 (by dsimp only; omega) (by dsimp only; omega) 2 (by omega) v w hB) w).mono ?_
          rintro e w' ⟨Z, fl, hp, rfl, hg⟩
          refine ⟨Z, fl, .inl ⟨p, mx, one, inf, sg, nan, hF, hm, hk, ?_⟩, rfl, hg⟩
          unfold intO; rw [if_neg (by omega)]; exact hp
      · exact fin nan 1 (.inr (.inl ⟨p, mx, one, inf, sg, nan, hF, .inl hm, rfl, rfl⟩)) (sFrom_bad2 f mode kind a _ nan 1 _ (HX true hk) HFm (fun w => l2Way_any mode false (by simp; omega) w) (fun w => l2Bad_fmt hF w) w)
  · have hL : Hid (∀ w, Calls Tryz.prog 28 #[.int .i64 f] w fun e w' => e = .returned (.agg #[.int .u64 9221120237041090560, .int .i64 1]) ∧ Gr w w') := fun w => l2Bad_no f hf w
    cases hk : fitsK kind a
    · exact fin _ 1 (.inr (.inr ⟨hf, rfl, rfl⟩)) (sFrom_bad0 f mode kind a _ _ 1 _ (HX false hk) hL w)
    · exact fin _ 1 (.inr (.inr ⟨hf, rfl, rfl⟩)) (sFrom_bad1 f mode kind a _ _ 1 _ (HX true hk) (fun w => l2Format_any f false (by simp; omega) w) hL w)

/-! ### the program -/

theorem beq_dec (x y : Int) : (x == y) = decide (x = y) := by by_cases h : x = y <;> simp [h]

theorem fw_0 (a : Int) (a0 : 0 ≤ a) (a1 : a < 18446744073709551616) : ∃ s m : Int, (fitsK 0 a = true → s = signK 0 a ∧ m = ((magK 0 a : Nat) : Int)) ∧ ∀ w, Calls Tryz.prog 125 #[.agg #[.int .i32 (-2147483648), .int .i32 2147483647], .int .u64 a] w fun e w' => e = .returned (.tuple #[.int .i64 s, .int .u64 m, .bool (fitsK 0 a)]) ∧ Gr w w' := by
  obtain ⟨x, hx⟩ : ∃ x, IntKind.i32.wrap a = x := ⟨_, rfl⟩
  have hx' := hx
  rw [IntKind.wrap_i32] at hx'
  have hft : fitsK 0 a = decide (IntKind.u64.wrap x = a) := by
    unfold fitsK
    rw [IntKind.wrap_u64, decide_eq_decide]
    by_cases h : 9223372036854775808 ≤ a
    · have e1 : signK 0 a = 1 := by unfold signK; rw [if_pos ⟨.inl rfl, h⟩]
      have e2 : magK 0 a = (18446744073709551616 - a).toNat := by unfold magK; rw [if_pos ⟨.inl rfl, h⟩]
      rw [e1, e2, show mostK 0 1 = 2147483648 by decide]; omega
    · have e1 : signK 0 a = 0 := by unfold signK; rw [if_neg (fun k => h k.2)]
      have e2 : magK 0 a = a.toNat := by unfold magK; rw [if_neg (fun k => h k.2)]
      rw [e1, e2, show mostK 0 0 = 2147483647 by decide]; omega
  have hd := hft
  rw [hd]
  by_cases c : x < 0
  · refine ⟨1, IntKind.u64.wrap (-a), fun h => ?_, fun w => fromWord_0n a x _ _ _ hx c rfl (beq_dec _ _) rfl w⟩
    have := of_decide_eq_true h
    rw [IntKind.wrap_u64] at this
    have hh : 9223372036854775808 ≤ a := by omega
    unfold signK magK
    rw [if_pos ⟨.inl rfl, hh⟩, if_pos ⟨.inl rfl, hh⟩, IntKind.wrap_u64]
    exact ⟨rfl, by omega⟩
  · refine ⟨0, a, fun h => ?_, fun w => fromWord_0p a x _ _ hx (by omega) rfl (beq_dec _ _) w⟩
    have := of_decide_eq_true h
    rw [IntKind.wrap_u64] at this
    have hh : ¬ 9223372036854775808 ≤ a := by omega
    unfold signK magK
    rw [if_neg (fun k => hh k.2), if_neg (fun k => hh k.2)]
    exact ⟨rfl, by omega⟩

theorem fw_1 (a : Int) (a0 : 0 ≤ a) (a1 : a < 18446744073709551616) : ∃ s m : Int, (fitsK 1 a = true → s = signK 1 a ∧ m = ((magK 1 a : Nat) : Int)) ∧ ∀ w, Calls Tryz.prog 128 #[.agg #[.int .i64 (-9223372036854775808), .int .i64 9223372036854775807], .int .u64 a] w fun e w' => e = .returned (.tuple #[.int .i64 s, .int .u64 m, .bool (fitsK 1 a)]) ∧ Gr w w' := by
  obtain ⟨x, hx⟩ : ∃ x, IntKind.i64.wrap a = x := ⟨_, rfl⟩
  have hx' := hx
  rw [IntKind.wrap_i64] at hx'
  have hft : fitsK 1 a = decide (IntKind.u64.wrap x = a) := by
    unfold fitsK
    rw [IntKind.wrap_u64, decide_eq_decide]
    by_cases h : 9223372036854775808 ≤ a
    · have e1 : signK 1 a = 1 := by unfold signK; rw [if_pos ⟨.inr rfl, h⟩]
      have e2 : magK 1 a = (18446744073709551616 - a).toNat := by unfold magK; rw [if_pos ⟨.inr rfl, h⟩]
      rw [e1, e2, show mostK 1 1 = 9223372036854775808 by decide]; omega
    · have e1 : signK 1 a = 0 := by unfold signK; rw [if_neg (fun k => h k.2)]
      have e2 : magK 1 a = a.toNat := by unfold magK; rw [if_neg (fun k => h k.2)]
      rw [e1, e2, show mostK 1 0 = 9223372036854775807 by decide]; omega
  have hd := hft
  rw [hd]
  by_cases c : x < 0
  · refine ⟨1, IntKind.u64.wrap (-a), fun h => ?_, fun w => fromWord_1n a x _ _ _ hx c rfl (beq_dec _ _) rfl w⟩
    have hh : 9223372036854775808 ≤ a := by omega
    unfold signK magK
    rw [if_pos ⟨.inr rfl, hh⟩, if_pos ⟨.inr rfl, hh⟩, IntKind.wrap_u64]
    exact ⟨rfl, by omega⟩
  · refine ⟨0, a, fun h => ?_, fun w => fromWord_1p a x _ _ hx (by omega) rfl (beq_dec _ _) w⟩
    have hh : ¬ 9223372036854775808 ≤ a := by omega
    unfold signK magK
    rw [if_neg (fun k => hh k.2), if_neg (fun k => hh k.2)]
    exact ⟨rfl, by omega⟩

theorem fw_2 (a : Int) (a0 : 0 ≤ a) (a1 : a < 18446744073709551616) : ∃ s m : Int, (fitsK 2 a = true → s = signK 2 a ∧ m = ((magK 2 a : Nat) : Int)) ∧ ∀ w, Calls Tryz.prog 130 #[.agg #[.int .u32 0, .int .u32 4294967295], .int .u64 a] w fun e w' => e = .returned (.tuple #[.int .i64 s, .int .u64 m, .bool (fitsK 2 a)]) ∧ Gr w w' := by
  obtain ⟨x, hx⟩ : ∃ x, IntKind.u32.wrap a = x := ⟨_, rfl⟩
  have hx' := hx
  rw [IntKind.wrap_u32] at hx'
  have hsg : signK 2 a = 0 := by unfold signK; rw [if_neg (by omega)]
  have hmg : magK 2 a = a.toNat := by unfold magK; rw [if_neg (by omega)]
  have hft : fitsK 2 a = decide (IntKind.u64.wrap x = a) := by
    unfold fitsK
    rw [hsg, hmg]
    rw [IntKind.wrap_u64, decide_eq_decide, show mostK 2 0 = 4294967295 by decide]
    omega
  rw [hft, hsg, hmg]
  exact ⟨0, a, fun _ => ⟨rfl, by omega⟩, fun w => fromWord_2p a x _ _ hx (by omega) rfl (beq_dec _ _) w⟩

theorem fw_3 (a : Int) (a0 : 0 ≤ a) (a1 : a < 18446744073709551616) : ∃ s m : Int, (fitsK 3 a = true → s = signK 3 a ∧ m = ((magK 3 a : Nat) : Int)) ∧ ∀ w, Calls Tryz.prog 132 #[.agg #[.int .u64 0, .int .u64 18446744073709551615], .int .u64 a] w fun e w' => e = .returned (.tuple #[.int .i64 s, .int .u64 m, .bool (fitsK 3 a)]) ∧ Gr w w' := by
  have hsg : signK 3 a = 0 := by unfold signK; rw [if_neg (by omega)]
  have hmg : magK 3 a = a.toNat := by unfold magK; rw [if_neg (by omega)]
  have hft : fitsK 3 a = true := by
    unfold fitsK
    rw [hsg, hmg]
    rw [show mostK 3 0 = 18446744073709551615 by decide]
    exact decide_eq_true (by omega)
  rw [hft, hsg, hmg]
  exact ⟨0, a, fun _ => ⟨rfl, by omega⟩, fun w => fromWord_3p a a0 (by rw [IntKind.wrap_u64]; omega) w⟩

theorem implFromInt_any (f mode kind a : Int) (a0 : 0 ≤ a) (a1 : a < 18446744073709551616) (w : World) (hw : Fm w) :
    Calls Tryz.prog 7 #[.int .i64 f, .int .i64 mode, .int .i64 kind, .int .u64 a] w fun e w' => ∃ Z fl, FromIs f mode kind a Z fl ∧ e = .returned (.agg #[.int .u64 Z, .int .i64 fl]) ∧ Gr w w' := by
  have fin : ∀ Z, FromIs f mode kind a Z 1 → (Calls Tryz.prog 7 #[.int .i64 f, .int .i64 mode, .int .i64 kind, .int .u64 a] w fun e w' => e = .returned (.agg #[.int .u64 Z, .int .i64 1]) ∧ Gr w w') → Calls Tryz.prog 7 #[.int .i64 f, .int .i64 mode, .int .i64 kind, .int .u64 a] w fun e w' => ∃ Z fl, FromIs f mode kind a Z fl ∧ e = .returned (.agg #[.int .u64 Z, .int .i64 fl]) ∧ Gr w w' := fun Z hp h => h.mono (fun e w' ⟨h1, h2⟩ => ⟨Z, 1, hp, h1, h2⟩)
  have kn : ∃ (kv : Value) (kb : Bool), ∀ w, Calls Tryz.prog 32 #[.int .i64 kind] w fun e w' => e = .returned (.tuple #[kv, .bool kb]) ∧ Gr w w' := by
    by_cases hk : 0 ≤ kind ∧ kind ≤ 3
    · rcases (show kind = 0 ∨ kind = 1 ∨ kind = 2 ∨ kind = 3 by omega) with rfl | rfl | rfl | rfl
      · exact ⟨_, _, kindOf_0⟩
      · exact ⟨_, _, kindOf_1⟩
      · exact ⟨_, _, kindOf_2⟩
      · exact ⟨_, _, kindOf_3⟩
    · exact ⟨_, _, fun w => kindOf_no kind hk w⟩
  obtain ⟨kv, kb, HKn⟩ := kn
  by_cases hf : f = 0 ∨ f = 1
  · obtain ⟨p, mx, one, inf, sg, nan, hF⟩ := fmt_of f hf
    obtain ⟨mn, fb, sp, hM, hmn, hfb⟩ := hF.m
    have HN : Hid (∀ w, Calls Tryz.prog 33 #[.agg #[.int .i64 p, .int .i64 mn, .int .i64 mx]] w fun e w' => e = .returned (.agg #[.int .u64 nan, .int .i64 1]) ∧ Gr w w') := fun w => invalid_any hM w
    by_cases hm : 0 ≤ mode ∧ mode ≤ 4
    · obtain ⟨k, hk⟩ := rule_of mode hm.1 hm.2
      have HS : Hid (∀ w', Gr w w' → Calls Tryz.prog 31 #[.int .i64 f, .int .i64 mode] w' fun x w'' => x = .returned (.tuple #[.agg #[.int .i64 p, .int .i64 mn, .int .i64 mx, .int .i64 mode, .func (.func k) #[] #[]], .bool true]) ∧ Gr w' w'') := fun w'' hg' => settingOf_yes hF hM mode k (fun w => ruleOf_yes mode k hk w) (hw.gr hg')
      have bad : fitsK kind a = false → FromIs f mode kind a nan 1 := fun h => .inr (.inl ⟨p, mx, one, inf, sg, nan, hF, .inr h, rfl, rfl⟩)
      have HR : ∀ s m, s = signK kind a → m = ((magK kind a : Nat) : Int) → Hid (∀ w, Calls Tryz.prog 34 #[.agg #[.int .i64 p, .int .i64 mn, .int .i64 mx, .int .i64 mode, .func (.func k) #[] #[]], .int .i64 s, .int .i64 0, .agg #[.int .u64 0, .int .u64 m], .bool false] w fun e w' => ∃ z fl, PackIs p (1 - mx) mx one inf sg nan mode (intO kind a) z fl ∧ e = .returned (.agg #[.int .u64 z, .int .i64 fl]) ∧ Gr w w') := by
        intro s m hs hm' w
        subst hs hm'
        have hlt := magK_lt kind a a0 a1
        rcases Nat.eq_zero_or_pos (magK kind a) with h0 | h0
        · have hs0 : signK kind a = 0 := by
            unfold magK at h0
            unfold signK
            by_cases c : (kind = 0 ∨ kind = 1) ∧ 9223372036854775808 ≤ a
            · rw [if_pos c] at h0; exfalso; omega
            · rw [if_neg c]
          rw [h0, hs0]
          refine (round_Z hM mode k 0 0 false (by omega) (by omega) (sw 0 sg 0) (fun w => zero_any hM 0 _ (.inl ⟨rfl, by simp [sw]⟩) w) w).mono ?_
          rintro e w' ⟨rfl, hg⟩
          refine ⟨_, _, ?_, rfl, hg⟩
          unfold intO; rw [if_pos h0]; exact .inl ⟨rfl, rfl, rfl⟩
        · have := round_num hM mode mode k hk (signK kind a) (signK_01 kind a) 0 (by omega) (by omega) (magK kind a) h0 (by omega) false (fun h => by cases h) w
          rw [show magK kind a / 18446744073709551616 = 0 by omega, show magK kind a % 18446744073709551616 = magK kind a by omega] at this
          refine this.mono ?_
          rintro e w' ⟨z, fl, hr, rfl, hg⟩
          rw [hmn] at hr
          refine ⟨_, _, ?_, rfl, hg⟩
          unfold intO; rw [if_neg (by omega)]
          exact .inr (.inl ⟨rfl, z, hr, by rw [sv_sw]⟩)
      have ok : fitsK kind a = true → (∃ s m, (s = signK kind a ∧ m = ((magK kind a : Nat) : Int)) ∧ Calls Tryz.prog 7 #[.int .i64 f, .int .i64 mode, .int .i64 kind, .int .u64 a] w fun e w' => ∃ z fl, PackIs p (1 - mx) mx one inf sg nan mode (intO kind a) z fl ∧ e = .returned (.agg #[.int .u64 z, .int .i64 fl]) ∧ Gr w w') → Calls Tryz.prog 7 #[.int .i64 f, .int .i64 mode, .int .i64 kind, .int .u64 a] w fun e w' => ∃ Z fl, FromIs f mode kind a Z fl ∧ e = .returned (.agg #[.int .u64 Z, .int .i64 fl]) ∧ Gr w w' := fun hq ⟨s, m, _, h⟩ => h.mono (fun e w' ⟨z, fl, h0, h1, h2⟩ => ⟨z, fl, .inl ⟨p, mx, one, inf, sg, nan, hF, hm, hq, h0⟩, h1, h2⟩)
      by_cases hkd : 0 ≤ kind ∧ kind ≤ 3
      · rcases (show kind = 0 ∨ kind = 1 ∨ kind = 2 ∨ kind = 3 by omega) with rfl | rfl | rfl | rfl
        · obtain ⟨s, m, he, HW⟩ := fw_0 a a0 a1
          cases hq : fitsK 0 a <;> rw [hq] at HW he
          · exact fin nan (bad hq) (from_bad0 p mn mx mode nan f mode 0 a s m k HS kindOf_0 HW HN)
          · exact ok hq ⟨s, m, he rfl, from_ok0 p mn mx mode f mode 0 a s m k HS kindOf_0 HW _ (HR s m (he rfl).1 (he rfl).2)⟩
        · obtain ⟨s, m, he, HW⟩ := fw_1 a a0 a1
          cases hq : fitsK 1 a <;> rw [hq] at HW he
          · exact fin nan (bad hq) (from_bad1 p mn mx mode nan f mode 1 a s m k HS kindOf_1 HW HN)
          · exact ok hq ⟨s, m, he rfl, from_ok1 p mn mx mode f mode 1 a s m k HS kindOf_1 HW _ (HR s m (he rfl).1 (he rfl).2)⟩
        · obtain ⟨s, m, he, HW⟩ := fw_2 a a0 a1
          cases hq : fitsK 2 a <;> rw [hq] at HW he
          · exact fin nan (bad hq) (from_bad2 p mn mx mode nan f mode 2 a s m k HS kindOf_2 HW HN)
          · exact ok hq ⟨s, m, he rfl, from_ok2 p mn mx mode f mode 2 a s m k HS kindOf_2 HW _ (HR s m (he rfl).1 (he rfl).2)⟩
        · obtain ⟨s, m, he, HW⟩ := fw_3 a a0 a1
          cases hq : fitsK 3 a <;> rw [hq] at HW he
          · exact fin nan (bad hq) (from_bad3 p mn mx mode nan f mode 3 a s m k HS kindOf_3 HW HN)
          · exact ok hq ⟨s, m, he rfl, from_ok3 p mn mx mode f mode 3 a s m k HS kindOf_3 HW _ (HR s m (he rfl).1 (he rfl).2)⟩
      · exact fin nan (bad (by unfold fitsK; exact decide_eq_false (fun h => hkd h.1))) (from_no2 p mn mx mode nan f mode kind a k HS (fun w => kindOf_no kind hkd w) HN)
    · exact fin nan (.inr (.inl ⟨p, mx, one, inf, sg, nan, hF, .inl hm, rfl, rfl⟩)) (from_no1 p mn mx mode nan f mode kind a kv kb (fun w'' hg' => settingOf_bad hF hM mode (fun w => ruleOf_no mode (by omega) w) (hw.gr hg')) HKn HN)
  · exact fin _ (.inr (.inr ⟨hf, rfl, rfl⟩)) (from_no1 _ _ _ _ _ f mode kind a kv kb (fun w'' hg' => settingOf_none f mode hf (hw.gr hg')) HKn (fun w => invalid_any m64 w))

theorem fromInt_same (f mode kind a : Int) (a0 : 0 ≤ a) (a1 : a < 18446744073709551616) :
    ∃ Z fl : Int, FromIs f mode kind a Z fl ∧ (∀ w, Calls Tryz.prog 6 #[.int .i64 f, .int .i64 mode, .int .i64 kind, .int .u64 a] w fun e w' => e = .returned (.agg #[.int .u64 Z, .int .i64 fl]) ∧ Gb w w') ∧
      (∀ w, Fm w → Calls Tryz.prog 7 #[.int .i64 f, .int .i64 mode, .int .i64 kind, .int .u64 a] w fun e w' => e = .returned (.agg #[.int .u64 Z, .int .i64 fl]) ∧ Gr w w') :=
  both_by (fun _ _ _ _ h h' => FromIs.one h h') (from_ex f mode kind a) (specFromInt_any f mode kind a a0 a1) (implFromInt_any f mode kind a a0 a1)

end Go.Proofs.YtpcblkmfnbjphaaGreatDoor
