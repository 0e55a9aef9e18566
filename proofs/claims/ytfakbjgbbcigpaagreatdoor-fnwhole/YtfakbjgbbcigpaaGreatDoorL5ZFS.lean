/- FromInt: the model. -/
import Derived.Test.YtfakbjgbbcigpaaGreatDoorG1
import Derived.Test.YtfakbjgbbcigpaaGreatDoorG3
set_option linter.unusedVariables false
set_option linter.unusedSimpArgs false
namespace Go.Proofs.YtfakbjgbbcigpaaGreatDoor
open Go.RowKit

/-- The number of an integer's word. -/
def intO (kind a : Int) : Opd := if magK kind a = 0 then ⟨0, 0, 0, 0⟩ else ⟨1, signK kind a, 0, magK kind a⟩
/-- What FromInt answers. -/
def FromIs (f mode kind a Z fl : Int) : Prop :=
  (∃ p mx one inf sg nan, IsFmt f p mx one inf sg nan ∧ (0 ≤ mode ∧ mode ≤ 4) ∧ fitsK kind a = true ∧ PackIs p (1 - mx) mx one inf sg nan mode (intO kind a) Z fl) ∨
  (∃ p mx one inf sg nan, IsFmt f p mx one inf sg nan ∧ (¬ (0 ≤ mode ∧ mode ≤ 4) ∨ fitsK kind a = false) ∧ Z = nan ∧ fl = 1) ∨
  (¬ (f = 0 ∨ f = 1) ∧ Z = 9221120237041090560 ∧ fl = 1)

theorem FromIs.one {f mode kind a Z fl Z' fl' : Int} (h : FromIs f mode kind a Z fl) (h' : FromIs f mode kind a Z' fl') : Z = Z' ∧ fl = fl' := by
  rcases h with ⟨p, mx, one, inf, sg, nan, hF, hm, hk, hp⟩ | ⟨p, mx, one, inf, sg, nan, hF, hm, rfl, rfl⟩ | ⟨hF, rfl, rfl⟩ <;>
  rcases h' with ⟨p', mx', one', inf', sg', nan', hF', hm', hk', hp'⟩ | ⟨p', mx', one', inf', sg', nan', hF', hm', rfl, rfl⟩ | ⟨hF', rfl, rfl⟩
  · obtain ⟨rfl, rfl, rfl, rfl, rfl, rfl⟩ := hF.one hF'
    exact PackIs.one hp hp'
  · exfalso
    rcases hm' with h | h
    · exact h hm
    · rw [hk] at h; cases h
  · exact absurd hF.yes.symm (by simp [hF'])
  · exfalso
    rcases hm with h | h
    · exact h hm'
    · rw [hk'] at h; cases h
  · obtain ⟨rfl, rfl, rfl, rfl, rfl, rfl⟩ := hF.one hF'
    exact ⟨rfl, rfl⟩
  · exact absurd hF.yes.symm (by simp [hF'])
  · exact absurd hF'.yes.symm (by simp [hF])
  · exact absurd hF'.yes.symm (by simp [hF])
  · exact ⟨rfl, rfl⟩

theorem intO_c (kind a : Int) : 0 ≤ (intO kind a).c ∧ (intO kind a).c ≤ 4 := by unfold intO; split <;> (dsimp only; omega)

theorem from_ex (f mode kind a : Int) : ∃ Z fl, FromIs f mode kind a Z fl := by
  by_cases hf : f = 0 ∨ f = 1
  · obtain ⟨p, mx, one, inf, sg, nan, hF⟩ := fmt_of f hf
    by_cases hm : 0 ≤ mode ∧ mode ≤ 4
    · cases hk : fitsK kind a
      · exact ⟨_, _, .inr (.inl ⟨p, mx, one, inf, sg, nan, hF, .inr hk, rfl, rfl⟩)⟩
      · obtain ⟨Z, fl, hp⟩ := pack_is p (1 - mx) mx one inf sg nan mode _ (intO_c kind a).1 (intO_c kind a).2
        exact ⟨Z, fl, .inl ⟨p, mx, one, inf, sg, nan, hF, hm, hk, hp⟩⟩
    · exact ⟨_, _, .inr (.inl ⟨p, mx, one, inf, sg, nan, hF, .inl hm, rfl, rfl⟩)⟩
  · exact ⟨_, _, .inr (.inr ⟨hf, rfl, rfl⟩)⟩

/-! ### the model -/

theorem cmpZ_le (M L : Nat) : decide (cmpZ M L ≤ 0) = decide (M ≤ L) := by
  unfold cmpZ
  by_cases h : M ≤ L
  · rw [decide_eq_true h, decide_eq_true]
    split <;> (try split) <;> omega
  · rw [decide_eq_false h, decide_eq_false]
    rw [if_neg (by omega), if_pos (by omega)]; omega

theorem l5Int_any (kind a : Int) (a0 : 0 ≤ a) (a1 : a < 18446744073709551616) (w : World) :
    Calls Tryz.prog 25 #[.int .i64 kind, .int .u64 a] w fun e w' => ∃ b k c, BigN 2 w' (.slice (some ⟨b, 0, none⟩) k c) (magK kind a) ∧ e = .returned (.tuple #[.agg #[.int .i64 (signK kind a), .slice (some ⟨b, 0, none⟩) k c, .int .i64 0, .bool false], .bool (fitsK kind a)]) ∧ Gb w w' := by
  have HB : ∀ (v : Int) (N : Nat), v = (N : Int) → N < 18446744073709551616 → Hid (∀ w, Calls Tryz.prog 58 #[.int .u64 v] w fun e w' => ∃ b k c, BigN 2 w' (.slice (some ⟨b, 0, none⟩) k c) N ∧ e = .returned (.slice (some ⟨b, 0, none⟩) k c) ∧ Gb w w') := by
    intro v N e h w
    subst e
    exact big_slice ((l2Big_any N h w).mono (fun e w' ⟨v, k, c1, c2, c3, c4⟩ => ⟨v, k, c1, c2, by omega, c4⟩))
  have HM : ∀ s, s = 0 ∨ s = 1 → Hid (∀ w, Calls Tryz.prog 23 #[.int .i64 kind, .int .i64 s] w fun e w' => ∃ b k c, BigN 20 w' (.slice (some ⟨b, 0, none⟩) k c) (mostK kind s) ∧ e = .returned (.slice (some ⟨b, 0, none⟩) k c) ∧ Gb w w') := fun s hs w => l5Most_any kind s hs w
  have HC : ∀ M L : Nat, Hid (∀ v v' w, BigN 2 w v M → BigN 20 w v' L → Calls Tryz.prog 53 #[v, v'] w fun e w' => e = .returned (.int .i64 (cmpZ M L)) ∧ Gb w w') := fun M L v v' w ⟨n, h1, h2⟩ ⟨n', h1', h2'⟩ => l2Cmp_any h2 (by omega) h2' (by omega)
  have HT : Hid (∀ w, Calls Tryz.prog 24 #[.int .i64 63] w fun e w' => e = .returned (.int .u64 9223372036854775808) ∧ w = w') := fun w => l2Two_any 63 _ (by omega) (by decide) w
  have ht : a = ((a.toNat : Nat) : Int) := by omega
  have kd : ∀ B S, bitsK kind = B → sgnK kind = S → Hid (∀ w, Calls Tryz.prog 21 #[.int .i64 kind] w fun e w' => e = .returned (.tuple #[.int .i64 B, .bool S]) ∧ w = w') := by
    intro B S e1 e2 w
    rw [← e1, ← e2]
    exact l5Kind_any kind w
  by_cases hk : 0 ≤ kind ∧ kind ≤ 3
  · have hB : 0 < bitsK kind := by rcases (show kind = 0 ∨ kind = 1 ∨ kind = 2 ∨ kind = 3 by omega) with rfl | rfl | rfl | rfl <;> decide
    have ft : decide (cmpZ (magK kind a) (mostK kind (signK kind a)) ≤ 0) = fitsK kind a := by
      rw [cmpZ_le]; unfold fitsK
      rw [decide_eq_decide]
      exact ⟨fun h => ⟨hk, h⟩, fun h => h.2⟩
    by_cases hs : kind = 0 ∨ kind = 1
    · have hS : sgnK kind = true := by unfold sgnK; exact decide_eq_true hs
      by_cases hh : 9223372036854775808 ≤ a
      · have e1 : signK kind a = 1 := by unfold signK; rw [if_pos ⟨hs, hh⟩]
        have e2 : magK kind a = (18446744073709551616 - a).toNat := by unfold magK; rw [if_pos ⟨hs, hh⟩]
        have hw1 : IntKind.u64.wrap (0 - a) = 18446744073709551616 - a := by rw [IntKind.wrap_u64]; omega
        have hw2 : IntKind.u64.wrap (-a) = 18446744073709551616 - a := by rw [IntKind.wrap_u64]; omega
        rw [e1] at ft ⊢
        exact l5Int_n kind a (18446744073709551616 - a) (bitsK kind) _ a.toNat _ _ _ hB ft (decide_eq_true hh) hw1 hw2 (kd _ _ rfl hS) (HB a _ ht (by omega)) (HB _ _ (by rw [e2]; omega) (magK_lt kind a a0 a1)) HT (HM 1 (.inr rfl)) (HC _ _) w
      · have e1 : signK kind a = 0 := by unfold signK; rw [if_neg (fun h => hh h.2)]
        have e2 : magK kind a = a.toNat := by unfold magK; rw [if_neg (fun h => hh h.2)]
        rw [e1] at ft ⊢
        exact l5Int_p kind a (bitsK kind) _ _ _ _ hB ft (decide_eq_false hh) (kd _ _ rfl hS) (HB a _ (by rw [e2]; exact ht) (magK_lt kind a a0 a1)) HT (HM 0 (.inl rfl)) (HC _ _) w
    · have hS : sgnK kind = false := by unfold sgnK; exact decide_eq_false hs
      have e1 : signK kind a = 0 := by unfold signK; rw [if_neg (fun h => hs h.1)]
      have e2 : magK kind a = a.toNat := by unfold magK; rw [if_neg (fun h => hs h.1)]
      rw [e1] at ft ⊢
      exact l5Int_u kind a (bitsK kind) _ _ _ _ hB ft (kd _ _ rfl hS) (HB a _ (by rw [e2]; exact ht) (magK_lt kind a a0 a1)) (HM 0 (.inl rfl)) (HC _ _) w
  · have hs : ¬ (kind = 0 ∨ kind = 1) := by omega
    have e1 : signK kind a = 0 := by unfold signK; rw [if_neg (fun h => hs h.1)]
    have e2 : magK kind a = a.toNat := by unfold magK; rw [if_neg (fun h => hs h.1)]
    have e3 : fitsK kind a = false := by unfold fitsK; exact decide_eq_false (fun h => hk h.1)
    rw [e1, e3]
    exact l5Int_z kind a _ (kd _ _ (by unfold bitsK; rw [if_neg (by omega), if_neg (by omega)]) (by unfold sgnK; exact decide_eq_false hs)) (HB a _ (by rw [e2]; exact ht) (magK_lt kind a a0 a1)) w

theorem specFromInt_any (f mode kind a : Int) (a0 : 0 ≤ a) (a1 : a < 18446744073709551616) (w : World) :
    Calls Tryz.prog 6 #[.int .i64 f, .int .i64 mode, .int .i64 kind, .int .u64 a] w fun e w' => ∃ Z fl, FromIs f mode kind a Z fl ∧ e = .returned (.agg #[.int .u64 Z, .int .i64 fl]) ∧ Gb w w' := by
  have HX : ∀ t, fitsK kind a = t → Hid (∀ w, Calls Tryz.prog 25 #[.int .i64 kind, .int .u64 a] w fun e w' => ∃ b k c, BigN 2 w' (.slice (some ⟨b, 0, none⟩) k c) (magK kind a) ∧ e = .returned (.tuple #[.agg #[.int .i64 (signK kind a), .slice (some ⟨b, 0, none⟩) k c, .int .i64 0, .bool false], .bool t]) ∧ Gb w w') := fun t ht w => ht ▸ l5Int_any kind a a0 a1 w
  have fin : ∀ Z fl, FromIs f mode kind a Z fl → (Calls Tryz.prog 6 #[.int .i64 f, .int .i64 mode, .int .i64 kind, .int .u64 a] w fun e w' => e = .returned (.agg #[.int .u64 Z, .int .i64 fl]) ∧ Gb w w') → Calls Tryz.prog 6 #[.int .i64 f, .int .i64 mode, .int .i64 kind, .int .u64 a] w fun e w' => ∃ Z fl, FromIs f mode kind a Z fl ∧ e = .returned (.agg #[.int .u64 Z, .int .i64 fl]) ∧ Gb w w' := fun Z fl hp h => h.mono (fun e w' ⟨h1, h2⟩ => ⟨Z, fl, hp, h1, h2⟩)
  by_cases hf : f = 0 ∨ f = 1
  · obtain ⟨p, mx, one, inf, sg, nan, hF⟩ := fmt_of f hf
    cases hk : fitsK kind a
    · exact fin nan 1 (.inr (.inl ⟨p, mx, one, inf, sg, nan, hF, .inr hk, rfl, rfl⟩)) (sFrom_bad0 f mode kind a _ nan 1 _ (HX false hk) (fun w => l2Bad_fmt hF w) w)
    · have HFm : Hid (∀ w, Calls Tryz.prog 26 #[.int .i64 f] w fun e w' => e = .returned (.bool true) ∧ w = w') := fun w => l2Format_any f true (by simp [hf]) w
      by_cases hm : 0 ≤ mode ∧ mode ≤ 4
      · have HWy : Hid (∀ w, Calls Tryz.prog 27 #[.int .i64 mode] w fun e w' => e = .returned (.bool true) ∧ w = w') := fun w => l2Way_any mode true (by simp [hm]) w
        rcases Nat.eq_zero_or_pos (magK kind a) with h0 | h0
        · refine fin (sw 0 sg 0) 0 (.inl ⟨p, mx, one, inf, sg, nan, hF, hm, hk, ?_⟩) (sFrom_zero f mode kind a _ _ _ _ h0 (HX true hk) HFm HWy (fun w => l3Zero_any hF 0 (.inl rfl) w) w)
          unfold intO; rw [if_pos h0]; exact .inl ⟨rfl, rfl, rfl⟩
        · refine (sFrom_num f mode kind a _ _ h0 (HX true hk) HFm HWy (PackIs p (1 - mx) mx one inf sg nan mode ⟨1, signK kind a, 0, magK kind a⟩) (fun v w hB => round_at hF mode hm.1 hm.2 ⟨1, signK kind a, 0, magK kind a⟩ rfl (signK_01 kind a) h0 (by dsimp only; omega) (by dsimp only; omega) 2 (by omega) v w hB) w).mono ?_
          rintro e w' ⟨Z, fl, hp, rfl, hg⟩
          refine ⟨Z, fl, .inl ⟨p, mx, one, inf, sg, nan, hF, hm, hk, ?_⟩, rfl, hg⟩
          unfold intO; rw [if_neg (by omega)]; exact hp
      · exact fin nan 1 (.inr (.inl ⟨p, mx, one, inf, sg, nan, hF, .inl hm, rfl, rfl⟩)) (sFrom_bad2 f mode kind a _ nan 1 _ (HX true hk) HFm (fun w => l2Way_any mode false (by simp; omega) w) (fun w => l2Bad_fmt hF w) w)
  · have hL : Hid (∀ w, Calls Tryz.prog 28 #[.int .i64 f] w fun e w' => e = .returned (.agg #[.int .u64 9221120237041090560, .int .i64 1]) ∧ Gr w w') := fun w => l2Bad_no f hf w
    cases hk : fitsK kind a
    · exact fin _ 1 (.inr (.inr ⟨hf, rfl, rfl⟩)) (sFrom_bad0 f mode kind a _ _ 1 _ (HX false hk) hL w)
    · exact fin _ 1 (.inr (.inr ⟨hf, rfl, rfl⟩)) (sFrom_bad1 f mode kind a _ _ 1 _ (HX true hk) (fun w => l2Format_any f false (by simp; omega) w) hL w)

end Go.Proofs.YtfakbjgbbcigpaaGreatDoor
