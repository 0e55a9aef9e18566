/- RoundPack of what Unpack gives. -/
import Derived.Test.YtoaggnpcmieeaaaDoorRPSame
import Derived.Test.YtoaggnpcmieeaaaDoorL2B
import Derived.Test.YtoaggnpcmieeaaaDoorPackBack
set_option linter.unusedVariables false
set_option linter.unusedSimpArgs false
namespace Go.Proofs.YtoaggnpcmieeaaaDoor
open Go.RowKit

/-- The program's RoundPack of what Unpack gives of a number is the word again. -/
theorem implRP_back {f p mx one inf sg nan : Int} (h : IsFmt f p mx one inf sg nan) (W c s x g : Int) (hU : UnpackIs p mx one inf sg nan W c s x g) (hc : c ≤ 1) (mode : Int) (m0 : 0 ≤ mode) (m1 : mode ≤ 4) {w : World} (hw : Fm w) :
    Calls Tryd.prog 14 #[.int .i64 f, .int .i64 mode, .int .i64 s, .int .i64 x, .agg #[.int .u64 0, .int .u64 g], .bool false] w fun y w' => y = .returned (.agg #[.int .u64 W, .int .i64 0]) ∧ Gr w w' := by
  obtain ⟨mn, fb, sp, hm, hmn, hfb⟩ := h.m
  obtain ⟨b1, b2, b3, b4, b5, b6, b7, b8, b9, b10, b11, b12⟩ := h.bounds
  obtain ⟨k, hk⟩ := rule_of mode m0 m1
  have HW : Hid (∀ w', Gr w w' → Calls Tryd.prog 40 #[.int .i64 f, .int .i64 mode] w' fun x w'' => x = .returned (.tuple #[.agg #[.int .i64 p, .int .i64 mn, .int .i64 mx, .int .i64 mode, .func (.func k) #[] #[]], .bool true]) ∧ Gr w' w'') := fun w' hg => settingOf_yes h hm mode k (fun w => ruleOf_yes mode k hk w) (hw.gr hg)
  obtain ⟨v, hv, hd⟩ := hU
  rcases hd with ⟨rfl, rfl, rfl, rfl⟩ | ⟨_, _, rfl, _⟩ | ⟨_, rfl, _⟩ | ⟨_, rfl, _⟩ | ⟨v0, v1, rfl, hn⟩
  · refine (implRP_ok f mode s 0 0 0 k false HW (by omega) (by omega) (by omega) (by omega) (fun c => by cases c) (fun z fl => z = W ∧ fl = 0) (fun w => ?_)).mono ?_
    · refine (round_zero hm mode k s (by omega) 0 (by omega) (by omega) false w).mono ?_
      rintro x w' ⟨rfl, hg⟩
      refine ⟨_, _, ⟨?_, rfl⟩, rfl, hg⟩
      unfold sv; split <;> omega
    · rintro x w' ⟨z, fl, ⟨rfl, rfl⟩, rfl, hg⟩
      exact ⟨rfl, hg⟩
  · omega
  · omega
  · omega
  · obtain ⟨g0, g1, x0, x1, hri⟩ := back_is h mode s v x g v0 v1 hn
    obtain ⟨G, rfl⟩ := Int.eq_ofNat_of_zero_le (show 0 ≤ g by omega)
    rw [Int.toNat_natCast] at hri
    have hh : G / 18446744073709551616 = 0 := by omega
    have hl : G % 18446744073709551616 = G := by omega
    refine (implRP_ok f mode s x 0 G k false HW (by omega) (by omega) (by omega) (by omega) (fun c => by cases c) (fun z fl => z = W ∧ fl = 0) (fun w => ?_)).mono ?_
    · have := round_num hm mode mode k hk s (by omega) x (by omega) (by omega) G (by omega) (by omega) false (fun c => by cases c) w
      rw [hh, hl] at this
      refine this.mono ?_
      rintro y w' ⟨z', fl', hri', rfl, hg⟩
      rw [hmn] at hri'
      obtain ⟨rfl, rfl⟩ := RoundIs.one hri hri'
      refine ⟨_, _, ⟨?_, rfl⟩, rfl, hg⟩
      unfold sv; split <;> omega
    · rintro y w' ⟨z, fl, ⟨rfl, rfl⟩, rfl, hg⟩
      exact ⟨rfl, hg⟩
end Go.Proofs.YtoaggnpcmieeaaaDoor
