/- spec.l2Cut whole, l2Choose, l2Over. -/
import Derived.Test.YtkflpogmhailhaaDoorBigCut
import Derived.Test.YtkflpogmhailhaaDoorBigB
import Derived.Test.YtkflpogmhailhaaDoorA7
import Derived.Test.YtkflpogmhailhaaDoorL2A
set_option linter.unusedVariables false
set_option linter.unusedSimpArgs false
namespace Go.Proofs.YtkflpogmhailhaaDoor
open Go.RowKit

theorem l2Cut_any {v : Value} {n M : Nat} {w : World} (h : Big w v n M) (hn : n ≤ 100000) (s e q : Int) (rest : Bool) (e0 : -1000000 ≤ e) (e1 : e ≤ 1000000) (q0 : -1000000 ≤ q) (q1 : q ≤ 1000000) :
    Calls Tryd.prog 74 #[.agg #[.int .i64 s, v, .int .i64 e, .bool rest], .int .i64 q] w fun x w' => ∃ v' k, x = .returned (.tuple #[v', .int .i64 (cutHalf M e q rest)]) ∧ Big w' v' k (cutLo M e q) ∧ k ≤ n + 70000 ∧ Gb w w' := by
  by_cases hq : q ≤ e
  · exact l2Cut_up h hn s e q rest e0 e1 q0 hq
  · obtain ⟨d, hd⟩ : ∃ d : Nat, q - e = (d : Int) := ⟨(q - e).toNat, by omega⟩
    have d1 : 1 ≤ d := by omega
    have eLo : cutLo M e q = M / 2 ^ d := by unfold cutLo; rw [if_neg hq, hd]; rfl
    have eHa : cutHalf M e q rest = hr M d rest := by unfold cutHalf; rw [if_neg hq, hd]; rfl
    rw [eLo, eHa]
    have fin : ∀ (H : Nat), hr M d rest = H → (Calls Tryd.prog 74 #[.agg #[.int .i64 s, v, .int .i64 e, .bool rest], .int .i64 q] w fun x w' => ∃ v' k, x = .returned (.tuple #[v', .int .i64 (H : Int)]) ∧ Big w' v' k (M / 2 ^ d) ∧ k ≤ n ∧ Gb w w') →
        Calls Tryd.prog 74 #[.agg #[.int .i64 s, v, .int .i64 e, .bool rest], .int .i64 q] w fun x w' => ∃ v' k, x = .returned (.tuple #[v', .int .i64 (hr M d rest : Int)]) ∧ Big w' v' k (M / 2 ^ d) ∧ k ≤ n + 70000 ∧ Gb w w' := by
      intro H hH hc
      rw [hH]
      exact hc.mono (fun x w' ⟨v', k, h1, h2, h3, h4⟩ => ⟨v', k, h1, h2, by omega, h4⟩)
    by_cases hR : M % 2 ^ d = 0
    · cases rest
      · exact fin 0 (hr_zero M d d1 hR) (l2Cut_a h hn s e q e0 e1 q1 d hd d1 _ _ _ rfl rfl rfl hR)
      · have hp : 0 < 2 ^ (d - 1) := Nat.pow_pos (by decide)
        refine fin 1 (hr_one M d true d1 (by omega) (.inr rfl)) (l2Cut_b h hn s e q e0 e1 q1 d hd d1 _ _ _ rfl rfl rfl hR ?_)
        unfold cmpZ; rw [if_pos (by omega)]
    · rcases Nat.lt_trichotomy (M % 2 ^ d) (2 ^ (d - 1)) with c | c | c
      · refine fin 1 (hr_one M d rest d1 c (.inl hR)) (l2Cut_c h hn s e q rest e0 e1 q1 d hd d1 _ _ _ rfl rfl rfl hR ?_)
        unfold cmpZ; rw [if_pos c]
      · have hc : cmpZ (M % 2 ^ d) (2 ^ (d - 1)) = 0 := by unfold cmpZ; rw [if_neg (by omega), if_neg (by omega)]
        cases rest
        · exact fin 2 (hr_two M d d1 c) (l2Cut_d h hn s e q e0 e1 q1 d hd d1 _ _ _ rfl rfl rfl hR hc)
        · exact fin 3 (hr_three M d true d1 (by omega) (.inr rfl)) (l2Cut_f h hn s e q e0 e1 q1 d hd d1 _ _ _ rfl rfl rfl hR hc)
      · refine fin 3 (hr_three M d rest d1 (by omega) (.inl (by omega))) (l2Cut_g h hn s e q rest e0 e1 q1 d hd d1 _ _ _ rfl rfl rfl hR ?_)
        unfold cmpZ; rw [if_neg (by omega), if_pos c]

set_option maxRecDepth 1000000 in
set_option maxHeartbeats 4000000 in
theorem l2Choose_any {v : Value} {n L : Nat} {w : World} (h : Big w v n L) (hn : n ≤ 500000) (mode sign : Int) (half : Nat) (m0 : 0 ≤ mode) (m1 : mode ≤ 4) (hs : sign = 0 ∨ sign = 1) (hh : half ≤ 3) :
    Calls Tryd.prog 75 #[.int .i64 mode, .int .i64 sign, v, .int .i64 half] w fun x w' => ∃ v' k, x = .returned v' ∧ Big w' v' k (chosen mode sign L half) ∧ k ≤ n + 3 ∧ Gb w w' := by
  have HBit : ∀ b : Int, (L : Int) % 2 = b → Hid (∀ w', w' = w → Calls Tryd.prog 34 #[v, .int .i64 0] w' fun x w'' => x = .returned (.int .u32 b) ∧ w' = w'') := fun b hb w' hw => by subst hw; exact hb ▸ l2Bit_zero h (by omega)
  have HOne : Hid (∀ w', Calls Tryd.prog 31 #[.int .u64 1] w' fun x w'' => ∃ v' k, x = .returned v' ∧ Big w'' v' k 1 ∧ k ≤ 2 ∧ Gb w' w'') := fun w' => l2Big_any 1 (by omega) w'
  have HAdd : Hid (∀ v2 k2 w', Gb w w' → Big w' v2 k2 1 → k2 ≤ 2 → Calls Tryd.prog 71 #[v, v2] w' fun x w'' => ∃ v' k, x = .returned v' ∧ Big w'' v' k (L + 1) ∧ k ≤ n + 3 ∧ Gb w' w'') := fun v2 k2 w' hg hb hk => (l2Add_any (h.gb hg) (by omega) hb (by omega)).mono (fun x w'' ⟨v', k, h1, h2, h3, h4⟩ => ⟨v', k, h1, h2, by omega, h4⟩)
  have HL : Hid (Big w v n L) := h
  obtain ⟨U, hU⟩ : ∃ U, U = up mode sign L half := ⟨_, rfl⟩
  have hch : chosen mode sign L half = L + (if U then 1 else 0) := by rw [hU]; rfl
  rw [hch]
  have hcase : (mode = 0 ∧ (half : Int) = 0 ∧ U = false) ∨ (mode = 0 ∧ (half : Int) = 1 ∧ U = false) ∨ (mode = 0 ∧ (half : Int) = 2 ∧ (L : Int) % 2 = 0 ∧ U = false) ∨ (mode = 0 ∧ (half : Int) = 2 ∧ (L : Int) % 2 = 1 ∧ U = true) ∨ (mode = 0 ∧ (half : Int) = 3 ∧ U = true) ∨
      (mode = 1 ∧ (half : Int) < 2 ∧ U = false) ∨ (mode = 1 ∧ 2 ≤ (half : Int) ∧ U = true) ∨ (mode = 2 ∧ U = false) ∨
      (mode = 3 ∧ (half : Int) = 0 ∧ U = false) ∨ (mode = 3 ∧ 0 < (half : Int) ∧ sign = 0 ∧ U = true) ∨ (mode = 3 ∧ 0 < (half : Int) ∧ sign = 1 ∧ U = false) ∨
      (mode = 4 ∧ (half : Int) = 0 ∧ U = false) ∨ (mode = 4 ∧ 0 < (half : Int) ∧ sign = 0 ∧ U = false) ∨ (mode = 4 ∧ 0 < (half : Int) ∧ sign = 1 ∧ U = true) := by
    unfold up at hU
    cases U
    · have := of_decide_eq_false hU.symm
      simp only [true_and, and_true, Bool.false_eq_true, and_false, or_false, false_or]
      omega
    · have := of_decide_eq_true hU.symm
      simp only [true_and, and_true, Bool.true_eq_false, and_false, or_false, false_or]
      omega
  generalize (half : Int) = H at *
  clear hU hch h
  rcases hcase with ⟨rfl, rfl, rfl⟩ | ⟨rfl, rfl, rfl⟩ | ⟨rfl, rfl, hb, rfl⟩ | ⟨rfl, rfl, hb, rfl⟩ | ⟨rfl, rfl, rfl⟩ | ⟨rfl, c, rfl⟩ | ⟨rfl, c, rfl⟩ | ⟨rfl, rfl⟩ | ⟨rfl, rfl, rfl⟩ | ⟨rfl, c, rfl, rfl⟩ | ⟨rfl, c, rfl, rfl⟩ | ⟨rfl, rfl, rfl⟩ | ⟨rfl, c, rfl, rfl⟩ | ⟨rfl, c, rfl, rfl⟩
  all_goals
    first
      | (have HB := HBit _ hb; clear HBit hb hs)
      | (have HB : Hid True := trivial; clear HBit hs)
    go_enter Tryd.func75, Tryd.ntmps75
    go_wp2_with (first
      | (go_at_call 34; refine (HB.out _ rfl).mono ?_; rintro x w0 ⟨rfl, hw⟩; subst hw)
      | (go_at_call 31; refine (HOne.out _).mono ?_; rintro x w1 ⟨v1, k1, rfl, hb1, hk1, hg1⟩)
      | (go_at_call 71; refine (HAdd.out v1 k1 _ kg hb1 hk1).mono ?_; rintro x w2 ⟨v2, k2, rfl, hb2, hk2, hg2⟩))
    go_returns
    first
      | exact ⟨_, _, rfl, HL.out, by omega, kg⟩
      | exact ⟨_, _, rfl, hb2, by omega, kg⟩
      | exact ⟨_, rfl, _, HL.out, by omega, kg⟩
      | exact ⟨_, rfl, _, hb2, by omega, kg⟩
end Go.Proofs.YtkflpogmhailhaaDoor
