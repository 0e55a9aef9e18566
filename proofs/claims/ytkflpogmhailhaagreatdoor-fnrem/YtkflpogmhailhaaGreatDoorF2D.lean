/- impl's chapter 2: Unpack. -/
import Derived.Test.YtkflpogmhailhaaGreatDoorF2c
import Derived.Test.YtkflpogmhailhaaGreatDoorL2B
set_option linter.unusedVariables false
set_option linter.unusedSimpArgs false

namespace Go.Proofs.YtkflpogmhailhaaGreatDoor
open Go.RowKit

theorem pow_cast (k : Nat) : ((2 ^ k : Nat) : Int) = (2 : Int) ^ k := by push_cast; rfl

theorem finite_any {p mn mx fb sp one inf sg nan : Int} (h : IsM p mn mx fb sp one inf sg nan) (s v : Int) (v0 : 0 < v) (v1 : v < inf) (w : World) :
    Calls Tryz.prog 125 #[.agg #[.int .i64 p, .int .i64 mn, .int .i64 mx], .int .i64 s, .int .u64 v] w fun e w' => ∃ x g : Int, NormIs p mx one v x g ∧ e = .returned (.agg #[.int .i64 1, .int .i64 s, .int .i64 x, .int .u64 g]) ∧ Gr w w' := by
  have hp : ∃ P : Nat, (P : Int) = p - 1 ∧ one = 2 ^ P ∧ P ≤ 52 := by
    rcases h with ⟨rfl, rfl, rfl, rfl, rfl, rfl, rfl, rfl, rfl⟩ | ⟨rfl, rfl, rfl, rfl, rfl, rfl, rfl, rfl, rfl⟩
    · exact ⟨23, by decide, by decide, by decide⟩
    · exact ⟨52, by decide, by decide, by decide⟩
  obtain ⟨P, hP, hone, hP52⟩ := hp
  have hmn : mn - fb = 2 - mx - p := by rcases h with h | h <;> omega
  have h52 : one ≤ 4503599627370496 := by rcases h with h | h <;> omega
  have h1 : 0 < one := by rcases h with h | h <;> omega
  by_cases hs : v < one
  · obtain ⟨V, rfl⟩ := Int.eq_ofNat_of_zero_le (show 0 ≤ v by omega)
    have hVP : V < 2 ^ P := by
      have : ((V : Nat) : Int) < ((2 ^ P : Nat) : Int) := by rw [pow_cast, ← hone]; exact hs
      omega
    have hnb : nb V ≤ P := nb_le hVP
    have hb := bitLen_nb V (by omega)
    have hpos := nb_pos V (by omega)
    have hlo := nb_ge V (by omega)
    have hhi := nb_lt V
    obtain ⟨k, hk⟩ : ∃ k : Nat, k + nb V = P + 1 := ⟨P + 1 - nb V, by omega⟩
    have e1 : 2 ^ P ≤ V * 2 ^ k := by
      have : 2 ^ P = 2 ^ (nb V - 1) * 2 ^ k := by rw [← Nat.pow_add]; congr 1; omega
      rw [this]; exact Nat.mul_le_mul_right _ hlo
    have e2 : V * 2 ^ k < 2 * 2 ^ P := by
      have : 2 * 2 ^ P = 2 ^ nb V * 2 ^ k := by rw [← Nat.pow_add, Nat.mul_comm, ← Nat.pow_succ]; congr 1; omega
      rw [this]; exact Nat.mul_lt_mul_of_pos_right hhi (Nat.pow_pos (by decide))
    have hP2 : (2 : Nat) ^ P ≤ 4503599627370496 := by
      have := Nat.pow_le_pow_right (show 0 < 2 by decide) hP52
      simpa using this
    have hone' : one = ((2 ^ P : Nat) : Int) := by rw [pow_cast]; exact hone
    have c1 : (V : Int) * 2 ^ k = ((V * 2 ^ k : Nat) : Int) := by rw [Int.natCast_mul, pow_cast]
    generalize V * 2 ^ k = G at *
    generalize (2 : Nat) ^ P = O at *
    refine (finite_small h s (V : Int) (by omega) hs (nb V : Int) k (by rw [Int.toNat_natCast, hb]) (by omega) (by omega) (G : Int) c1 (by omega) (by omega) w).mono ?_
    rintro e w' ⟨rfl, hg⟩
    exact ⟨_, _, ⟨k, V, 2 - mx - p, .inl ⟨hs, rfl, rfl⟩, c1.symm, by omega, by omega, by omega⟩, rfl, hg⟩
  · have hq : 1 ≤ v / one := by
      have := Int.le_ediv_of_mul_le h1 (show 1 * one ≤ v by omega)
      omega
    have hdm := Int.ediv_mul_add_emod v one
    have hr0 := Int.emod_nonneg v (show one ≠ 0 by omega)
    have hr1 := Int.emod_lt_of_pos v h1
    obtain ⟨c, hc⟩ : ∃ c : Int, c = v % one + one := ⟨_, rfl⟩
    have hcc : v - (v / one - 1) * one = c := by rw [Int.sub_mul]; omega
    obtain ⟨C, rfl⟩ := Int.eq_ofNat_of_zero_le (show 0 ≤ c by omega)
    have hone' : one = ((2 ^ P : Nat) : Int) := by rw [pow_cast]; exact hone
    have hCb : nb C = P + 1 := by
      have a1 : 2 ^ P ≤ C := by generalize (2 : Nat) ^ P = O at *; omega
      have a2 : C < 2 ^ (P + 1) := by rw [Nat.pow_succ]; generalize (2 : Nat) ^ P = O at *; omega
      have := nb_le a2
      have := nb_gt a1
      omega
    have hb := bitLen_nb C (by omega)
    refine (finite_big h s v (v / one - 1) (C : Int) (by omega) (by omega) (by omega) v1 hcc (by omega) (by omega) (nb C : Int) 0 (by rw [Int.toNat_natCast, hb]) (by omega) (by omega) (C : Int) (by simp) (by omega) (by omega) w).mono ?_
    rintro e w' ⟨rfl, hg⟩
    exact ⟨_, _, ⟨0, C, 1 - mx - p + v / one, .inr ⟨by omega, hc, rfl⟩, by simp, by omega, by omega, by omega⟩, rfl, hg⟩

theorem IsM.bounds {p mn mx fb sp one inf sg nan : Int} (h : IsM p mn mx fb sp one inf sg nan) : 0 < inf ∧ inf < nan ∧ nan < sg ∧ sg ≤ 9223372036854775808 ∧ 0 < one ∧ one < inf := by
  rcases h with h | h <;> omega

/-- Sign and magnitude. -/
theorem sign_mag (W sg : Int) (h0 : 0 ≤ W) (h1 : W < 2 * sg) : W / sg = 0 ∧ W % sg = W ∧ W < sg ∨ W / sg = 1 ∧ W % sg = W - sg ∧ sg ≤ W := by
  by_cases c : W < sg
  · exact .inl ⟨Int.ediv_eq_zero_of_lt h0 c, Int.emod_eq_of_lt h0 c, c⟩
  · have e : W = (W - sg) + sg * 1 := by omega
    have e1 : W / sg = 1 := by
      rw [e, Int.add_mul_ediv_left _ _ (by omega), Int.ediv_eq_zero_of_lt (by omega) (by omega)]; rfl
    have e2 := Int.emod_add_mul_ediv W sg
    rw [e1] at e2
    exact .inr ⟨e1, by omega, by omega⟩

set_option maxRecDepth 100000 in
set_option maxHeartbeats 4000000 in
theorem unpack_any {p mn mx fb sp one inf sg nan : Int} (h : IsM p mn mx fb sp one inf sg nan) (W : Int) (h0 : 0 ≤ W) (h1 : W < 2 * sg) (w : World) :
    Calls Tryz.prog 103 #[.agg #[.int .i64 p, .int .i64 mn, .int .i64 mx], .int .u64 W] w fun e w' => ∃ c s x g : Int, UnpackIs p mx one inf sg nan W c s x g ∧ e = .returned (.agg #[.int .i64 c, .int .i64 s, .int .i64 x, .int .u64 g]) ∧ Gr w w' := by
  obtain ⟨b1, b2, b3, b4, b5, b6⟩ := h.bounds
  have HS : Hid (∀ w, Calls Tryz.prog 86 #[.agg #[.int .i64 p, .int .i64 mn, .int .i64 mx], .int .u64 W] w fun e w' => e = .returned (.int .i64 (W / sg)) ∧ Gr w w') := fun w => signOf_any h W h0 h1 w
  have HM : Hid (∀ w, Calls Tryz.prog 83 #[.agg #[.int .i64 p, .int .i64 mn, .int .i64 mx], .int .u64 W] w fun e w' => e = .returned (.int .u64 (W % sg)) ∧ Gr w w') := fun w => magnitude_any h W h0 h1 w
  have HI : Hid (∀ w, Calls Tryz.prog 84 #[.agg #[.int .i64 p, .int .i64 mn, .int .i64 mx], .int .i64 0] w fun e w' => e = .returned (.int .u64 inf) ∧ Gr w w') := fun w => inf_any h 0 inf (.inl ⟨rfl, rfl⟩) w
  have HN : Hid (∀ w, Calls Tryz.prog 81 #[.agg #[.int .i64 p, .int .i64 mn, .int .i64 mx]] w fun e w' => e = .returned (.int .u64 nan) ∧ Gr w w') := fun w => nan_any h w
  have hsv : Hid (W / sg = 0 ∧ W % sg = W ∧ W < sg ∨ W / sg = 1 ∧ W % sg = W - sg ∧ sg ≤ W) := sign_mag W sg h0 h1
  generalize W / sg = s at *
  generalize W % sg = v at *
  have v0 : 0 ≤ v ∧ v < sg ∧ 0 ≤ s ∧ s ≤ 1 := by have := hsv.out; omega
  have HFi : Hid (0 < v → v < inf → ∀ w, Calls Tryz.prog 125 #[.agg #[.int .i64 p, .int .i64 mn, .int .i64 mx], .int .i64 s, .int .u64 v] w fun e w' => ∃ x g : Int, NormIs p mx one v x g ∧ e = .returned (.agg #[.int .i64 1, .int .i64 s, .int .i64 x, .int .u64 g]) ∧ Gr w w') := fun a b w => finite_any h s v a b w
  have hU : Hid (∀ c e g : Int, (v = 0 ∧ c = 0 ∧ e = 0 ∧ g = 0 ∨ inf < v ∧ v < nan ∧ c = 4 ∧ e = 0 ∧ g = 0 ∨ nan ≤ v ∧ c = 3 ∧ e = 0 ∧ g = 0 ∨ v = inf ∧ c = 2 ∧ e = 0 ∧ g = 0 ∨ 0 < v ∧ v < inf ∧ c = 1 ∧ NormIs p mx one v e g) → UnpackIs p mx one inf sg nan W c s e g) := fun c e g hc => ⟨v, hsv.out, hc⟩
  have HFt : Hid (∀ w, Calls Tryz.prog 82 #[.agg #[.int .i64 p, .int .i64 mn, .int .i64 mx], .int .u64 W] w fun e w' => e = .returned (.bool true) ∧ Gr w w') := fun w => by
    have := fits_any h W h0 (by omega) w
    rw [decide_eq_true h1] at this; exact this
  clear h
  rcases (show v = 0 ∨ (0 < v ∧ v < inf) ∨ v = inf ∨ (inf < v ∧ v < nan) ∨ nan ≤ v by omega) with rfl | ⟨c1, c2⟩ | c1 | ⟨c1, c2⟩ | c1
  · skip
    go_enter Tryz.func103, Tryz.ntmps103
    go_wp2_with (go_at_call 82; refine (HFt.out _).mono ?_; rintro e w2 ⟨rfl, hg_w2⟩; have pm0 : w2.cell? ⟨w.heap.size, 0, none⟩ = some (.int .i64 p) := kq; have pm1 : w2.cell? ⟨w.heap.size, 1, none⟩ = some (.int .i64 mn) := kq; have pm2 : w2.cell? ⟨w.heap.size, 2, none⟩ = some (.int .i64 mx) := kq; have pr0 : w2.cell? ⟨w.heap.size + 1, 0, none⟩ = some (.int .i64 0) := kq; have prz0 : w2.frozen? ⟨w.heap.size + 1, 0, none⟩ = false := kq; have pr1 : w2.cell? ⟨w.heap.size + 1, 1, none⟩ = some (.int .i64 0) := kq; have prz1 : w2.frozen? ⟨w.heap.size + 1, 1, none⟩ = false := kq; have pr2 : w2.cell? ⟨w.heap.size + 1, 2, none⟩ = some (.int .i64 0) := kq; have prz2 : w2.frozen? ⟨w.heap.size + 1, 2, none⟩ = false := kq; have pr3 : w2.cell? ⟨w.heap.size + 1, 3, none⟩ = some (.int .u64 0) := kq; have prz3 : w2.frozen? ⟨w.heap.size + 1, 3, none⟩ = false := kq)
    go_region_held3 (fun w' => w'.cell? ⟨w.heap.size, 0, none⟩ = some (.int .i64 p) ∧ w'.cell? ⟨w.heap.size, 1, none⟩ = some (.int .i64 mn) ∧ w'.cell? ⟨w.heap.size, 2, none⟩ = some (.int .i64 mx) ∧ w'.cell? ⟨w.heap.size + 1, 0, none⟩ = some (.int .i64 0) ∧ w'.frozen? ⟨w.heap.size + 1, 0, none⟩ = false ∧ w'.cell? ⟨w.heap.size + 1, 1, none⟩ = some (.int .i64 0) ∧ w'.frozen? ⟨w.heap.size + 1, 1, none⟩ = false ∧ w'.cell? ⟨w.heap.size + 1, 2, none⟩ = some (.int .i64 0) ∧ w'.frozen? ⟨w.heap.size + 1, 2, none⟩ = false ∧ w'.cell? ⟨w.heap.size + 1, 3, none⟩ = some (.int .u64 0) ∧ w'.frozen? ⟨w.heap.size + 1, 3, none⟩ = false)
      ((go_split_ands; (repeat' apply And.intro) <;> exact kl))
      (first
        | (go_at_call 86; refine (HS.out _).mono ?_; rintro e w3 ⟨rfl, hg_w3⟩; have hc_w3 := hg_w3.cells; have hf_w3 := hg_w3.frozens; have hz_w3 := hg_w3.size; (try simp only [World.size_alloc, World.size_drew, World.size_setCell] at hz_w3))
        | (go_at_call 83; refine (HM.out _).mono ?_; rintro e w4 ⟨rfl, hg_w4⟩; have hc_w4 := hg_w4.cells; have hf_w4 := hg_w4.frozens; have hz_w4 := hg_w4.size; (try simp only [World.size_alloc, World.size_drew, World.size_setCell] at hz_w4)))
    all_goals
      (try go_split_ands)
      go_wp2_with (first
        | (go_at_call 84; refine (HI.out _).mono ?_; rintro e w5 ⟨rfl, hg_w5⟩; have am0 : w5.cell? ⟨w.heap.size, 0, none⟩ = some (.int .i64 p) := kq; have am1 : w5.cell? ⟨w.heap.size, 1, none⟩ = some (.int .i64 mn) := kq; have am2 : w5.cell? ⟨w.heap.size, 2, none⟩ = some (.int .i64 mx) := kq; have ar0 : w5.cell? ⟨w.heap.size + 1, 0, none⟩ = some (.int .i64 0) := kq; have az0 : w5.frozen? ⟨w.heap.size + 1, 0, none⟩ = false := kq; have ar1 : w5.cell? ⟨w.heap.size + 1, 1, none⟩ = some (.int .i64 0) := kq; have az1 : w5.frozen? ⟨w.heap.size + 1, 1, none⟩ = false := kq; have ar2 : w5.cell? ⟨w.heap.size + 1, 2, none⟩ = some (.int .i64 0) := kq; have az2 : w5.frozen? ⟨w.heap.size + 1, 2, none⟩ = false := kq; have ar3 : w5.cell? ⟨w.heap.size + 1, 3, none⟩ = some (.int .u64 0) := kq; have az3 : w5.frozen? ⟨w.heap.size + 1, 3, none⟩ = false := kq)
        | (go_at_call 81; refine (HN.out _).mono ?_; rintro e w6 ⟨rfl, hg_w6⟩; have br0 : w6.cell? ⟨w.heap.size + 1, 0, none⟩ = some (.int .i64 0) := kq; have bz0 : w6.frozen? ⟨w.heap.size + 1, 0, none⟩ = false := kq; have br1 : w6.cell? ⟨w.heap.size + 1, 1, none⟩ = some (.int .i64 0) := kq; have bz1 : w6.frozen? ⟨w.heap.size + 1, 1, none⟩ = false := kq; have br2 : w6.cell? ⟨w.heap.size + 1, 2, none⟩ = some (.int .i64 0) := kq; have bz2 : w6.frozen? ⟨w.heap.size + 1, 2, none⟩ = false := kq; have br3 : w6.cell? ⟨w.heap.size + 1, 3, none⟩ = some (.int .u64 0) := kq; have bz3 : w6.frozen? ⟨w.heap.size + 1, 3, none⟩ = false := kq)
        | (go_at_call 125; refine (HFi.out (by omega) (by omega) _).mono ?_; rintro e w7 ⟨x, g, hn, rfl, hg_w7⟩; have cr0 : w7.cell? ⟨w.heap.size + 1, 0, none⟩ = some (.int .i64 0) := kq; have cz0 : w7.frozen? ⟨w.heap.size + 1, 0, none⟩ = false := kq; have cr1 : w7.cell? ⟨w.heap.size + 1, 1, none⟩ = some (.int .i64 0) := kq; have cz1 : w7.frozen? ⟨w.heap.size + 1, 1, none⟩ = false := kq; have cr2 : w7.cell? ⟨w.heap.size + 1, 2, none⟩ = some (.int .i64 0) := kq; have cz2 : w7.frozen? ⟨w.heap.size + 1, 2, none⟩ = false := kq; have cr3 : w7.cell? ⟨w.heap.size + 1, 3, none⟩ = some (.int .u64 0) := kq; have cz3 : w7.frozen? ⟨w.heap.size + 1, 3, none⟩ = false := kq))
      refine bodyPost_ret (v := .agg #[.int .i64 0, .int .i64 s, .int .i64 0, .int .u64 0]) (by simp [results, Tryz.results103, go_sem, ar0, ar1, ar2, ar3]) rfl ⟨0, s, 0, 0, hU.out _ _ _ (by first | exact .inl ⟨rfl, rfl, rfl, rfl⟩ | exact .inl ⟨trivial, rfl, rfl, rfl⟩), rfl, ?_⟩
      exact kr
  · have c3 : (v == 0) = false := by simp; omega
    go_enter Tryz.func103, Tryz.ntmps103
    go_wp2_with (go_at_call 82; refine (HFt.out _).mono ?_; rintro e w2 ⟨rfl, hg_w2⟩; have pm0 : w2.cell? ⟨w.heap.size, 0, none⟩ = some (.int .i64 p) := kq; have pm1 : w2.cell? ⟨w.heap.size, 1, none⟩ = some (.int .i64 mn) := kq; have pm2 : w2.cell? ⟨w.heap.size, 2, none⟩ = some (.int .i64 mx) := kq; have pr0 : w2.cell? ⟨w.heap.size + 1, 0, none⟩ = some (.int .i64 0) := kq; have prz0 : w2.frozen? ⟨w.heap.size + 1, 0, none⟩ = false := kq; have pr1 : w2.cell? ⟨w.heap.size + 1, 1, none⟩ = some (.int .i64 0) := kq; have prz1 : w2.frozen? ⟨w.heap.size + 1, 1, none⟩ = false := kq; have pr2 : w2.cell? ⟨w.heap.size + 1, 2, none⟩ = some (.int .i64 0) := kq; have prz2 : w2.frozen? ⟨w.heap.size + 1, 2, none⟩ = false := kq; have pr3 : w2.cell? ⟨w.heap.size + 1, 3, none⟩ = some (.int .u64 0) := kq; have prz3 : w2.frozen? ⟨w.heap.size + 1, 3, none⟩ = false := kq)
    go_region_held3 (fun w' => w'.cell? ⟨w.heap.size, 0, none⟩ = some (.int .i64 p) ∧ w'.cell? ⟨w.heap.size, 1, none⟩ = some (.int .i64 mn) ∧ w'.cell? ⟨w.heap.size, 2, none⟩ = some (.int .i64 mx) ∧ w'.cell? ⟨w.heap.size + 1, 0, none⟩ = some (.int .i64 0) ∧ w'.frozen? ⟨w.heap.size + 1, 0, none⟩ = false ∧ w'.cell? ⟨w.heap.size + 1, 1, none⟩ = some (.int .i64 0) ∧ w'.frozen? ⟨w.heap.size + 1, 1, none⟩ = false ∧ w'.cell? ⟨w.heap.size + 1, 2, none⟩ = some (.int .i64 0) ∧ w'.frozen? ⟨w.heap.size + 1, 2, none⟩ = false ∧ w'.cell? ⟨w.heap.size + 1, 3, none⟩ = some (.int .u64 0) ∧ w'.frozen? ⟨w.heap.size + 1, 3, none⟩ = false)
      ((go_split_ands; (repeat' apply And.intro) <;> exact kl))
      (first
        | (go_at_call 86; refine (HS.out _).mono ?_; rintro e w3 ⟨rfl, hg_w3⟩; have hc_w3 := hg_w3.cells; have hf_w3 := hg_w3.frozens; have hz_w3 := hg_w3.size; (try simp only [World.size_alloc, World.size_drew, World.size_setCell] at hz_w3))
        | (go_at_call 83; refine (HM.out _).mono ?_; rintro e w4 ⟨rfl, hg_w4⟩; have hc_w4 := hg_w4.cells; have hf_w4 := hg_w4.frozens; have hz_w4 := hg_w4.size; (try simp only [World.size_alloc, World.size_drew, World.size_setCell] at hz_w4)))
    all_goals
      (try go_split_ands)
      go_wp2_with (first
        | (go_at_call 84; refine (HI.out _).mono ?_; rintro e w5 ⟨rfl, hg_w5⟩; have am0 : w5.cell? ⟨w.heap.size, 0, none⟩ = some (.int .i64 p) := kq; have am1 : w5.cell? ⟨w.heap.size, 1, none⟩ = some (.int .i64 mn) := kq; have am2 : w5.cell? ⟨w.heap.size, 2, none⟩ = some (.int .i64 mx) := kq; have ar0 : w5.cell? ⟨w.heap.size + 1, 0, none⟩ = some (.int .i64 0) := kq; have az0 : w5.frozen? ⟨w.heap.size + 1, 0, none⟩ = false := kq; have ar1 : w5.cell? ⟨w.heap.size + 1, 1, none⟩ = some (.int .i64 0) := kq; have az1 : w5.frozen? ⟨w.heap.size + 1, 1, none⟩ = false := kq; have ar2 : w5.cell? ⟨w.heap.size + 1, 2, none⟩ = some (.int .i64 0) := kq; have az2 : w5.frozen? ⟨w.heap.size + 1, 2, none⟩ = false := kq; have ar3 : w5.cell? ⟨w.heap.size + 1, 3, none⟩ = some (.int .u64 0) := kq; have az3 : w5.frozen? ⟨w.heap.size + 1, 3, none⟩ = false := kq)
        | (go_at_call 81; refine (HN.out _).mono ?_; rintro e w6 ⟨rfl, hg_w6⟩; have br0 : w6.cell? ⟨w.heap.size + 1, 0, none⟩ = some (.int .i64 0) := kq; have bz0 : w6.frozen? ⟨w.heap.size + 1, 0, none⟩ = false := kq; have br1 : w6.cell? ⟨w.heap.size + 1, 1, none⟩ = some (.int .i64 0) := kq; have bz1 : w6.frozen? ⟨w.heap.size + 1, 1, none⟩ = false := kq; have br2 : w6.cell? ⟨w.heap.size + 1, 2, none⟩ = some (.int .i64 0) := kq; have bz2 : w6.frozen? ⟨w.heap.size + 1, 2, none⟩ = false := kq; have br3 : w6.cell? ⟨w.heap.size + 1, 3, none⟩ = some (.int .u64 0) := kq; have bz3 : w6.frozen? ⟨w.heap.size + 1, 3, none⟩ = false := kq)
        | (go_at_call 125; refine (HFi.out (by omega) (by omega) _).mono ?_; rintro e w7 ⟨x, g, hn, rfl, hg_w7⟩; have cr0 : w7.cell? ⟨w.heap.size + 1, 0, none⟩ = some (.int .i64 0) := kq; have cz0 : w7.frozen? ⟨w.heap.size + 1, 0, none⟩ = false := kq; have cr1 : w7.cell? ⟨w.heap.size + 1, 1, none⟩ = some (.int .i64 0) := kq; have cz1 : w7.frozen? ⟨w.heap.size + 1, 1, none⟩ = false := kq; have cr2 : w7.cell? ⟨w.heap.size + 1, 2, none⟩ = some (.int .i64 0) := kq; have cz2 : w7.frozen? ⟨w.heap.size + 1, 2, none⟩ = false := kq; have cr3 : w7.cell? ⟨w.heap.size + 1, 3, none⟩ = some (.int .u64 0) := kq; have cz3 : w7.frozen? ⟨w.heap.size + 1, 3, none⟩ = false := kq))
      refine bodyPost_ret (v := .agg #[.int .i64 1, .int .i64 s, .int .i64 x, .int .u64 g]) (by simp [results, Tryz.results103, go_sem, cr0, cr1, cr2, cr3]) rfl ⟨1, s, x, g, hU.out _ _ _ (.inr (.inr (.inr (.inr ⟨c1, c2, rfl, hn⟩)))), rfl, ?_⟩
      exact kr
  · subst c1
    have c3 : (v == 0) = false := by simp; omega
    go_enter Tryz.func103, Tryz.ntmps103
    go_wp2_with (go_at_call 82; refine (HFt.out _).mono ?_; rintro e w2 ⟨rfl, hg_w2⟩; have pm0 : w2.cell? ⟨w.heap.size, 0, none⟩ = some (.int .i64 p) := kq; have pm1 : w2.cell? ⟨w.heap.size, 1, none⟩ = some (.int .i64 mn) := kq; have pm2 : w2.cell? ⟨w.heap.size, 2, none⟩ = some (.int .i64 mx) := kq; have pr0 : w2.cell? ⟨w.heap.size + 1, 0, none⟩ = some (.int .i64 0) := kq; have prz0 : w2.frozen? ⟨w.heap.size + 1, 0, none⟩ = false := kq; have pr1 : w2.cell? ⟨w.heap.size + 1, 1, none⟩ = some (.int .i64 0) := kq; have prz1 : w2.frozen? ⟨w.heap.size + 1, 1, none⟩ = false := kq; have pr2 : w2.cell? ⟨w.heap.size + 1, 2, none⟩ = some (.int .i64 0) := kq; have prz2 : w2.frozen? ⟨w.heap.size + 1, 2, none⟩ = false := kq; have pr3 : w2.cell? ⟨w.heap.size + 1, 3, none⟩ = some (.int .u64 0) := kq; have prz3 : w2.frozen? ⟨w.heap.size + 1, 3, none⟩ = false := kq)
    go_region_held3 (fun w' => w'.cell? ⟨w.heap.size, 0, none⟩ = some (.int .i64 p) ∧ w'.cell? ⟨w.heap.size, 1, none⟩ = some (.int .i64 mn) ∧ w'.cell? ⟨w.heap.size, 2, none⟩ = some (.int .i64 mx) ∧ w'.cell? ⟨w.heap.size + 1, 0, none⟩ = some (.int .i64 0) ∧ w'.frozen? ⟨w.heap.size + 1, 0, none⟩ = false ∧ w'.cell? ⟨w.heap.size + 1, 1, none⟩ = some (.int .i64 0) ∧ w'.frozen? ⟨w.heap.size + 1, 1, none⟩ = false ∧ w'.cell? ⟨w.heap.size + 1, 2, none⟩ = some (.int .i64 0) ∧ w'.frozen? ⟨w.heap.size + 1, 2, none⟩ = false ∧ w'.cell? ⟨w.heap.size + 1, 3, none⟩ = some (.int .u64 0) ∧ w'.frozen? ⟨w.heap.size + 1, 3, none⟩ = false)
      ((go_split_ands; (repeat' apply And.intro) <;> exact kl))
      (first
        | (go_at_call 86; refine (HS.out _).mono ?_; rintro e w3 ⟨rfl, hg_w3⟩; have hc_w3 := hg_w3.cells; have hf_w3 := hg_w3.frozens; have hz_w3 := hg_w3.size; (try simp only [World.size_alloc, World.size_drew, World.size_setCell] at hz_w3))
        | (go_at_call 83; refine (HM.out _).mono ?_; rintro e w4 ⟨rfl, hg_w4⟩; have hc_w4 := hg_w4.cells; have hf_w4 := hg_w4.frozens; have hz_w4 := hg_w4.size; (try simp only [World.size_alloc, World.size_drew, World.size_setCell] at hz_w4)))
    all_goals
      (try go_split_ands)
      go_wp2_with (first
        | (go_at_call 84; refine (HI.out _).mono ?_; rintro e w5 ⟨rfl, hg_w5⟩; have am0 : w5.cell? ⟨w.heap.size, 0, none⟩ = some (.int .i64 p) := kq; have am1 : w5.cell? ⟨w.heap.size, 1, none⟩ = some (.int .i64 mn) := kq; have am2 : w5.cell? ⟨w.heap.size, 2, none⟩ = some (.int .i64 mx) := kq; have ar0 : w5.cell? ⟨w.heap.size + 1, 0, none⟩ = some (.int .i64 0) := kq; have az0 : w5.frozen? ⟨w.heap.size + 1, 0, none⟩ = false := kq; have ar1 : w5.cell? ⟨w.heap.size + 1, 1, none⟩ = some (.int .i64 0) := kq; have az1 : w5.frozen? ⟨w.heap.size + 1, 1, none⟩ = false := kq; have ar2 : w5.cell? ⟨w.heap.size + 1, 2, none⟩ = some (.int .i64 0) := kq; have az2 : w5.frozen? ⟨w.heap.size + 1, 2, none⟩ = false := kq; have ar3 : w5.cell? ⟨w.heap.size + 1, 3, none⟩ = some (.int .u64 0) := kq; have az3 : w5.frozen? ⟨w.heap.size + 1, 3, none⟩ = false := kq)
        | (go_at_call 81; refine (HN.out _).mono ?_; rintro e w6 ⟨rfl, hg_w6⟩; have br0 : w6.cell? ⟨w.heap.size + 1, 0, none⟩ = some (.int .i64 0) := kq; have bz0 : w6.frozen? ⟨w.heap.size + 1, 0, none⟩ = false := kq; have br1 : w6.cell? ⟨w.heap.size + 1, 1, none⟩ = some (.int .i64 0) := kq; have bz1 : w6.frozen? ⟨w.heap.size + 1, 1, none⟩ = false := kq; have br2 : w6.cell? ⟨w.heap.size + 1, 2, none⟩ = some (.int .i64 0) := kq; have bz2 : w6.frozen? ⟨w.heap.size + 1, 2, none⟩ = false := kq; have br3 : w6.cell? ⟨w.heap.size + 1, 3, none⟩ = some (.int .u64 0) := kq; have bz3 : w6.frozen? ⟨w.heap.size + 1, 3, none⟩ = false := kq)
        | (go_at_call 125; refine (HFi.out (by omega) (by omega) _).mono ?_; rintro e w7 ⟨x, g, hn, rfl, hg_w7⟩; have cr0 : w7.cell? ⟨w.heap.size + 1, 0, none⟩ = some (.int .i64 0) := kq; have cz0 : w7.frozen? ⟨w.heap.size + 1, 0, none⟩ = false := kq; have cr1 : w7.cell? ⟨w.heap.size + 1, 1, none⟩ = some (.int .i64 0) := kq; have cz1 : w7.frozen? ⟨w.heap.size + 1, 1, none⟩ = false := kq; have cr2 : w7.cell? ⟨w.heap.size + 1, 2, none⟩ = some (.int .i64 0) := kq; have cz2 : w7.frozen? ⟨w.heap.size + 1, 2, none⟩ = false := kq; have cr3 : w7.cell? ⟨w.heap.size + 1, 3, none⟩ = some (.int .u64 0) := kq; have cz3 : w7.frozen? ⟨w.heap.size + 1, 3, none⟩ = false := kq))
      refine bodyPost_ret (v := .agg #[.int .i64 2, .int .i64 s, .int .i64 0, .int .u64 0]) (by simp [results, Tryz.results103, go_sem, ar0, ar1, ar2, ar3]) rfl ⟨2, s, 0, 0, hU.out _ _ _ (by first | exact .inr (.inr (.inr (.inl ⟨rfl, rfl, rfl, rfl⟩))) | exact .inr (.inr (.inr (.inl ⟨trivial, rfl, rfl, rfl⟩)))), rfl, ?_⟩
      exact kr
  · have c3 : (v == 0) = false := by simp; omega
    have c4 : (v == inf) = false := by simp; omega
    go_enter Tryz.func103, Tryz.ntmps103
    go_wp2_with (go_at_call 82; refine (HFt.out _).mono ?_; rintro e w2 ⟨rfl, hg_w2⟩; have pm0 : w2.cell? ⟨w.heap.size, 0, none⟩ = some (.int .i64 p) := kq; have pm1 : w2.cell? ⟨w.heap.size, 1, none⟩ = some (.int .i64 mn) := kq; have pm2 : w2.cell? ⟨w.heap.size, 2, none⟩ = some (.int .i64 mx) := kq; have pr0 : w2.cell? ⟨w.heap.size + 1, 0, none⟩ = some (.int .i64 0) := kq; have prz0 : w2.frozen? ⟨w.heap.size + 1, 0, none⟩ = false := kq; have pr1 : w2.cell? ⟨w.heap.size + 1, 1, none⟩ = some (.int .i64 0) := kq; have prz1 : w2.frozen? ⟨w.heap.size + 1, 1, none⟩ = false := kq; have pr2 : w2.cell? ⟨w.heap.size + 1, 2, none⟩ = some (.int .i64 0) := kq; have prz2 : w2.frozen? ⟨w.heap.size + 1, 2, none⟩ = false := kq; have pr3 : w2.cell? ⟨w.heap.size + 1, 3, none⟩ = some (.int .u64 0) := kq; have prz3 : w2.frozen? ⟨w.heap.size + 1, 3, none⟩ = false := kq)
    go_region_held3 (fun w' => w'.cell? ⟨w.heap.size, 0, none⟩ = some (.int .i64 p) ∧ w'.cell? ⟨w.heap.size, 1, none⟩ = some (.int .i64 mn) ∧ w'.cell? ⟨w.heap.size, 2, none⟩ = some (.int .i64 mx) ∧ w'.cell? ⟨w.heap.size + 1, 0, none⟩ = some (.int .i64 0) ∧ w'.frozen? ⟨w.heap.size + 1, 0, none⟩ = false ∧ w'.cell? ⟨w.heap.size + 1, 1, none⟩ = some (.int .i64 0) ∧ w'.frozen? ⟨w.heap.size + 1, 1, none⟩ = false ∧ w'.cell? ⟨w.heap.size + 1, 2, none⟩ = some (.int .i64 0) ∧ w'.frozen? ⟨w.heap.size + 1, 2, none⟩ = false ∧ w'.cell? ⟨w.heap.size + 1, 3, none⟩ = some (.int .u64 0) ∧ w'.frozen? ⟨w.heap.size + 1, 3, none⟩ = false)
      ((go_split_ands; (repeat' apply And.intro) <;> exact kl))
      (first
        | (go_at_call 86; refine (HS.out _).mono ?_; rintro e w3 ⟨rfl, hg_w3⟩; have hc_w3 := hg_w3.cells; have hf_w3 := hg_w3.frozens; have hz_w3 := hg_w3.size; (try simp only [World.size_alloc, World.size_drew, World.size_setCell] at hz_w3))
        | (go_at_call 83; refine (HM.out _).mono ?_; rintro e w4 ⟨rfl, hg_w4⟩; have hc_w4 := hg_w4.cells; have hf_w4 := hg_w4.frozens; have hz_w4 := hg_w4.size; (try simp only [World.size_alloc, World.size_drew, World.size_setCell] at hz_w4)))
    all_goals
      (try go_split_ands)
      go_wp2_with (first
        | (go_at_call 84; refine (HI.out _).mono ?_; rintro e w5 ⟨rfl, hg_w5⟩; have am0 : w5.cell? ⟨w.heap.size, 0, none⟩ = some (.int .i64 p) := kq; have am1 : w5.cell? ⟨w.heap.size, 1, none⟩ = some (.int .i64 mn) := kq; have am2 : w5.cell? ⟨w.heap.size, 2, none⟩ = some (.int .i64 mx) := kq; have ar0 : w5.cell? ⟨w.heap.size + 1, 0, none⟩ = some (.int .i64 0) := kq; have az0 : w5.frozen? ⟨w.heap.size + 1, 0, none⟩ = false := kq; have ar1 : w5.cell? ⟨w.heap.size + 1, 1, none⟩ = some (.int .i64 0) := kq; have az1 : w5.frozen? ⟨w.heap.size + 1, 1, none⟩ = false := kq; have ar2 : w5.cell? ⟨w.heap.size + 1, 2, none⟩ = some (.int .i64 0) := kq; have az2 : w5.frozen? ⟨w.heap.size + 1, 2, none⟩ = false := kq; have ar3 : w5.cell? ⟨w.heap.size + 1, 3, none⟩ = some (.int .u64 0) := kq; have az3 : w5.frozen? ⟨w.heap.size + 1, 3, none⟩ = false := kq)
        | (go_at_call 81; refine (HN.out _).mono ?_; rintro e w6 ⟨rfl, hg_w6⟩; have br0 : w6.cell? ⟨w.heap.size + 1, 0, none⟩ = some (.int .i64 0) := kq; have bz0 : w6.frozen? ⟨w.heap.size + 1, 0, none⟩ = false := kq; have br1 : w6.cell? ⟨w.heap.size + 1, 1, none⟩ = some (.int .i64 0) := kq; have bz1 : w6.frozen? ⟨w.heap.size + 1, 1, none⟩ = false := kq; have br2 : w6.cell? ⟨w.heap.size + 1, 2, none⟩ = some (.int .i64 0) := kq; have bz2 : w6.frozen? ⟨w.heap.size + 1, 2, none⟩ = false := kq; have br3 : w6.cell? ⟨w.heap.size + 1, 3, none⟩ = some (.int .u64 0) := kq; have bz3 : w6.frozen? ⟨w.heap.size + 1, 3, none⟩ = false := kq)
        | (go_at_call 125; refine (HFi.out (by omega) (by omega) _).mono ?_; rintro e w7 ⟨x, g, hn, rfl, hg_w7⟩; have cr0 : w7.cell? ⟨w.heap.size + 1, 0, none⟩ = some (.int .i64 0) := kq; have cz0 : w7.frozen? ⟨w.heap.size + 1, 0, none⟩ = false := kq; have cr1 : w7.cell? ⟨w.heap.size + 1, 1, none⟩ = some (.int .i64 0) := kq; have cz1 : w7.frozen? ⟨w.heap.size + 1, 1, none⟩ = false := kq; have cr2 : w7.cell? ⟨w.heap.size + 1, 2, none⟩ = some (.int .i64 0) := kq; have cz2 : w7.frozen? ⟨w.heap.size + 1, 2, none⟩ = false := kq; have cr3 : w7.cell? ⟨w.heap.size + 1, 3, none⟩ = some (.int .u64 0) := kq; have cz3 : w7.frozen? ⟨w.heap.size + 1, 3, none⟩ = false := kq))
      refine bodyPost_ret (v := .agg #[.int .i64 4, .int .i64 s, .int .i64 0, .int .u64 0]) (by simp [results, Tryz.results103, go_sem, br0, br1, br2, br3]) rfl ⟨4, s, 0, 0, hU.out _ _ _ (.inr (.inl ⟨c1, c2, rfl, rfl, rfl⟩)), rfl, ?_⟩
      exact kr
  · have c3 : (v == 0) = false := by simp; omega
    have c4 : (v == inf) = false := by simp; omega
    go_enter Tryz.func103, Tryz.ntmps103
    go_wp2_with (go_at_call 82; refine (HFt.out _).mono ?_; rintro e w2 ⟨rfl, hg_w2⟩; have pm0 : w2.cell? ⟨w.heap.size, 0, none⟩ = some (.int .i64 p) := kq; have pm1 : w2.cell? ⟨w.heap.size, 1, none⟩ = some (.int .i64 mn) := kq; have pm2 : w2.cell? ⟨w.heap.size, 2, none⟩ = some (.int .i64 mx) := kq; have pr0 : w2.cell? ⟨w.heap.size + 1, 0, none⟩ = some (.int .i64 0) := kq; have prz0 : w2.frozen? ⟨w.heap.size + 1, 0, none⟩ = false := kq; have pr1 : w2.cell? ⟨w.heap.size + 1, 1, none⟩ = some (.int .i64 0) := kq; have prz1 : w2.frozen? ⟨w.heap.size + 1, 1, none⟩ = false := kq; have pr2 : w2.cell? ⟨w.heap.size + 1, 2, none⟩ = some (.int .i64 0) := kq; have prz2 : w2.frozen? ⟨w.heap.size + 1, 2, none⟩ = false := kq; have pr3 : w2.cell? ⟨w.heap.size + 1, 3, none⟩ = some (.int .u64 0) := kq; have prz3 : w2.frozen? ⟨w.heap.size + 1, 3, none⟩ = false := kq)
    go_region_held3 (fun w' => w'.cell? ⟨w.heap.size, 0, none⟩ = some (.int .i64 p) ∧ w'.cell? ⟨w.heap.size, 1, none⟩ = some (.int .i64 mn) ∧ w'.cell? ⟨w.heap.size, 2, none⟩ = some (.int .i64 mx) ∧ w'.cell? ⟨w.heap.size + 1, 0, none⟩ = some (.int .i64 0) ∧ w'.frozen? ⟨w.heap.size + 1, 0, none⟩ = false ∧ w'.cell? ⟨w.heap.size + 1, 1, none⟩ = some (.int .i64 0) ∧ w'.frozen? ⟨w.heap.size + 1, 1, none⟩ = false ∧ w'.cell? ⟨w.heap.size + 1, 2, none⟩ = some (.int .i64 0) ∧ w'.frozen? ⟨w.heap.size + 1, 2, none⟩ = false ∧ w'.cell? ⟨w.heap.size + 1, 3, none⟩ = some (.int .u64 0) ∧ w'.frozen? ⟨w.heap.size + 1, 3, none⟩ = false)
      ((go_split_ands; (repeat' apply And.intro) <;> exact kl))
      (first
        | (go_at_call 86; refine (HS.out _).mono ?_; rintro e w3 ⟨rfl, hg_w3⟩; have hc_w3 := hg_w3.cells; have hf_w3 := hg_w3.frozens; have hz_w3 := hg_w3.size; (try simp only [World.size_alloc, World.size_drew, World.size_setCell] at hz_w3))
        | (go_at_call 83; refine (HM.out _).mono ?_; rintro e w4 ⟨rfl, hg_w4⟩; have hc_w4 := hg_w4.cells; have hf_w4 := hg_w4.frozens; have hz_w4 := hg_w4.size; (try simp only [World.size_alloc, World.size_drew, World.size_setCell] at hz_w4)))
    all_goals
      (try go_split_ands)
      go_wp2_with (first
        | (go_at_call 84; refine (HI.out _).mono ?_; rintro e w5 ⟨rfl, hg_w5⟩; have am0 : w5.cell? ⟨w.heap.size, 0, none⟩ = some (.int .i64 p) := kq; have am1 : w5.cell? ⟨w.heap.size, 1, none⟩ = some (.int .i64 mn) := kq; have am2 : w5.cell? ⟨w.heap.size, 2, none⟩ = some (.int .i64 mx) := kq; have ar0 : w5.cell? ⟨w.heap.size + 1, 0, none⟩ = some (.int .i64 0) := kq; have az0 : w5.frozen? ⟨w.heap.size + 1, 0, none⟩ = false := kq; have ar1 : w5.cell? ⟨w.heap.size + 1, 1, none⟩ = some (.int .i64 0) := kq; have az1 : w5.frozen? ⟨w.heap.size + 1, 1, none⟩ = false := kq; have ar2 : w5.cell? ⟨w.heap.size + 1, 2, none⟩ = some (.int .i64 0) := kq; have az2 : w5.frozen? ⟨w.heap.size + 1, 2, none⟩ = false := kq; have ar3 : w5.cell? ⟨w.heap.size + 1, 3, none⟩ = some (.int .u64 0) := kq; have az3 : w5.frozen? ⟨w.heap.size + 1, 3, none⟩ = false := kq)
        | (go_at_call 81; refine (HN.out _).mono ?_; rintro e w6 ⟨rfl, hg_w6⟩; have br0 : w6.cell? ⟨w.heap.size + 1, 0, none⟩ = some (.int .i64 0) := kq; have bz0 : w6.frozen? ⟨w.heap.size + 1, 0, none⟩ = false := kq; have br1 : w6.cell? ⟨w.heap.size + 1, 1, none⟩ = some (.int .i64 0) := kq; have bz1 : w6.frozen? ⟨w.heap.size + 1, 1, none⟩ = false := kq; have br2 : w6.cell? ⟨w.heap.size + 1, 2, none⟩ = some (.int .i64 0) := kq; have bz2 : w6.frozen? ⟨w.heap.size + 1, 2, none⟩ = false := kq; have br3 : w6.cell? ⟨w.heap.size + 1, 3, none⟩ = some (.int .u64 0) := kq; have bz3 : w6.frozen? ⟨w.heap.size + 1, 3, none⟩ = false := kq)
        | (go_at_call 125; refine (HFi.out (by omega) (by omega) _).mono ?_; rintro e w7 ⟨x, g, hn, rfl, hg_w7⟩; have cr0 : w7.cell? ⟨w.heap.size + 1, 0, none⟩ = some (.int .i64 0) := kq; have cz0 : w7.frozen? ⟨w.heap.size + 1, 0, none⟩ = false := kq; have cr1 : w7.cell? ⟨w.heap.size + 1, 1, none⟩ = some (.int .i64 0) := kq; have cz1 : w7.frozen? ⟨w.heap.size + 1, 1, none⟩ = false := kq; have cr2 : w7.cell? ⟨w.heap.size + 1, 2, none⟩ = some (.int .i64 0) := kq; have cz2 : w7.frozen? ⟨w.heap.size + 1, 2, none⟩ = false := kq; have cr3 : w7.cell? ⟨w.heap.size + 1, 3, none⟩ = some (.int .u64 0) := kq; have cz3 : w7.frozen? ⟨w.heap.size + 1, 3, none⟩ = false := kq))
      refine bodyPost_ret (v := .agg #[.int .i64 3, .int .i64 s, .int .i64 0, .int .u64 0]) (by simp [results, Tryz.results103, go_sem, br0, br1, br2, br3]) rfl ⟨3, s, 0, 0, hU.out _ _ _ (.inr (.inr (.inl ⟨c1, rfl, rfl, rfl⟩))), rfl, ?_⟩
      exact kr
end Go.Proofs.YtkflpogmhailhaaGreatDoor

namespace Go.Proofs.YtkflpogmhailhaaGreatDoor
open Go.RowKit

set_option maxRecDepth 100000 in
set_option maxHeartbeats 2000000 in
theorem unpack_wide {p mn mx fb sp one inf sg nan : Int} (h : IsM p mn mx fb sp one inf sg nan) (W : Int) (h0 : 2 * sg ≤ W) (h1 : W < 18446744073709551616) (w : World) :
    Calls Tryz.prog 103 #[.agg #[.int .i64 p, .int .i64 mn, .int .i64 mx], .int .u64 W] w fun e w' => e = .returned (.agg #[.int .i64 4, .int .i64 0, .int .i64 0, .int .u64 0]) ∧ Gr w w' := by
  have HFt : Hid (∀ w, Calls Tryz.prog 82 #[.agg #[.int .i64 p, .int .i64 mn, .int .i64 mx], .int .u64 W] w fun e w' => e = .returned (.bool false) ∧ Gr w w') := fun w => by
    have hb := h.bounds
    have := fits_any h W (by omega) h1 w
    rw [decide_eq_false (by omega)] at this; exact this
  clear h
  go_enter Tryz.func103, Tryz.ntmps103
  go_wp2_with (go_at_call 82; refine (HFt.out _).mono ?_; rintro e w2 ⟨rfl, hg_w2⟩; have pm0 : w2.cell? ⟨w.heap.size, 0, none⟩ = some (.int .i64 p) := kq; have pm1 : w2.cell? ⟨w.heap.size, 1, none⟩ = some (.int .i64 mn) := kq; have pm2 : w2.cell? ⟨w.heap.size, 2, none⟩ = some (.int .i64 mx) := kq; have pr0 : w2.cell? ⟨w.heap.size + 1, 0, none⟩ = some (.int .i64 0) := kq; have prz0 : w2.frozen? ⟨w.heap.size + 1, 0, none⟩ = false := kq; have pr1 : w2.cell? ⟨w.heap.size + 1, 1, none⟩ = some (.int .i64 0) := kq; have prz1 : w2.frozen? ⟨w.heap.size + 1, 1, none⟩ = false := kq; have pr2 : w2.cell? ⟨w.heap.size + 1, 2, none⟩ = some (.int .i64 0) := kq; have prz2 : w2.frozen? ⟨w.heap.size + 1, 2, none⟩ = false := kq; have pr3 : w2.cell? ⟨w.heap.size + 1, 3, none⟩ = some (.int .u64 0) := kq; have prz3 : w2.frozen? ⟨w.heap.size + 1, 3, none⟩ = false := kq)
  refine bodyPost_ret (v := .agg #[.int .i64 4, .int .i64 0, .int .i64 0, .int .u64 0]) (by simp [results, Tryz.results103, go_sem, pr0, pr1, pr2, pr3]) rfl ⟨rfl, ?_⟩
  exact kr

theorem norm_is {f p mx one inf sg nan : Int} (h : IsFmt f p mx one inf sg nan) (v : Int) (v0 : 0 < v) (v1 : v < inf) : ∃ x g : Int, NormIs p mx one v x g := by
  obtain ⟨P, hP, hP63, hone⟩ := h.pow
  obtain ⟨b1, b2, b3, b4, b5, b6, b7, b8, b9, b10, b11, b12⟩ := h.bounds
  have hone' : one = ((2 ^ P : Nat) : Int) := by rw [pow_cast]; exact hone
  by_cases hs : v < one
  · obtain ⟨V, rfl⟩ := Int.eq_ofNat_of_zero_le (show 0 ≤ v by omega)
    have hVP : V < 2 ^ P := by generalize (2 : Nat) ^ P = O at *; omega
    have hnb : nb V ≤ P := nb_le hVP
    have hpos := nb_pos V (by omega)
    have hlo := nb_ge V (by omega)
    have hhi := nb_lt V
    obtain ⟨k, hk⟩ : ∃ k : Nat, k + nb V = P + 1 := ⟨P + 1 - nb V, by omega⟩
    have e1 : 2 ^ P ≤ V * 2 ^ k := by
      have : 2 ^ P = 2 ^ (nb V - 1) * 2 ^ k := by rw [← Nat.pow_add]; congr 1; omega
      rw [this]; exact Nat.mul_le_mul_right _ hlo
    have e2 : V * 2 ^ k < 2 * 2 ^ P := by
      have : 2 * 2 ^ P = 2 ^ nb V * 2 ^ k := by rw [← Nat.pow_add, Nat.mul_comm, ← Nat.pow_succ]; congr 1; omega
      rw [this]; exact Nat.mul_lt_mul_of_pos_right hhi (Nat.pow_pos (by decide))
    have c1 : (V : Int) * 2 ^ k = ((V * 2 ^ k : Nat) : Int) := by rw [Int.natCast_mul, pow_cast]
    generalize V * 2 ^ k = G at *
    generalize (2 : Nat) ^ P = O at *
    exact ⟨2 - mx - p - k, G, k, V, 2 - mx - p, .inl ⟨hs, rfl, rfl⟩, c1.symm, rfl, by omega, by omega⟩
  · have hr0 := Int.emod_nonneg v (show one ≠ 0 by omega)
    have hr1 := Int.emod_lt_of_pos v (show 0 < one by omega)
    exact ⟨1 - mx - p + v / one - (0 : Nat), v % one + one, 0, v % one + one, 1 - mx - p + v / one, .inr ⟨by omega, rfl, rfl⟩, by simp, rfl, by omega, by omega⟩

/-- There is an answer. -/
theorem unpack_is {f p mx one inf sg nan : Int} (h : IsFmt f p mx one inf sg nan) (W : Int) (h0 : 0 ≤ W) (h1 : W < 2 * sg) : ∃ c s x g : Int, UnpackIs p mx one inf sg nan W c s x g := by
  obtain ⟨b1, b2, b3, b4, b5, b6, b7, b8, b9, b10, b11, b12⟩ := h.bounds
  have hsv : ∃ s v : Int, (s = 0 ∧ v = W ∧ W < sg ∨ s = 1 ∧ v = W - sg ∧ sg ≤ W) ∧ 0 ≤ v ∧ v < sg := by
    by_cases c : W < sg
    · exact ⟨0, W, by omega, by omega, by omega⟩
    · exact ⟨1, W - sg, by omega, by omega, by omega⟩
  obtain ⟨s, v, hs, v0, v1⟩ := hsv
  rcases (show v = 0 ∨ (0 < v ∧ v < inf) ∨ v = inf ∨ (inf < v ∧ v < nan) ∨ nan ≤ v by omega) with c | ⟨c1, c2⟩ | c | ⟨c1, c2⟩ | c
  · exact ⟨0, s, 0, 0, v, hs, .inl ⟨c, rfl, rfl, rfl⟩⟩
  · obtain ⟨x, g, hn⟩ := norm_is h v c1 c2
    exact ⟨1, s, x, g, v, hs, .inr (.inr (.inr (.inr ⟨c1, c2, rfl, hn⟩)))⟩
  · exact ⟨2, s, 0, 0, v, hs, .inr (.inr (.inr (.inl ⟨c, rfl, rfl, rfl⟩)))⟩
  · exact ⟨4, s, 0, 0, v, hs, .inr (.inl ⟨c1, c2, rfl, rfl, rfl⟩)⟩
  · exact ⟨3, s, 0, 0, v, hs, .inr (.inr (.inl ⟨c, rfl, rfl, rfl⟩))⟩
end Go.Proofs.YtkflpogmhailhaaGreatDoor
