/- spec.FromInt of a number. -/
import Derived.Test.YtfakbjgbbcigpaaDoorB4
import Derived.Deep.DeepCutAuto
set_option linter.unusedVariables false
set_option linter.unusedSimpArgs false
namespace Go.Proofs.YtfakbjgbbcigpaaDoor
open Go.RowKit

theorem fr_lenP {K : Nat} {w : World} {b k c N : Nat} (h : BigN K w (.slice (some ⟨b, 0, none⟩) k c) N) (hN : 0 < N) : 0 < k := by
  obtain ⟨n, hn, hb⟩ := h
  obtain ⟨b', cap, e, _⟩ := hb.shape
  have h2 := hb.1.iff
  injection e with _ e2 _
  have : n ≠ 0 := fun h => by have := h2.1 h; omega
  omega

set_option maxRecDepth 1000000 in
set_option maxHeartbeats 4000000 in
theorem sFrom_num (f mode kind a s : Int) (M : Nat) (hM : 0 < M) (HX : Hid (∀ w, Calls Tryd.prog 54 #[.int .i64 kind, .int .u64 a] w fun e w' => ∃ b k c, BigN 2 w' (.slice (some ⟨b, 0, none⟩) k c) M ∧ e = .returned (.tuple #[.agg #[.int .i64 s, .slice (some ⟨b, 0, none⟩) k c, .int .i64 0, .bool false], .bool true]) ∧ Gb w w')) (HFm : Hid (∀ w, Calls Tryd.prog 55 #[.int .i64 f] w fun e w' => e = .returned (.bool true) ∧ w = w')) (HWy : Hid (∀ w, Calls Tryd.prog 42 #[.int .i64 mode] w fun e w' => e = .returned (.bool true) ∧ w = w')) (Q : Int → Int → Prop) (HR : Hid (∀ v w, BigN 2 w v M → Calls Tryd.prog 58 #[.int .i64 f, .int .i64 mode, .agg #[.int .i64 s, v, .int .i64 0, .bool false]] w fun e w' => ∃ z fl, Q z fl ∧ e = .returned (.agg #[.int .u64 z, .int .i64 fl]) ∧ Gb w w')) (w : World) :
    Calls Tryd.prog 20 #[.int .i64 f, .int .i64 mode, .int .i64 kind, .int .u64 a] w fun e w' => ∃ z fl, Q z fl ∧ e = .returned (.agg #[.int .u64 z, .int .i64 fl]) ∧ Gb w w' := by
  go_enter Tryd.func20, Tryd.ntmps20
  go_wp2_with (first
    | (go_at_call 54; refine (HX.out _).mono ?_; rintro e w1 ⟨b, k, c, hb, rfl, hg_w1⟩; have ur0 : w1.cell? ⟨w.heap.size, 0, none⟩ = some (.int .u64 0) := hg_w1.c; have urz0 : w1.frozen? ⟨w.heap.size, 0, none⟩ = false := hg_w1.z ur0; have ur1 : w1.cell? ⟨w.heap.size, 1, none⟩ = some (.int .i64 0) := hg_w1.c; have urz1 : w1.frozen? ⟨w.heap.size, 1, none⟩ = false := hg_w1.z ur1; have hz1 := cell_size ur0; have hk1 := fr_lenP hb hM)
    | (go_at_call 55; refine (HFm.out _).mono ?_; rintro e wk ⟨rfl, hw⟩; subst hw)
    | (go_at_call 42; refine (HWy.out _).mono ?_; rintro e wk ⟨rfl, hw⟩; subst hw)
    | (go_at_call 58; refine (HR.out _ _ (BigN.gb hb Gb.g)).mono ?_; rintro e w4 ⟨z, fl, hq, rfl, hg_w4⟩; have zr0 : w4.cell? ⟨w.heap.size, 0, none⟩ = some (.int .u64 0) := hg_w4.c; have zrz0 : w4.frozen? ⟨w.heap.size, 0, none⟩ = false := hg_w4.z zr0; have zr1 : w4.cell? ⟨w.heap.size, 1, none⟩ = some (.int .i64 0) := hg_w4.c; have zrz1 : w4.frozen? ⟨w.heap.size, 1, none⟩ = false := hg_w4.z zr1))
  refine bodyPost_ret (v := .agg #[.int .u64 z, .int .i64 fl]) (by simp [results, Tryd.results20, go_sem, zr0, zr1]) rfl ⟨z, fl, hq, rfl, ?_⟩
  exact Gb.g

end Go.Proofs.YtfakbjgbbcigpaaDoor
