/- impl's chapter 2: the canonical NaN, a format by its number. -/
import Derived.Test.YtkflpogmhailhaaGreatDoorF2
import Derived.Test.YtkflpogmhailhaaGreatDoorA7
set_option linter.unusedVariables false
set_option linter.unusedSimpArgs false
namespace Go.Proofs.YtkflpogmhailhaaGreatDoor
open Go.RowKit

set_option maxRecDepth 100000 in
set_option maxHeartbeats 1000000 in
theorem nan_any {p mn mx fb sp one inf sg nan : Int} (h : IsM p mn mx fb sp one inf sg nan) (w : World) :
    Calls Tryz.prog 81 #[.agg #[.int .i64 p, .int .i64 mn, .int .i64 mx]] w fun e w' => e = .returned (.int .u64 nan) ∧ Gr w w' := by
  have HF : Hid (∀ w, Calls Tryz.prog 117 #[.agg #[.int .i64 p, .int .i64 mn, .int .i64 mx]] w fun e w' => e = .returned (.int .i64 fb) ∧ Gr w w') := fun w => fb_any h w
  have HZ : Hid (∀ w, Calls Tryz.prog 84 #[.agg #[.int .i64 p, .int .i64 mn, .int .i64 mx], .int .i64 0] w fun e w' => e = .returned (.int .u64 inf) ∧ Gr w w') := fun w => inf_any h 0 inf (.inl ⟨rfl, rfl⟩) w
  obtain ⟨m2, m4, hm2, hm4, hor, hb⟩ : ∃ m2 m4 : Int, IntKind.i64.wrap (fb - 1) = m2 ∧ IntKind.u64.wrap (1 * 2 ^ m2.toNat) = m4 ∧ bits .or .u64 inf m4 = nan ∧ 0 ≤ m2 ∧ m2 ≤ 52 := by
    rcases h with ⟨rfl, rfl, rfl, rfl, rfl, rfl, rfl, rfl, rfl⟩ | ⟨rfl, rfl, rfl, rfl, rfl, rfl, rfl, rfl, rfl⟩
    · exact ⟨22, 4194304, by decide +kernel, by decide +kernel, by decide +kernel, by decide, by decide⟩
    · exact ⟨51, 2251799813685248, by decide +kernel, by decide +kernel, by decide +kernel, by decide, by decide⟩
  have hm4' : IntKind.u64.wrap (2 ^ m2.toNat) = m4 := by rw [← hm4, Int.one_mul]
  have hfb : ¬ m2 < 0 := by omega
  clear h
  go_enter Tryz.func81, Tryz.ntmps81
  go_wp2
  go_region_held3 (fun w' => w'.cell? ⟨w.heap.size, 0, none⟩ = some (.int .i64 p) ∧ w'.cell? ⟨w.heap.size, 1, none⟩ = some (.int .i64 mn) ∧ w'.cell? ⟨w.heap.size, 2, none⟩ = some (.int .i64 mx))
    ((go_split_ands; (repeat' apply And.intro) <;> exact kl))
    (first
      | (go_at_call 117; refine (HF.out _).mono ?_; rintro e w3 ⟨rfl, hg_w3⟩; have hc_w3 := hg_w3.cells; have hf_w3 := hg_w3.frozens; have hz_w3 := hg_w3.size; (try simp only [World.size_alloc, World.size_drew, World.size_setCell] at hz_w3))
      | (go_at_call 84; refine (HZ.out _).mono ?_; rintro e w4 ⟨rfl, hg_w4⟩; have hc_w4 := hg_w4.cells; have hf_w4 := hg_w4.frozens; have hz_w4 := hg_w4.size; (try simp only [World.size_alloc, World.size_drew, World.size_setCell] at hz_w4)))
  all_goals go_wp2
  all_goals go_returns
  all_goals exact ⟨rfl, kr⟩

/-- The table of formats lies in memory as the program lays it. -/
def Fm (w : World) : Prop :=
  w.cell? ⟨0, 0, none⟩ = some (.int .i64 24) ∧ w.cell? ⟨0, 1, none⟩ = some (.int .i64 (-126)) ∧ w.cell? ⟨0, 2, none⟩ = some (.int .i64 127) ∧
  w.cell? ⟨0, 3, none⟩ = some (.int .i64 53) ∧ w.cell? ⟨0, 4, none⟩ = some (.int .i64 (-1022)) ∧ w.cell? ⟨0, 5, none⟩ = some (.int .i64 1023)
theorem Fm.gb {w w' : World} (h : Fm w) (k : Gb w w') : Fm w' := ⟨k.old h.1, k.old h.2.1, k.old h.2.2.1, k.old h.2.2.2.1, k.old h.2.2.2.2.1, k.old h.2.2.2.2.2⟩
theorem Fm.gr {w w' : World} (h : Fm w) (k : Gr w w') : Fm w' := h.gb k.gb

theorem IsFmt.m {f p mx one inf sg nan : Int} (h : IsFmt f p mx one inf sg nan) : ∃ mn fb sp, IsM p mn mx fb sp one inf sg nan ∧ mn = 1 - mx ∧ fb = p - 1 := by
  rcases h with ⟨rfl, rfl, rfl, rfl, rfl, rfl, rfl⟩ | ⟨rfl, rfl, rfl, rfl, rfl, rfl, rfl⟩
  · exact ⟨_, _, _, .inl ⟨rfl, rfl, rfl, rfl, rfl, rfl, rfl, rfl, rfl⟩, rfl, rfl⟩
  · exact ⟨_, _, _, .inr ⟨rfl, rfl, rfl, rfl, rfl, rfl, rfl, rfl, rfl⟩, rfl, rfl⟩

set_option maxRecDepth 100000 in
set_option maxHeartbeats 1000000 in
theorem formatOf_yes {f p mx one inf sg nan mn fb sp : Int} (h : IsFmt f p mx one inf sg nan) (hm : IsM p mn mx fb sp one inf sg nan) {w : World} (hw : Fm w) :
    Calls Tryz.prog 52 #[.int .i64 f] w fun e w' => e = .returned (.tuple #[.agg #[.int .i64 p, .int .i64 mn, .int .i64 mx], .bool true]) ∧ Gr w w' := by
  obtain ⟨c0, c1, c2, c3, c4, c5⟩ := hw
  have hsz := cell_size c0
  rcases h with ⟨rfl, rfl, rfl, rfl, rfl, rfl, rfl⟩ | ⟨rfl, rfl, rfl, rfl, rfl, rfl, rfl⟩ <;> rcases hm with ⟨h1, rfl, h2, rfl, rfl, h3, h4, h5, h6⟩ | ⟨h1, rfl, h2, rfl, rfl, h3, h4, h5, h6⟩
  · clear h1 h2 h3 h4 h5 h6
    go_enter Tryz.func52, Tryz.ntmps52
    go_wp2
    go_returns
    exact ⟨rfl, kr⟩
  · exfalso; omega
  · exfalso; omega
  · clear h1 h2 h3 h4 h5 h6
    go_enter Tryz.func52, Tryz.ntmps52
    go_wp2
    go_returns
    exact ⟨rfl, kr⟩

set_option maxRecDepth 100000 in
set_option maxHeartbeats 1000000 in
theorem formatOf_no (f : Int) (h : ¬ (f = 0 ∨ f = 1)) (w : World) :
    Calls Tryz.prog 52 #[.int .i64 f] w fun e w' => e = .returned (.tuple #[.agg #[.int .i64 0, .int .i64 0, .int .i64 0], .bool false]) ∧ Gr w w' := by
  rcases (show f < 0 ∨ 2 ≤ f by omega) with c | c
  all_goals
    clear h
    go_enter Tryz.func52, Tryz.ntmps52
    go_wp2
    go_returns
    exact ⟨rfl, kr⟩
end Go.Proofs.YtkflpogmhailhaaGreatDoor
