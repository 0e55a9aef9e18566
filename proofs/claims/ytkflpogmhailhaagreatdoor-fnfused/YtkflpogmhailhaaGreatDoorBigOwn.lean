/- A row of the model's own: its places. -/
import Derived.Test.YtkflpogmhailhaaGreatDoorBigB
import Derived.Test.YtkflpogmhailhaaGreatDoorA6
set_option linter.unusedVariables false
set_option linter.unusedSimpArgs false
namespace Go.Proofs.YtkflpogmhailhaaGreatDoor
open Go.RowKit

theorem Own.store {w : World} {base g cap n V : Nat} (h : Own w base (.slice (some ⟨g, 0, none⟩) n cap) n V) (k d : Nat) (hk : k < n) (hd : d < 4294967296) :
    Own (w.setCell ⟨g, k, none⟩ (.int .u32 (d : Int))) base (.slice (some ⟨g, 0, none⟩) n cap) n (put V k d) := by
  refine ⟨?_, h.2⟩
  rw [← wds_put n V k d hk hd]
  exact (h.1.stored k _).1
theorem Own.at {w : World} {base g cap n V : Nat} (h : Own w base (.slice (some ⟨g, 0, none⟩) n cap) n V) (k : Nat) (hk : k < n) :
    w.cell? ⟨g, k, none⟩ = some (.int .u32 (dg V k : Int)) ∧ w.frozen? ⟨g, k, none⟩ = false := by
  refine ⟨?_, h.1.frozenAt k⟩
  rw [h.1.cellAt k (by omega), wds_get n V k hk]
theorem Own.where {w : World} {base : Nat} {v : Value} {n N : Nat} (h : Own w base v n N) : ∃ g cap, v = .slice (some ⟨g, 0, none⟩) n cap ∧ base ≤ g ∧ n ≤ cap := by
  obtain ⟨⟨h1, h2⟩, h3⟩ := h
  rcases h2 with ⟨rfl, _⟩ | ⟨g, cap, cur, rfl, hb, hh, hc, hm, hs, ht⟩
  · exact absurd rfl h3
  · exact ⟨g, cap, rfl, hb, hc⟩

end Go.Proofs.YtkflpogmhailhaaGreatDoor
