/- Rows of words of 32 bits in memory. -/
import Derived.Test.YtmllepdkbggpmaaDoorBase
import Derived.Test.YtmllepdkbggpmaaDoorBigMath
import Derived.Test.YtmllepdkbggpmaaDoorRows
import Derived.Laws.OwnMore
import Derived.OwnWalk
set_option linter.unusedVariables false
set_option linter.unusedSimpArgs false
namespace Go.Proofs.YtmllepdkbggpmaaDoor
open Go.RowKit

/-- Old blocks are as they were. -/
def Gb (w w' : World) : Prop := Below w.heap.size w w'
theorem Gr.gb {w w' : World} (h : Gr w w') : Gb w w' := h.below
theorem Gb.refl (w : World) : Gb w w := Below.refl _ _
theorem Gb.size {w w' : World} (h : Gb w w') : w.heap.size ≤ w'.heap.size := Below.size h
theorem Gb.trans {a b c : World} (h : Gb a b) (k : Gb b c) : Gb a c := Below.trans h (Below.mono k h.size)
theorem Gb.alloc {W w : World} (h : Gb W w) (o : Obj) : Gb W (w.alloc o) := Below.alloc h h.size o
theorem Gb.drew {W w : World} (h : Gb W w) : Gb W w.drew := Below.drew h
theorem Gb.setCell {W w : World} (h : Gb W w) {a : Addr} (ha : W.heap.size ≤ a.block) (v : Value) : Gb W (w.setCell a v) := Below.setCell h ha v
theorem Gb.below {W w w' : World} {base : Nat} (h : Gb W w) (k : Below base w w') (hb : W.heap.size ≤ base) : Gb W w' := Below.trans h (Below.mono k hb)
theorem Gb.old {W w : World} (h : Gb W w) {b o : Nat} {v : Value} (hv : W.cell? ⟨b, o, none⟩ = some v) : w.cell? ⟨b, o, none⟩ = some v :=
  (Below.cell h (p := ⟨b, o, none⟩) (cell_size hv)).trans hv
theorem Gb.fz {W w : World} (h : Gb W w) {b o : Nat} (hb : b < W.heap.size) (hz : W.frozen? ⟨b, o, none⟩ = false) : w.frozen? ⟨b, o, none⟩ = false :=
  (Below.frozen h (p := ⟨b, o, none⟩) hb).trans hz

/-- v is a slice at the head of a row; its n words are N's. -/
def Raw (w : World) (v : Value) (n N : Nat) : Prop :=
  N < 4294967296 ^ n ∧ ∃ b cap, v = .slice (some ⟨b, 0, none⟩) n cap ∧ n ≤ cap ∧ cap ≤ maxLen ∧ ∀ j, j < n → w.cell? ⟨b, j, none⟩ = some (.int .u32 (dg N j : Int))
/-- The same, and the last word is not 0. -/
def Big (w : World) (v : Value) (n N : Nat) : Prop := Nm n N ∧ Raw w v n N

theorem Raw.gb {w w' : World} {v : Value} {n N : Nat} (h : Raw w v n N) (k : Gb w w') : Raw w' v n N := by
  obtain ⟨h1, b, cap, h2, h3, h3', h4⟩ := h
  exact ⟨h1, b, cap, h2, h3, h3', fun j hj => k.old (h4 j hj)⟩
theorem Big.gb {w w' : World} {v : Value} {n N : Nat} (h : Big w v n N) (k : Gb w w') : Big w' v n N := ⟨h.1, h.2.gb k⟩
theorem Raw.alloc {w : World} {v : Value} {n N : Nat} (h : Raw w v n N) (o : Obj) : Raw (w.alloc o) v n N := h.gb ((Gb.refl w).alloc o)
theorem Big.alloc {w : World} {v : Value} {n N : Nat} (h : Big w v n N) (o : Obj) : Big (w.alloc o) v n N := h.gb ((Gb.refl w).alloc o)

/-- A row that the call itself made and that grows: its first n words are N's. -/
def Own (w : World) (base : Nat) (v : Value) (n N : Nat) : Prop := w.ownsRow base 83 1 v n (wds n N) ∧ v ≠ .slice none 0 0

theorem Own.raw {w : World} {base : Nat} {v : Value} {n N : Nat} (h : Own w base v n N) (hN : N < 4294967296 ^ n) : Raw w v n N := by
  obtain ⟨⟨h1, h2⟩, h3⟩ := h
  rcases h2 with ⟨rfl, _⟩ | ⟨g, cap, cur, rfl, hb, hh, hc, hm, hs, ht⟩
  · exact absurd rfl h3
  · refine ⟨hN, g, cap, rfl, hc, hm, fun j hj => ?_⟩
    have e : cur.toList[j]? = some (.int .u32 (dg N j : Int)) := by
      rw [← wds_get n N j hj, ← ht, List.getElem?_take_of_lt (by omega)]
    simp only [Array.getElem?_toList] at e
    simp [World.cell?, hh, e]
theorem Own.alloc {w : World} {base : Nat} {v : Value} {n N : Nat} (h : Own w base v n N) (o : Obj) : Own (w.alloc o) base v n N := ⟨h.1.alloc o, h.2⟩
theorem Own.drew {w : World} {base : Nat} {v : Value} {n N : Nat} (h : Own w base v n N) : Own w.drew base v n N := ⟨h.1.drew, h.2⟩

theorem infoWord : (Tryd.prog.info? 83).map (fun i => (i.zero, i.size, i.bytes)) = some (some (.int .u32 0), 1, 4) := by kernel_rfl

/-- 'out = append(out, x)', the word that is next. -/
theorem wpList_push {w : World} {ops : Array Oper} {rest : List Oper} {o : Oper} {a : Act} {Q : Exit → Act → World → Prop} (hgd : o.guard = none) (s x : Operand)
    (ho : o.op = .call { callee := .builtin .append, args := #[s, x], argTypes := #[58, 58] })
    (base n N : Nat) (v : Value) (b : Nat) (hs : a.eval s = v) (hown : Own w base v n N) (hx : a.eval x = .slice (some ⟨b, 0, none⟩) 1 1)
    (hc : w.cell? ⟨b, 0, none⟩ = some (.int .u32 (dg N n : Int))) (hn : n ≤ 1000000000) (hbase : base ≤ w.heap.size)
    (h : ∀ v' w', Own w' base v' (n + 1) N → Below base w w' → wpList Tryd.prog ops Q rest (a.put o.dst v') w') : wpList Tryd.prog ops Q (o :: rest) a w := by
  obtain ⟨i0, hi, hz0, hz1, hz2⟩ := info_parts infoWord
  refine wpList_append_own _ hgd s x 58 ho base 83 i0 (.int .u32 0) 1 4 Tryd.underlying58 hi hz0 hz1 hz2 rfl (by decide) v n (wds n N) hs hown.1 ⟨b, 0, none⟩ 1 1 [.int .u32 (dg N n : Int)] hx rfl ?_ ?_ (by unfold maxLen; omega) (by omega) hbase ?_
  · intro j u hj
    match j, hj with
    | 0, hj => simp at hj; subst hj; simpa [Addr.add] using hc
  · intro u hu; simp at hu; subst hu; rfl
  · intro v' w' hown' hgrow hnil
    refine h v' w' ⟨by rw [wds_succ]; exact hown', fun e => ?_⟩ ?_
    · exact absurd (hnil.mp e).1 hown.2
    · refine (Below.refl base w).grown hgrow hbase ?_
      intro k hk
      exact (hown.1.lt k hk).1
end Go.Proofs.YtmllepdkbggpmaaDoor
