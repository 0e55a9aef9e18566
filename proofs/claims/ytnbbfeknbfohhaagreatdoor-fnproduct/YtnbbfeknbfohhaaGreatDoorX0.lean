import Derived.Test.YtnbbfeknbfohhaaGreatDoorA7
import Derived.Deep.AppendLies
import Derived.Test.YtnbbfeknbfohhaaGreatDoorF0
set_option linter.unusedVariables false
set_option linter.unusedSimpArgs false
open Go.Value renaming int → J
namespace Go.Proofs.YtnbbfeknbfohhaaGreatDoor
open Go.RowKit
def uv (k : IntKind) (m : Nat) (g : Nat → Int) : List Value := (List.range m).map fun j => Value.int k (g j)
theorem kS (k : IntKind) (m : Nat) (g : Nat → Int) : (uv k m g).length = m := by simp [uv]
theorem yO (k : IntKind) (m : Nat) (g : Nat → Int) (j : Nat) (hj : j < m) : (uv k m g)[j]? = some (J k (g j)) := by simp [uv, hj]
theorem Sv {k : IntKind} {m : Nat} {g g' : Nat → Int} (h : ∀ j, j < m → g j = g' j) : uv k m g = uv k m g' := by
 unfold uv
 refine List.map_congr_left fun j hj => ?_
 rw [h j (by simpa using hj)]
theorem aAg (k : IntKind) (m : Nat) (g : Nat → Int) (j : Nat) (x : Int) : (uv k m g).set j (J k x) = uv k m (fun i => if i = j then x else g i) := by
 refine List.ext_getElem? fun i => ?_
 by_cases hi : i < m
 ·rw [yO _ _ _ _ hi, List.getElem?_set]
  by_cases e : j = i
  ·subst e; simp [kS, hi]
  ·rw [if_neg e, yO _ _ _ _ hi, if_neg (fun h => e h.symm)]
 ·rw [List.getElem?_eq_none (by simp [kS]; omega), List.getElem?_eq_none (by rw [kS]; omega)]
theorem Sz (k : IntKind) (m r : Nat) (g : Nat → Int) : uv k (m + r) g = uv k m g ++ uv k r (fun j => g (m + j)) := by
 unfold uv
 rw [List.range_add, List.map_append, List.map_map]
 rfl
def Ow (w : World) (base : Nat) (t : TypeId) (size : Nat) (k : IntKind) (v : Value) (n : Nat) (g : Nat → Int) : Prop := w.ownsRow base t size v n (uv k (n * size) g)
def Rd (w : World) (k : IntKind) (v : Value) (n m : Nat) (g : Nat → Int) : Prop :=
 ∃ a cap, v = .slice a n cap ∧ n ≤ cap ∧ cap ≤ maxLen ∧ (0 < n → ∃ b, a = some ⟨b, 0, none⟩ ∧ ∀ j, j < m → w.cell? ⟨b, j, none⟩ = some (J k (g j)))
theorem Rd.gb {w w' : World} {k : IntKind} {v : Value} {n m : Nat} {g : Nat → Int} (h : Rd w k v n m g) (hg : Gb w w') : Rd w' k v n m g := by
 obtain ⟨a, cap, h1, h2, h3, h4⟩ := h
 refine ⟨a, cap, h1, h2, h3, fun hn => ?_⟩
 obtain ⟨b, hb, hc⟩ := h4 hn
 exact ⟨b, hb, fun j hj => hg.old (hc j hj)⟩
theorem Rd.congr {w : World} {k : IntKind} {v : Value} {n m : Nat} {g g' : Nat → Int} (h : Rd w k v n m g) (e : ∀ j, j < m → g j = g' j) : Rd w k v n m g' := by
 obtain ⟨a, cap, h1, h2, h3, h4⟩ := h
 refine ⟨a, cap, h1, h2, h3, fun hn => ?_⟩
 obtain ⟨b, hb, hc⟩ := h4 hn
 exact ⟨b, hb, fun j hj => by rw [hc j hj, e j hj]⟩
theorem Rd.at {w : World} {k : IntKind} {v : Value} {n m : Nat} {g : Nat → Int} (h : Rd w k v n m g) (hn : 0 < n) : ∃ b cap, v = .slice (some ⟨b, 0, none⟩) n cap ∧ n ≤ cap ∧ cap ≤ maxLen ∧ ∀ j, j < m → w.cell? ⟨b, j, none⟩ = some (J k (g j)) := by
 obtain ⟨a, cap, h1, h2, h3, h4⟩ := h
 obtain ⟨b, rfl, hc⟩ := h4 hn
 exact ⟨b, cap, h1, h2, h3, hc⟩
theorem Rd.nil {w : World} (k : IntKind) (a : Option Addr) (cap : Nat) (hc : cap ≤ maxLen) (m : Nat) (g : Nat → Int) : Rd w k (.slice a 0 cap) 0 m g := ⟨a, cap, rfl, Nat.zero_le _, hc, fun h => absurd h om⟩
theorem Ow.len {w : World} {base : Nat} {t : TypeId} {size : Nat} {k : IntKind} {v : Value} {n : Nat} {g : Nat → Int} (h : Ow w base t size k v n g) : ∃ a cap, v = .slice a n cap ∧ n ≤ cap ∧ cap ≤ maxLen := by
 rcases h.2 with ⟨rfl, rfl⟩ | ⟨b, cap, cur, rfl, _, _, hc, hm, _⟩
 ·exact ⟨none, 0, rfl, Nat.le_refl _, Nat.zero_le _⟩
 ·exact ⟨_, cap, rfl, hc, hm⟩
theorem Ow.at {w : World} {base : Nat} {t : TypeId} {size : Nat} {k : IntKind} {v : Value} {n : Nat} {g : Nat → Int} (h : Ow w base t size k v n g) (hn : 0 < n) :
  ∃ b cap, v = .slice (some ⟨b, 0, none⟩) n cap ∧ base ≤ b ∧ b < w.heap.size ∧ n ≤ cap ∧ cap ≤ maxLen ∧ ∀ j, j < n * size → w.cell? ⟨b, j, none⟩ = some (J k (g j)) ∧ w.frozen? ⟨b, j, none⟩ = false := by
 have h0 := h
 rcases h.2 with ⟨rfl, rfl⟩ | ⟨b, cap, cur, rfl, hb, hh, hc, hm, _⟩
 ·omega
 ·refine ⟨b, cap, rfl, hb, (Array.getElem?_eq_some_iff.1 hh).1, hc, hm, fun j hj => ⟨?_, World.ownsRow.frozenAt h0 j⟩⟩
  rw [World.ownsRow.cellAt h0 j hj, yO _ _ _ _ hj]
theorem Ow.rd {w : World} {base : Nat} {t : TypeId} {size : Nat} {k : IntKind} {v : Value} {n : Nat} {g : Nat → Int} (h : Ow w base t size k v n g) : Rd w k v n (n * size) g := by
 rcases Nat.eq_zero_or_pos n with rfl | hn
 ·obtain ⟨a, cap, rfl, _, hc⟩ := h.len
  exact Rd.nil k a cap hc _ g
 ·obtain ⟨b, cap, rfl, _, _, h1, h2, h3⟩ := h.at hn
  exact ⟨_, cap, rfl, h1, h2, fun _ => ⟨b, rfl, fun j hj => (h3 j hj).1⟩⟩
theorem Ow.gb {w w' : World} {base : Nat} {t : TypeId} {size : Nat} {k : IntKind} {v : Value} {n : Nat} {g : Nat → Int} (h : Ow w base t size k v n g) (hg : Gb w w') : Ow w' base t size k v n g := by
 refine ⟨h.1, ?_⟩
 rcases h.2 with hn | ⟨b, cap, cur, rfl, hb, hh, rest⟩
 ·exact .inl hn
 ·refine .inr ⟨b, cap, cur, rfl, hb, ?_, rest⟩
  rw [Below.block hg b (Array.getElem?_eq_some_iff.1 hh).1]
  exact hh
theorem Ow.mono {w : World} {base base' : Nat} {t : TypeId} {size : Nat} {k : IntKind} {v : Value} {n : Nat} {g : Nat → Int} (h : Ow w base t size k v n g) (hb : base' ≤ base) : Ow w base' t size k v n g := by
 refine ⟨h.1, ?_⟩
 rcases h.2 with hn | ⟨b, cap, cur, rfl, hb', hh, rest⟩
 ·exact .inl hn
 ·exact .inr ⟨b, cap, cur, rfl, Nat.le_trans hb hb', hh, rest⟩
theorem Ow.congr {w : World} {base : Nat} {t : TypeId} {size : Nat} {k : IntKind} {v : Value} {n : Nat} {g g' : Nat → Int} (h : Ow w base t size k v n g) (e : ∀ j, j < n * size → g j = g' j) : Ow w base t size k v n g' := by
 have h' : w.ownsRow base t size v n (uv k (n * size) g) := h
 rw [Sv e] at h'
 exact h'
theorem Ow.alloc {w : World} {base : Nat} {t : TypeId} {size : Nat} {k : IntKind} {v : Value} {n : Nat} {g : Nat → Int} (h : Ow w base t size k v n g) (o : Obj) : Ow (w.alloc o) base t size k v n g := World.ownsRow.alloc h o
theorem Ow.drew {w : World} {base : Nat} {t : TypeId} {size : Nat} {k : IntKind} {v : Value} {n : Nat} {g : Nat → Int} (h : Ow w base t size k v n g) : Ow w.drew base t size k v n g := World.ownsRow.drew h
theorem Ow.ne {w : World} {base : Nat} {t : TypeId} {size : Nat} {k : IntKind} {v : Value} {n : Nat} {g : Nat → Int} (h : Ow w base t size k v n g) {p : Nat} (hp : w.heap.size ≤ p) : v.ownBlock ≠ some p := fun e => by
 have := (World.ownsRow.lt h p e).2
 omega
theorem Rd.kept {w w' : World} {k : IntKind} {b n cap m : Nat} {g : Nat → Int} {v : Value} (h : Rd w k (.slice (some ⟨b, 0, none⟩) n cap) n m g) (hk : ∀ p off u, w.cell? ⟨p, off, none⟩ = some u → v.ownBlock ≠ some p → w'.cell? ⟨p, off, none⟩ = some u) (hne : v.ownBlock ≠ some b) : Rd w' k (.slice (some ⟨b, 0, none⟩) n cap) n m g := by
 obtain ⟨a, cap', h1, h2, h3, h4⟩ := h
 refine ⟨a, cap', h1, h2, h3, fun hn => ?_⟩
 obtain ⟨b', rfl, hc⟩ := h4 hn
 simp only [Value.slice.injEq, Option.some.injEq, Addr.mk.injEq, and_true, true_and] at h1
 obtain ⟨rfl, rfl⟩ := h1
 exact ⟨b, rfl, fun j hj => hk _ _ _ (hc j hj) hne⟩
theorem Ow.nil (w : World) (base : Nat) (t : TypeId) (size : Nat) (k : IntKind) (g : Nat → Int) : Ow w base t size k (.slice none 0 0) 0 g := by
 refine ⟨by simp [uv], .inl ⟨rfl, rfl⟩⟩
theorem Ow.lit (w : World) (t : TypeId) (size : Nat) (k : IntKind) (g : Nat → Int) : Ow (w.alloc (.cells #[] t)) w.heap.size t size k (.slice (some ⟨w.heap.size, 0, none⟩) 0 0) 0 g := by
 have := World.ownsRow_lit (base := w.heap.size) (e := t) (size := size) w #[] 0 (Nat.le_refl _) (Nat.zero_le _) (by simp)
 simpa [Ow, uv] using this
theorem Ow.store {w : World} {base b cap : Nat} {t : TypeId} {size : Nat} {k : IntKind} {n : Nat} {g : Nat → Int} (h : Ow w base t size k (.slice (some ⟨b, 0, none⟩) n cap) n g) (j : Nat) (x : Int) :
  Ow (w.setCell ⟨b, j, none⟩ (J k x)) base t size k (.slice (some ⟨b, 0, none⟩) n cap) n (fun i => if i = j then x else g i) := by
 have := (World.ownsRow.stored h j (J k x)).1
 rw [aAg] at this
 exact this
theorem Ow.other {w : World} {base b cap : Nat} {t : TypeId} {size : Nat} {k : IntKind} {n : Nat} {g : Nat → Int} (h : Ow w base t size k (.slice (some ⟨b, 0, none⟩) n cap) n g) {p : Addr} (hp : p.block ≠ b) (u : Value) :
  Ow (w.setCell p u) base t size k (.slice (some ⟨b, 0, none⟩) n cap) n g := by
 refine ⟨h.1, ?_⟩
 rcases h.2 with hn | ⟨b', cap', cur, e, hb', hh, rest⟩
 ·exact .inl hn
 ·refine .inr ⟨b', cap', cur, e, hb', ?_, rest⟩
  simp only [Value.slice.injEq, Option.some.injEq, Addr.mk.injEq, and_true, true_and] at e
  rw [Below.heap_setCell _ _ _ _ (by omega)]
  exact hh
theorem Rd.other {w : World} {k : IntKind} {b n cap m : Nat} {g : Nat → Int} (h : Rd w k (.slice (some ⟨b, 0, none⟩) n cap) n m g) {p : Addr} (hp : p.block ≠ b) (u : Value) : Rd (w.setCell p u) k (.slice (some ⟨b, 0, none⟩) n cap) n m g := by
 obtain ⟨a, cap', h1, h2, h3, h4⟩ := h
 refine ⟨a, cap', h1, h2, h3, fun hn => ?_⟩
 obtain ⟨b', rfl, hc⟩ := h4 hn
 simp only [Value.slice.injEq, Option.some.injEq, Addr.mk.injEq, and_true, true_and] at h1
 exact ⟨b', rfl, fun j hj => bW om (hc j hj)⟩
theorem MP {w : World} {o : Oper} {a : Act} {K : Act → World → Prop} {Q : Exit → Act → World → Prop} (s x : Operand) (ty : TypeId)
  (ho : o.op = .call { callee := .builtin .append, args := #[s, x], argTypes := #[ty, ty] }) (t : TypeId) (z : Value) (size bytes : Nat) (k : IntKind) (hty : Tryz.prog.underlying ty = some (.slice t)) (oM : (Tryz.prog.info? t).map (fun i => (i.zero, i.size, i.bytes)) = some (some z, size, bytes)) (hzs : z.cells.size = size) (hs0 : 0 < size) (hby : bytes ≤ 1000)
  (base n r : Nat) (g : Nat → Int) (v : Value) (b : Nat) (hs : a.eval s = v) (hown : Ow w base t size k v n g) (hx : a.eval x = .slice (some ⟨b, 0, none⟩) r r)
  (hc : ∀ j, j < r * size → w.cell? ⟨b, j, none⟩ = some (J k (g (n * size + j)))) (hr0 : 0 < r) (hn : n + r ≤ 100000000) (hbase : base ≤ w.heap.size)
  (h : ∀ v' w', Ow w' base t size k v' (n + r) g → Below base w w' → (∀ p off u, w.cell? ⟨p, off, none⟩ = some u → v.ownBlock ≠ some p → w'.cell? ⟨p, off, none⟩ = some u) → (v'.ownBlock = v.ownBlock ∨ v'.ownBlock = some w.heap.size) → K (a.put o.dst v') w') : o.wp Tryz.prog a w K Q := by
 obtain ⟨i0, hi, hz0, hz1, hz2⟩ := info_parts oM
 refine wp_append_lies _ s x ty ho base t i0 z size bytes hty hi hz0 hz1 hz2 hzs hs0 v n (uv k (n * size) g) hs hown ⟨b, 0, none⟩ r r (uv k (r * size) (fun j => g (n * size + j))) hx (kS _ _ _) ?_ ?_ hr0 (by unfold maxLen; omega) (by have := Nat.mul_le_mul hn hby; omega) hbase w.heap.size rfl ?_
 ·intro j u hj
  have hlt : j < r * size := by
   rcases Nat.lt_or_ge j (r * size) with c | c
   ·exact c
   ·rw [List.getElem?_eq_none (by rw [kS]; exact c)] at hj; cases hj
  rw [yO _ _ _ _ hlt] at hj
  obtain rfl := Option.some.inj hj
  have e : (⟨b, 0, none⟩ : Addr).add j = ⟨b, j, none⟩ := by unfold Addr.add; split <;> simp_all
  rw [e]; exact hc j hlt
 ·intro u hu
  obtain ⟨j, _, rfl⟩ := List.mem_map.1 hu
  rfl
 ·intro gb cap' w' hown' hgrow hat _
  refine h _ w' ?_ ?_ ?_ ?_
  ·show World.ownsRow _ _ _ _ _ _ _
   rw [Nat.add_mul, Sz]
   exact hown'
  ·refine (Below.refl base w).grown hgrow hbase ?_
   intro q hq
   exact (World.ownsRow.lt hown q hq).1
  ·intro p off u hu hne
   refine (World.cell?_of_block (w := w) (a := ⟨p, off, none⟩) (hgrow.block p (au hu) (fun e => hne e.symm))).trans hu
  ·rcases hat with e | e
   ·exact .inl (by rw [e]; rfl)
   ·exact .inr (by rw [e]; rfl)
theorem lJ {w : World} {ops : Array Oper} {rest : List Oper} {o : Oper} {a : Act} {Q : Exit → Act → World → Prop} (hgd : o.guard = none) (s x : Operand) (ty : TypeId)
  (ho : o.op = .call { callee := .builtin .append, args := #[s, x], argTypes := #[ty, ty] }) (t : TypeId) (z : Value) (size bytes : Nat) (k : IntKind) (hty : Tryz.prog.underlying ty = some (.slice t)) (oM : (Tryz.prog.info? t).map (fun i => (i.zero, i.size, i.bytes)) = some (some z, size, bytes)) (hzs : z.cells.size = size) (hs0 : 0 < size) (hby : bytes ≤ 1000)
  (base n r : Nat) (g : Nat → Int) (v : Value) (b : Nat) (hs : a.eval s = v) (hown : Ow w base t size k v n g) (hx : a.eval x = .slice (some ⟨b, 0, none⟩) r r)
  (hc : ∀ j, j < r * size → w.cell? ⟨b, j, none⟩ = some (J k (g (n * size + j)))) (hr0 : 0 < r) (hn : n + r ≤ 100000000) (hbase : base ≤ w.heap.size)
  (h : ∀ v' w', Ow w' base t size k v' (n + r) g → Below base w w' → (∀ p off u, w.cell? ⟨p, off, none⟩ = some u → v.ownBlock ≠ some p → w'.cell? ⟨p, off, none⟩ = some u) → (v'.ownBlock = v.ownBlock ∨ v'.ownBlock = some w.heap.size) → wpList Tryz.prog ops Q rest (a.put o.dst v') w') : wpList Tryz.prog ops Q (o :: rest) a w :=
 wpList_plain hgd fun _ hK => MP s x ty ho t z size bytes k hty oM hzs hs0 hby base n r g v b hs hown hx hc hr0 hn hbase fun v' w' h1 h2 h3 h4 => hK _ _ (h v' w' h1 h2 h3 h4)
theorem step_more {w : World} {ops : Array Oper} {o : Oper} {a : Act} {K : Act → World → Prop} {Q : Exit → Act → World → Prop} {E : Prop} (hgd : o.guard = none) (s x : Operand) (ty : TypeId)
  (ho : o.op = .call { callee := .builtin .append, args := #[s, x], argTypes := #[ty, ty] }) (t : TypeId) (z : Value) (size bytes : Nat) (k : IntKind) (hty : Tryz.prog.underlying ty = some (.slice t)) (oM : (Tryz.prog.info? t).map (fun i => (i.zero, i.size, i.bytes)) = some (some z, size, bytes)) (hzs : z.cells.size = size) (hs0 : 0 < size) (hby : bytes ≤ 1000)
  (base n r : Nat) (g : Nat → Int) (v : Value) (b : Nat) (hs : a.eval s = v) (hown : Ow w base t size k v n g) (hx : a.eval x = .slice (some ⟨b, 0, none⟩) r r)
  (hc : ∀ j, j < r * size → w.cell? ⟨b, j, none⟩ = some (J k (g (n * size + j)))) (hr0 : 0 < r) (hn : n + r ≤ 100000000) (hbase : base ≤ w.heap.size)
  (h : ∀ v' w', Ow w' base t size k v' (n + r) g → Below base w w' → (∀ p off u, w.cell? ⟨p, off, none⟩ = some u → v.ownBlock ≠ some p → w'.cell? ⟨p, off, none⟩ = some u) → (v'.ownBlock = v.ownBlock ∨ v'.ownBlock = some w.heap.size) → K (a.put o.dst v') w') : if Region.wanted o (yielded ops a.tmps) = true then Oper.wp Tryz.prog o a w K Q else E := by
 have hw : Region.wanted o (yielded ops a.tmps) = true := by simp [Region.wanted, hgd]
 rw [if_pos hw]
 exact MP s x ty ho t z size bytes k hty oM hzs hs0 hby base n r g v b hs hown hx hc hr0 hn hbase h
def Wd (a : Int) : Prop := 0 ≤ a ∧ a < 18446744073709551616
structure Ops where
 int : Int → Int
 add : Int → Int → Int
 sub : Int → Int → Int
 mul : Int → Int → Int
 div : Int → Int → Int
 sqrt : Int → Int
structure Ops.In (o : Ops) : Prop where
 int : ∀ n, Wd (o.int n)
 add : ∀ {a b}, Wd a → Wd b → Wd (o.add a b)
 sub : ∀ {a b}, Wd a → Wd b → Wd (o.sub a b)
 mul : ∀ {a b}, Wd a → Wd b → Wd (o.mul a b)
 div : ∀ {a b}, Wd a → Wd b → Wd (o.div a b)
 sqrt : ∀ {a}, Wd a → Wd (o.sqrt a)
abbrev YN (S : Nat) (a b z : Int) : Prop := Hid (∀ w, Calls Tryz.prog S #[J .i64 1, J .i64 0, J .u64 a, J .u64 b] w fun e w' => ∃ fl : Int, e = .returned (.agg #[J .u64 z, J .i64 fl]) ∧ Gb w w')
abbrev Oo (S : Nat) (a b z : Int) : Prop := Hid (∀ w, Fm w → Calls Tryz.prog S #[J .i64 1, J .i64 0, J .u64 a, J .u64 b] w fun e w' => ∃ fl : Int, e = .returned (.agg #[J .u64 z, J .i64 fl]) ∧ Gr w w')
structure Ops.S (o : Ops) : Prop where
 one : o.int 1 = 4607182418800017408
 half : o.div 4607182418800017408 (o.int 2) = 4602678819172646912
 int : ∀ n u : Int, -2047 ≤ n → n ≤ 2047 → u = n % 18446744073709551616 → Hid (∀ w, CT 19 #[J .i64 1, J .i64 0, J .i64 1, J .u64 u] w fun e w' => ∃ fl : Int, e = .returned (.agg #[J .u64 (o.int n), J .i64 fl]) ∧ Gb w w')
 add : ∀ {a b}, Wd a → Wd b → YN 79 a b (o.add a b)
 sub : ∀ {a b}, Wd a → Wd b → YN 82 a b (o.sub a b)
 mul : ∀ {a b}, Wd a → Wd b → YN 85 a b (o.mul a b)
 div : ∀ {a b}, Wd a → Wd b → YN 91 a b (o.div a b)
 sqrt : ∀ {a}, Wd a → Hid (∀ w, CT 94 #[J .i64 1, J .i64 0, J .u64 a] w fun e w' => ∃ fl : Int, e = .returned (.agg #[J .u64 (o.sqrt a), J .i64 fl]) ∧ Gb w w')
structure Ops.I (o : Ops) : Prop where
 add : ∀ {a b}, Wd a → Wd b → Oo 80 a b (o.add a b)
 sub : ∀ {a b}, Wd a → Wd b → Oo 83 a b (o.sub a b)
 mul : ∀ {a b}, Wd a → Wd b → Oo 86 a b (o.mul a b)
 div : ∀ {a b}, Wd a → Wd b → Oo 92 a b (o.div a b)
 sqrt : ∀ {a}, Wd a → Hid (∀ w, Fm w → CT 95 #[J .i64 1, J .i64 0, J .u64 a] w fun e w' => ∃ fl : Int, e = .returned (.agg #[J .u64 (o.sqrt a), J .i64 fl]) ∧ Gr w w')
abbrev uS : Int := 4607182418800017408
abbrev jJ : Int := 4602678819172646912
def l9 (a : Int) : Int := if a < 9223372036854775808 then a + 9223372036854775808 else a - 9223372036854775808
theorem sS {a : Int} (h : Wd a) : Wd (l9 a) := by unfold l9 Wd at *; split <;> omega
def mF (a : Int × Int) : Prop := Wd a.1 ∧ Wd a.2
def aBp (a : Int × Int) : Int × Int := (l9 a.1, l9 a.2)
def Au (a : Int × Int) : Int × Int := (a.1, l9 a.2)
theorem YA {a : Int × Int} (ha : mF a) : mF (aBp a) := ⟨sS ha.1, sS ha.2⟩
theorem Hq {a : Int × Int} (ha : mF a) : mF (Au a) := ⟨ha.1, sS ha.2⟩
theorem sV : Wd uS := ⟨de, de⟩
theorem nV : Wd jJ := ⟨de, de⟩
theorem oU : Wd 0 := by unfold Wd; omega
namespace Ops
variable (o : Ops)
def cAdd (a b : Int × Int) : Int × Int := (o.add a.1 b.1, o.add a.2 b.2)
def cSub (a b : Int × Int) : Int × Int := (o.sub a.1 b.1, o.sub a.2 b.2)
def cMul (a b : Int × Int) : Int × Int := (o.sub (o.mul a.1 b.1) (o.mul a.2 b.2), o.add (o.mul a.1 b.2) (o.mul a.2 b.1))
def lU (a : Int × Int) : Int × Int := (o.mul a.1 jJ, o.mul a.2 jJ)
def j_ (a : Int × Int) : Int := o.sqrt (o.mul (o.add uS a.1) jJ)
def root (a : Int × Int) : Int × Int := (o.j_ a, o.div a.2 (o.add (o.j_ a) (o.j_ a)))
def rt : Nat → Nat → Int × Int
 | 0, _ => (0, 0)
 | 1, _ => (0, uS)
 | k + 2, i => if i % 2 = 0 then o.root (rt (k + 1) (i / 2)) else aBp (o.root (rt (k + 1) (i / 2)))
def tr : Nat → (Nat → Int) → Nat → Int × Int
 | 0, _, _ => (0, 0)
 | 1, cs, _ => (cs 0, cs 1)
 | k + 2, cs, i =>
  if i % 2 = 0 then o.cAdd (tr (k + 1) (fun m => cs (2 * m)) (i / 2)) (o.cMul (o.rt (k + 2) (2 * (i / 2))) (tr (k + 1) (fun m => cs (2 * m + 1)) (i / 2)))
  else o.cSub (tr (k + 1) (fun m => cs (2 * m)) (i / 2)) (o.cMul (o.rt (k + 2) (2 * (i / 2))) (tr (k + 1) (fun m => cs (2 * m + 1)) (i / 2)))
def xC (zs : Nat → Int × Int) (j : Nat) : Int × Int := o.lU (o.cAdd (zs (2 * j)) (zs (2 * j + 1)))
def yG (k : Nat) (zs : Nat → Int × Int) (j : Nat) : Int × Int := o.lU (o.cMul (o.cSub (zs (2 * j)) (zs (2 * j + 1))) (Au (o.rt k (2 * j))))
def bk : Nat → (Nat → Int × Int) → Nat → Int
 | 0, _, _ => 0
 | 1, zs, i => if i % 2 = 0 then (zs 0).1 else (zs 0).2
 | k + 2, zs, i => if i % 2 = 0 then bk (k + 1) (o.xC zs) (i / 2) else bk (k + 1) (o.yG (k + 2) zs) (i / 2)
variable {o}
theorem In.cAdd (H : o.In) {a b : Int × Int} (ha : mF a) (hb : mF b) : mF (o.cAdd a b) := ⟨H.add ha.1 hb.1, H.add ha.2 hb.2⟩
theorem In.cSub (H : o.In) {a b : Int × Int} (ha : mF a) (hb : mF b) : mF (o.cSub a b) := ⟨H.sub ha.1 hb.1, H.sub ha.2 hb.2⟩
theorem In.cMul (H : o.In) {a b : Int × Int} (ha : mF a) (hb : mF b) : mF (o.cMul a b) := ⟨H.sub (H.mul ha.1 hb.1) (H.mul ha.2 hb.2), H.add (H.mul ha.1 hb.2) (H.mul ha.2 hb.1)⟩
theorem In.lU (H : o.In) {a : Int × Int} (ha : mF a) : mF (o.lU a) := ⟨H.mul ha.1 nV, H.mul ha.2 nV⟩
theorem In.j_ (H : o.In) {a : Int × Int} (ha : mF a) : Wd (o.j_ a) := H.sqrt (H.mul (H.add sV ha.1) nV)
theorem In.root (H : o.In) {a : Int × Int} (ha : mF a) : mF (o.root a) := ⟨H.j_ ha, H.div ha.2 (H.add (H.j_ ha) (H.j_ ha))⟩
theorem In.rt (H : o.In) : ∀ (k i : Nat), mF (o.rt k i)
 | 0, _ => by simp only [Ops.rt]; exact ⟨oU, oU⟩
 | 1, _ => by simp only [Ops.rt]; exact ⟨oU, sV⟩
 | k + 2, i => by
  have := In.rt H (k + 1) (i / 2)
  simp only [Ops.rt]
  split
  ·exact H.root this
  ·exact YA (H.root this)
theorem In.tr (H : o.In) : ∀ (k : Nat) (cs : Nat → Int) (i : Nat), (∀ j, Wd (cs j)) → mF (o.tr k cs i)
 | 0, _, _, _ => by simp only [Ops.tr]; exact ⟨oU, oU⟩
 | 1, cs, _, h => by simp only [Ops.tr]; exact ⟨h 0, h 1⟩
 | k + 2, cs, i, h => by
  have h1 := In.tr H (k + 1) (fun m => cs (2 * m)) (i / 2) (fun j => h _)
  have h2 := In.tr H (k + 1) (fun m => cs (2 * m + 1)) (i / 2) (fun j => h _)
  simp only [Ops.tr]
  split
  ·exact H.cAdd h1 (H.cMul (In.rt H _ _) h2)
  ·exact H.cSub h1 (H.cMul (In.rt H _ _) h2)
theorem In.xC (H : o.In) {zs : Nat → Int × Int} (h : ∀ j, mF (zs j)) (j : Nat) : mF (o.xC zs j) := H.lU (H.cAdd (h _) (h _))
theorem In.yG (H : o.In) (k : Nat) {zs : Nat → Int × Int} (h : ∀ j, mF (zs j)) (j : Nat) : mF (o.yG k zs j) := H.lU (H.cMul (H.cSub (h _) (h _)) (Hq (H.rt _ _)))
theorem In.bk (H : o.In) : ∀ (k : Nat) (zs : Nat → Int × Int) (i : Nat), (∀ j, mF (zs j)) → Wd (o.bk k zs i)
 | 0, _, _, _ => by simp only [Ops.bk]; exact oU
 | 1, zs, i, h => by
  simp only [Ops.bk]
  split
  ·exact (h 0).1
  ·exact (h 0).2
 | k + 2, zs, i, h => by
  simp only [Ops.bk]
  split
  ·exact In.bk H (k + 1) _ _ (H.xC h)
  ·exact In.bk H (k + 1) _ _ (H.yG _ h)
end Ops
def flat (f : Nat → Int × Int) (j : Nat) : Int := if j % 2 = 0 then (f (j / 2)).1 else (f (j / 2)).2
theorem aZ (f : Nat → Int × Int) (j : Nat) : flat f (2 * j) = (f j).1 := by unfold flat; rw [if_pos om, show 2 * j / 2 = j by omega]
theorem bC (f : Nat → Int × Int) (j : Nat) : flat f (2 * j + 1) = (f j).2 := by unfold flat; rw [if_neg om, show (2 * j + 1) / 2 = j by omega]
