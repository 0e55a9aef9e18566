import Derived.Test.YtnbbfeknbfohhaaGreatDoorA7
import Derived.Deep.AppendLies
import Derived.Test.YtnbbfeknbfohhaaGreatDoorA1
import Derived.Test.YtnbbfeknbfohhaaGreatDoorRows
import Derived.WalkSpells
import Derived.WalkLawsBesides
import Derived.Deep.DeepCutAuto
import Derived.Deep.Cut
import Derived.Test.YtnbbfeknbfohhaaGreatDoorB0
import Derived.Deep.RegionHeld3
set_option linter.unusedVariables false
set_option linter.unusedSimpArgs false
namespace Go.Proofs.YtnbbfeknbfohhaaGreatDoor
open Go.RowKit
def uv (k : IntKind) (m : Nat) (g : Nat → Int) : List Value := (List.range m).map fun j => Value.int k (g j)
theorem uv_length (k : IntKind) (m : Nat) (g : Nat → Int) : (uv k m g).length = m := by simp [uv]
theorem uv_get (k : IntKind) (m : Nat) (g : Nat → Int) (j : Nat) (hj : j < m) : (uv k m g)[j]? = some (.int k (g j)) := by simp [uv, hj]
theorem uv_congr {k : IntKind} {m : Nat} {g g' : Nat → Int} (h : ∀ j, j < m → g j = g' j) : uv k m g = uv k m g' := by
 unfold uv
 refine List.map_congr_left fun j hj => ?_
 rw [h j (by simpa using hj)]
theorem uv_set (k : IntKind) (m : Nat) (g : Nat → Int) (j : Nat) (x : Int) : (uv k m g).set j (.int k x) = uv k m (fun i => if i = j then x else g i) := by
 refine List.ext_getElem? fun i => ?_
 by_cases hi : i < m
 ·rw [uv_get _ _ _ _ hi, List.getElem?_set]
  by_cases e : j = i
  ·subst e; simp [uv_length, hi]
  ·rw [if_neg e, uv_get _ _ _ _ hi, if_neg (fun h => e h.symm)]
 ·rw [List.getElem?_eq_none (by simp [uv_length]; omega), List.getElem?_eq_none (by rw [uv_length]; omega)]
theorem uv_add (k : IntKind) (m r : Nat) (g : Nat → Int) : uv k (m + r) g = uv k m g ++ uv k r (fun j => g (m + j)) := by
 unfold uv
 rw [List.range_add, List.map_append, List.map_map]
 rfl
def Ow (w : World) (base : Nat) (t : TypeId) (size : Nat) (k : IntKind) (v : Value) (n : Nat) (g : Nat → Int) : Prop := w.ownsRow base t size v n (uv k (n * size) g)
def Rd (w : World) (k : IntKind) (v : Value) (n m : Nat) (g : Nat → Int) : Prop :=
 ∃ a cap, v = .slice a n cap ∧ n ≤ cap ∧ cap ≤ maxLen ∧ (0 < n → ∃ b, a = some ⟨b, 0, none⟩ ∧ ∀ j, j < m → w.cell? ⟨b, j, none⟩ = some (.int k (g j)))
theorem Rd.gb {w w' : World} {k : IntKind} {v : Value} {n m : Nat} {g : Nat → Int} (h : Rd w k v n m g) (hg : Gb w w') : Rd w' k v n m g := by
 obtain ⟨a, cap, h1, h2, h3, h4⟩ := h
 refine ⟨a, cap, h1, h2, h3, fun hn => ?_⟩
 obtain ⟨b, hb, hc⟩ := h4 hn
 exact ⟨b, hb, fun j hj => hg.old (hc j hj)⟩
theorem Rd.congr {w : World} {k : IntKind} {v : Value} {n m : Nat} {g g' : Nat → Int} (h : Rd w k v n m g) (e : ∀ j, j < m → g j = g' j) : Rd w k v n m g' := by
 obtain ⟨a, cap, h1, h2, h3, h4⟩ := h
 refine ⟨a, cap, h1, h2, h3, fun hn => ?_⟩
 obtain ⟨b, hb, hc⟩ := h4 hn
 exact ⟨b, hb, fun j hj => by rw [hc j hj, e j hj]⟩
theorem Rd.at {w : World} {k : IntKind} {v : Value} {n m : Nat} {g : Nat → Int} (h : Rd w k v n m g) (hn : 0 < n) : ∃ b cap, v = .slice (some ⟨b, 0, none⟩) n cap ∧ n ≤ cap ∧ cap ≤ maxLen ∧ ∀ j, j < m → w.cell? ⟨b, j, none⟩ = some (.int k (g j)) := by
 obtain ⟨a, cap, h1, h2, h3, h4⟩ := h
 obtain ⟨b, rfl, hc⟩ := h4 hn
 exact ⟨b, cap, h1, h2, h3, hc⟩
theorem Rd.nil {w : World} (k : IntKind) (a : Option Addr) (cap : Nat) (hc : cap ≤ maxLen) (m : Nat) (g : Nat → Int) : Rd w k (.slice a 0 cap) 0 m g := ⟨a, cap, rfl, Nat.zero_le _, hc, fun h => absurd h (by omega)⟩
theorem Ow.len {w : World} {base : Nat} {t : TypeId} {size : Nat} {k : IntKind} {v : Value} {n : Nat} {g : Nat → Int} (h : Ow w base t size k v n g) : ∃ a cap, v = .slice a n cap ∧ n ≤ cap ∧ cap ≤ maxLen := by
 rcases h.2 with ⟨rfl, rfl⟩ | ⟨b, cap, cur, rfl, _, _, hc, hm, _⟩
 ·exact ⟨none, 0, rfl, Nat.le_refl _, Nat.zero_le _⟩
 ·exact ⟨_, cap, rfl, hc, hm⟩
theorem Ow.at {w : World} {base : Nat} {t : TypeId} {size : Nat} {k : IntKind} {v : Value} {n : Nat} {g : Nat → Int} (h : Ow w base t size k v n g) (hn : 0 < n) :
  ∃ b cap, v = .slice (some ⟨b, 0, none⟩) n cap ∧ base ≤ b ∧ b < w.heap.size ∧ n ≤ cap ∧ cap ≤ maxLen ∧ ∀ j, j < n * size → w.cell? ⟨b, j, none⟩ = some (.int k (g j)) ∧ w.frozen? ⟨b, j, none⟩ = false := by
 have h0 := h
 rcases h.2 with ⟨rfl, rfl⟩ | ⟨b, cap, cur, rfl, hb, hh, hc, hm, _⟩
 ·omega
 ·refine ⟨b, cap, rfl, hb, (Array.getElem?_eq_some_iff.1 hh).1, hc, hm, fun j hj => ⟨?_, World.ownsRow.frozenAt h0 j⟩⟩
  rw [World.ownsRow.cellAt h0 j hj, uv_get _ _ _ _ hj]
theorem Ow.rd {w : World} {base : Nat} {t : TypeId} {size : Nat} {k : IntKind} {v : Value} {n : Nat} {g : Nat → Int} (h : Ow w base t size k v n g) : Rd w k v n (n * size) g := by
 rcases Nat.eq_zero_or_pos n with rfl | hn
 ·obtain ⟨a, cap, rfl, _, hc⟩ := h.len
  exact Rd.nil k a cap hc _ g
 ·obtain ⟨b, cap, rfl, _, _, h1, h2, h3⟩ := h.at hn
  exact ⟨_, cap, rfl, h1, h2, fun _ => ⟨b, rfl, fun j hj => (h3 j hj).1⟩⟩
theorem Ow.gb {w w' : World} {base : Nat} {t : TypeId} {size : Nat} {k : IntKind} {v : Value} {n : Nat} {g : Nat → Int} (h : Ow w base t size k v n g) (hg : Gb w w') : Ow w' base t size k v n g := by
 refine ⟨h.1, ?_⟩
 rcases h.2 with hn | ⟨b, cap, cur, rfl, hb, hh, rest⟩
 ·exact .inl hn
 ·refine .inr ⟨b, cap, cur, rfl, hb, ?_, rest⟩
  rw [Below.block hg b (Array.getElem?_eq_some_iff.1 hh).1]
  exact hh
theorem Ow.mono {w : World} {base base' : Nat} {t : TypeId} {size : Nat} {k : IntKind} {v : Value} {n : Nat} {g : Nat → Int} (h : Ow w base t size k v n g) (hb : base' ≤ base) : Ow w base' t size k v n g := by
 refine ⟨h.1, ?_⟩
 rcases h.2 with hn | ⟨b, cap, cur, rfl, hb', hh, rest⟩
 ·exact .inl hn
 ·exact .inr ⟨b, cap, cur, rfl, Nat.le_trans hb hb', hh, rest⟩
theorem Ow.congr {w : World} {base : Nat} {t : TypeId} {size : Nat} {k : IntKind} {v : Value} {n : Nat} {g g' : Nat → Int} (h : Ow w base t size k v n g) (e : ∀ j, j < n * size → g j = g' j) : Ow w base t size k v n g' := by
 have h' : w.ownsRow base t size v n (uv k (n * size) g) := h
 rw [uv_congr e] at h'
 exact h'
theorem Ow.alloc {w : World} {base : Nat} {t : TypeId} {size : Nat} {k : IntKind} {v : Value} {n : Nat} {g : Nat → Int} (h : Ow w base t size k v n g) (o : Obj) : Ow (w.alloc o) base t size k v n g := World.ownsRow.alloc h o
theorem Ow.drew {w : World} {base : Nat} {t : TypeId} {size : Nat} {k : IntKind} {v : Value} {n : Nat} {g : Nat → Int} (h : Ow w base t size k v n g) : Ow w.drew base t size k v n g := World.ownsRow.drew h
theorem Ow.nil (w : World) (base : Nat) (t : TypeId) (size : Nat) (k : IntKind) (g : Nat → Int) : Ow w base t size k (.slice none 0 0) 0 g := by
 refine ⟨by simp [uv], .inl ⟨rfl, rfl⟩⟩
theorem Ow.lit (w : World) (t : TypeId) (size : Nat) (k : IntKind) (g : Nat → Int) : Ow (w.alloc (.cells #[] t)) w.heap.size t size k (.slice (some ⟨w.heap.size, 0, none⟩) 0 0) 0 g := by
 have := World.ownsRow_lit (base := w.heap.size) (e := t) (size := size) w #[] 0 (Nat.le_refl _) (Nat.zero_le _) (by simp)
 simpa [Ow, uv] using this
theorem Ow.store {w : World} {base b cap : Nat} {t : TypeId} {size : Nat} {k : IntKind} {n : Nat} {g : Nat → Int} (h : Ow w base t size k (.slice (some ⟨b, 0, none⟩) n cap) n g) (j : Nat) (x : Int) :
  Ow (w.setCell ⟨b, j, none⟩ (.int k x)) base t size k (.slice (some ⟨b, 0, none⟩) n cap) n (fun i => if i = j then x else g i) := by
 have := (World.ownsRow.stored h j (.int k x)).1
 rw [uv_set] at this
 exact this
theorem Ow.other {w : World} {base b cap : Nat} {t : TypeId} {size : Nat} {k : IntKind} {n : Nat} {g : Nat → Int} (h : Ow w base t size k (.slice (some ⟨b, 0, none⟩) n cap) n g) {p : Addr} (hp : p.block ≠ b) (u : Value) :
  Ow (w.setCell p u) base t size k (.slice (some ⟨b, 0, none⟩) n cap) n g := by
 refine ⟨h.1, ?_⟩
 rcases h.2 with hn | ⟨b', cap', cur, e, hb', hh, rest⟩
 ·exact .inl hn
 ·refine .inr ⟨b', cap', cur, e, hb', ?_, rest⟩
  simp only [Value.slice.injEq, Option.some.injEq, Addr.mk.injEq, and_true, true_and] at e
  rw [Below.heap_setCell _ _ _ _ (by omega)]
  exact hh
theorem Rd.other {w : World} {k : IntKind} {b n cap m : Nat} {g : Nat → Int} (h : Rd w k (.slice (some ⟨b, 0, none⟩) n cap) n m g) {p : Addr} (hp : p.block ≠ b) (u : Value) : Rd (w.setCell p u) k (.slice (some ⟨b, 0, none⟩) n cap) n m g := by
 obtain ⟨a, cap', h1, h2, h3, h4⟩ := h
 refine ⟨a, cap', h1, h2, h3, fun hn => ?_⟩
 obtain ⟨b', rfl, hc⟩ := h4 hn
 simp only [Value.slice.injEq, Option.some.injEq, Addr.mk.injEq, and_true, true_and] at h1
 exact ⟨b', rfl, fun j hj => cell_setNew (by omega) (hc j hj)⟩
theorem wp_more {w : World} {o : Oper} {a : Act} {K : Act → World → Prop} {Q : Exit → Act → World → Prop} (s x : Operand) (ty : TypeId)
  (ho : o.op = .call { callee := .builtin .append, args := #[s, x], argTypes := #[ty, ty] }) (t : TypeId) (z : Value) (size bytes : Nat) (k : IntKind) (hty : Tryz.prog.underlying ty = some (.slice t)) (hinf : (Tryz.prog.info? t).map (fun i => (i.zero, i.size, i.bytes)) = some (some z, size, bytes)) (hzs : z.cells.size = size) (hs0 : 0 < size) (hby : bytes ≤ 1000)
  (base n r : Nat) (g : Nat → Int) (v : Value) (b : Nat) (hs : a.eval s = v) (hown : Ow w base t size k v n g) (hx : a.eval x = .slice (some ⟨b, 0, none⟩) r r)
  (hc : ∀ j, j < r * size → w.cell? ⟨b, j, none⟩ = some (.int k (g (n * size + j)))) (hr0 : 0 < r) (hn : n + r ≤ 100000000) (hbase : base ≤ w.heap.size)
  (h : ∀ v' w', Ow w' base t size k v' (n + r) g → Below base w w' → (∀ p off u, w.cell? ⟨p, off, none⟩ = some u → v.ownBlock ≠ some p → w'.cell? ⟨p, off, none⟩ = some u) → (v'.ownBlock = v.ownBlock ∨ v'.ownBlock = some w.heap.size) → K (a.put o.dst v') w') : o.wp Tryz.prog a w K Q := by
 obtain ⟨i0, hi, hz0, hz1, hz2⟩ := info_parts hinf
 refine wp_append_lies _ s x ty ho base t i0 z size bytes hty hi hz0 hz1 hz2 hzs hs0 v n (uv k (n * size) g) hs hown ⟨b, 0, none⟩ r r (uv k (r * size) (fun j => g (n * size + j))) hx (uv_length _ _ _) ?_ ?_ hr0 (by unfold maxLen; omega) (by have := Nat.mul_le_mul hn hby; omega) hbase w.heap.size rfl ?_
 ·intro j u hj
  have hlt : j < r * size := by
   rcases Nat.lt_or_ge j (r * size) with c | c
   ·exact c
   ·rw [List.getElem?_eq_none (by rw [uv_length]; exact c)] at hj; cases hj
  rw [uv_get _ _ _ _ hlt] at hj
  obtain rfl := Option.some.inj hj
  have e : (⟨b, 0, none⟩ : Addr).add j = ⟨b, j, none⟩ := by unfold Addr.add; split <;> simp_all
  rw [e]; exact hc j hlt
 ·intro u hu
  obtain ⟨j, _, rfl⟩ := List.mem_map.1 hu
  rfl
 ·intro gb cap' w' hown' hgrow hat _
  refine h _ w' ?_ ?_ ?_ ?_
  ·show World.ownsRow _ _ _ _ _ _ _
   rw [Nat.add_mul, uv_add]
   exact hown'
  ·refine (Below.refl base w).grown hgrow hbase ?_
   intro q hq
   exact (World.ownsRow.lt hown q hq).1
  ·intro p off u hu hne
   refine (World.cell?_of_block (w := w) (a := ⟨p, off, none⟩) (hgrow.block p (cell_size hu) (fun e => hne e.symm))).trans hu
  ·rcases hat with e | e
   ·exact .inl (by rw [e]; rfl)
   ·exact .inr (by rw [e]; rfl)
theorem wpList_more {w : World} {ops : Array Oper} {rest : List Oper} {o : Oper} {a : Act} {Q : Exit → Act → World → Prop} (hgd : o.guard = none) (s x : Operand) (ty : TypeId)
  (ho : o.op = .call { callee := .builtin .append, args := #[s, x], argTypes := #[ty, ty] }) (t : TypeId) (z : Value) (size bytes : Nat) (k : IntKind) (hty : Tryz.prog.underlying ty = some (.slice t)) (hinf : (Tryz.prog.info? t).map (fun i => (i.zero, i.size, i.bytes)) = some (some z, size, bytes)) (hzs : z.cells.size = size) (hs0 : 0 < size) (hby : bytes ≤ 1000)
  (base n r : Nat) (g : Nat → Int) (v : Value) (b : Nat) (hs : a.eval s = v) (hown : Ow w base t size k v n g) (hx : a.eval x = .slice (some ⟨b, 0, none⟩) r r)
  (hc : ∀ j, j < r * size → w.cell? ⟨b, j, none⟩ = some (.int k (g (n * size + j)))) (hr0 : 0 < r) (hn : n + r ≤ 100000000) (hbase : base ≤ w.heap.size)
  (h : ∀ v' w', Ow w' base t size k v' (n + r) g → Below base w w' → (∀ p off u, w.cell? ⟨p, off, none⟩ = some u → v.ownBlock ≠ some p → w'.cell? ⟨p, off, none⟩ = some u) → (v'.ownBlock = v.ownBlock ∨ v'.ownBlock = some w.heap.size) → wpList Tryz.prog ops Q rest (a.put o.dst v') w') : wpList Tryz.prog ops Q (o :: rest) a w :=
 wpList_plain hgd fun _ hK => wp_more s x ty ho t z size bytes k hty hinf hzs hs0 hby base n r g v b hs hown hx hc hr0 hn hbase fun v' w' h1 h2 h3 h4 => hK _ _ (h v' w' h1 h2 h3 h4)
end Go.Proofs.YtnbbfeknbfohhaaGreatDoor
set_option maxHeartbeats 40000000
namespace Go.Proofs.YtnbbfeknbfohhaaGreatDoor
open Go.RowKit
structure CodeRow (w : World) (a : Option Addr) (len : Nat) : Prop where
 few : len ≤ 1048576
 cells : len = 0 ∨ ∃ b off, a = some ⟨b, off, none⟩ ∧ ∀ i, i < len → ∃ z : Int, 0 ≤ z ∧ z ≤ 255 ∧ w.cell? ⟨b, off + i, none⟩ = some (.int .u8 z)
theorem CodeRow.gr {w w' : World} {a : Option Addr} {len : Nat} (h : CodeRow w a len) (g : Gr w w') : CodeRow w' a len := by
 refine ⟨h.few, ?_⟩
 rcases h.cells with e | ⟨b, off, e, c⟩
 ·exact .inl e
 ·refine .inr ⟨b, off, e, fun i hi => ?_⟩
  obtain ⟨z, z0, z1, hz⟩ := c i hi
  exact ⟨z, z0, z1, g.old hz⟩
theorem tmod_small (x n : Int) (hx : 0 ≤ x) (hn : 0 < n) : 0 ≤ Int.tmod x n ∧ Int.tmod x n < n := by
 rw [Int.tmod_eq_emod_of_nonneg hx]
 exact ⟨Int.emod_nonneg _ (by omega), Int.emod_lt_of_pos _ hn⟩
theorem take_zero (a : Option Addr) (cap : Nat) (p n : Int) (hp0 : 0 ≤ p) (hp1 : p ≤ 1000) (hn0 : 0 < n) (hn1 : n ≤ 256) (w : World) :
  Calls Tryz.prog 48 #[.slice a 0 cap, .int .i64 p, .int .i64 n] w fun e w' => e = .returned (.tuple #[.int .i64 0, .int .i64 (p + 1)]) ∧ w = w' := by
 go_enter Tryz.func48, Tryz.ntmps48
 go_wp2
 go_returns
 exact ⟨rfl, rfl⟩
theorem take_in (b off len cap : Nat) (k : Nat) (n z : Int) (hlen : len ≤ 1048576) (hk : k < len) (hk1 : k ≤ 1000) (hn0 : 0 < n) (hn1 : n ≤ 256) (w : World) (z0 : 0 ≤ z) (z1 : z ≤ 255) (hz : w.cell? ⟨b, off + k, none⟩ = some (.int .u8 z)) :
  Calls Tryz.prog 48 #[.slice (some ⟨b, off, none⟩) len cap, .int .i64 k, .int .i64 n] w fun e w' => e = .returned (.tuple #[.int .i64 (z % n), .int .i64 (k + 1)]) ∧ w = w' := by
 have e0 : ((len : Int) == 0) = false := by simp; omega
 have e1 : (k : Int) < (len : Int) := by omega
 go_enter Tryz.func48, Tryz.ntmps48
 go_wp2
 go_returns
 exact ⟨rfl, rfl⟩
theorem xor_i64 (a b : Nat) (ha : a < 4294967296) (hb : b < 4294967296) : 0 ≤ bits .xor .i64 (a : Int) (b : Int) := by
 have hx : a ^^^ b < 2 ^ 32 := Nat.xor_lt_two_pow (by omega) (by omega)
 show 0 ≤ IntKind.i64.wrap ((BitVec.ofInt 64 (a : Int) ^^^ BitVec.ofInt 64 (b : Int)).toNat : Int)
 rw [BitVec.toNat_xor, ofInt_u64 a (by omega), ofInt_u64 b (by omega), IntKind.wrap_i64]
 omega
theorem take_out (b off len cap : Nat) (k : Nat) (n z y : Int) (hlen : len ≤ 1048576) (hl : 0 < len) (hk : len ≤ k) (hk1 : k ≤ 1000) (hn0 : 0 < n) (hn1 : n ≤ 256) (w : World) (z0 : 0 ≤ z) (z1 : z ≤ 255) (y0 : 0 ≤ y) (y1 : y ≤ 255)
  (hz : w.cell? ⟨b, off + k % len, none⟩ = some (.int .u8 z)) (hy : w.cell? ⟨b, off + (k * 7 + 3) % len, none⟩ = some (.int .u8 y)) :
  Calls Tryz.prog 48 #[.slice (some ⟨b, off, none⟩) len cap, .int .i64 k, .int .i64 n] w fun e w' => ∃ x : Int, 0 ≤ x ∧ x < n ∧ e = .returned (.tuple #[.int .i64 x, .int .i64 (k + 1)]) ∧ w = w' := by
 have e0 : ((len : Int) == 0) = false := by simp; omega
 have e1 : ¬ (k : Int) < (len : Int) := by omega
 have m1 : (k : Int).tmod (len : Int) = ((k % len : Nat) : Int) := by rw [Int.tmod_eq_emod_of_nonneg (by omega)]; rfl
 have m2 : ((k : Int) * 7 + 3).tmod (len : Int) = (((k * 7 + 3) % len : Nat) : Int) := by rw [Int.tmod_eq_emod_of_nonneg (by omega)]; rfl
 have b1 := Nat.mod_lt k hl
 have b2 := Nat.mod_lt (k * 7 + 3) hl
 have m3 := Int.emod_nonneg ((k : Int) * 7 + 3) (show (len : Int) ≠ 0 by omega)
 have m4 := Int.emod_lt_of_pos ((k : Int) * 7 + 3) (show (0 : Int) < len by omega)
 have d0 : 0 ≤ (k : Int) / (len : Int) := Int.ediv_nonneg (by omega) (by omega)
 have d1 : (k : Int) / (len : Int) ≤ 1000 := by have := Int.ediv_le_self (len : Int) (show (0 : Int) ≤ k by omega); omega
 obtain ⟨X, hX⟩ : ∃ X, z * 131 + y * 1117 + (k : Int) * 29 + (k : Int) / (len : Int) * 53 = X := ⟨_, rfl⟩
 have X0 : 0 ≤ X := by omega
 have X1 : X < 4294967296 := by omega
 have HB : Hid (0 ≤ bits .xor .i64 X (X / 64)) := by
  obtain ⟨N, rfl⟩ := Int.eq_ofNat_of_zero_le X0
  have : ((N : Int) / 64) = ((N / 64 : Nat) : Int) := by omega
  rw [this]; exact xor_i64 N (N / 64) (by omega) (by omega)
 go_enter Tryz.func48, Tryz.ntmps48
 go_wp2
 go_returns
 obtain ⟨t0, t1⟩ := tmod_small _ n HB.out hn0
 exact ⟨_, t0, t1, rfl, rfl⟩
theorem take_any (a : Option Addr) (len cap k : Nat) (n : Int) (w : World) (hC : CodeRow w a len) (hk1 : k ≤ 1000) (hn0 : 0 < n) (hn1 : n ≤ 256) :
  Calls Tryz.prog 48 #[.slice a len cap, .int .i64 k, .int .i64 n] w fun e w' => ∃ x : Int, 0 ≤ x ∧ x < n ∧ e = .returned (.tuple #[.int .i64 x, .int .i64 ((k + 1 : Nat) : Int)]) ∧ w = w' := by
 have ek : ((k + 1 : Nat) : Int) = (k : Int) + 1 := by omega
 rw [ek]
 rcases (show len = 0 ∨ 0 < len by omega) with rfl | hl
 ·refine (take_zero a cap k n (by omega) (by omega) hn0 hn1 w).mono ?_
  rintro e w' ⟨rfl, rfl⟩
  exact ⟨0, by omega, hn0, rfl, rfl⟩
 ·rcases hC.cells with e | ⟨b, off, rfl, hc⟩
  ·omega
  ·rcases Nat.lt_or_ge k len with h | h
   ·obtain ⟨z, z0, z1, hz⟩ := hc k h
    refine (take_in b off len cap k n z hC.few h hk1 hn0 hn1 w z0 z1 hz).mono ?_
    rintro e w' ⟨rfl, rfl⟩
    exact ⟨_, Int.emod_nonneg _ (by omega), Int.emod_lt_of_pos _ hn0, rfl, rfl⟩
   ·obtain ⟨z, z0, z1, hz⟩ := hc (k % len) (Nat.mod_lt _ hl)
    obtain ⟨y, y0, y1, hy⟩ := hc ((k * 7 + 3) % len) (Nat.mod_lt _ hl)
    exact take_out b off len cap k n z y hC.few hl h hk1 hn0 hn1 w z0 z1 y0 y1 hz hy
end Go.Proofs.YtnbbfeknbfohhaaGreatDoor
namespace Go.Proofs.YtnbbfeknbfohhaaGreatDoor
open Go.RowKit
theorem bitsN_any (a : Option Addr) (len cap p n : Nat) (hn : n ≤ 64) (w : World) (hC : CodeRow w a len) (hp : p ≤ 900) :
  Calls Tryz.prog 163 #[.slice a len cap, .int .i64 p, .int .i64 n] w fun e w' => ∃ (v : Int) (k : Nat), 0 ≤ v ∧ v < 18446744073709551616 ∧ k ≤ p + 10 ∧ e = .returned (.tuple #[.int .u64 v, .int .i64 k]) ∧ w = w' := by
 have HC : Hid _ := hC
 clear hC
 go_enter Tryz.func163, Tryz.ntmps163
 go_wp2_with (go_at_call 48; refine (take_any a len cap p 5 _ HC.out (by omega) (by omega) (by omega)).mono ?_; rintro e w' ⟨how, hw0, hw1, rfl, hw⟩; subst hw)
 go_loop [1, 10, 11] (fun s1 s10 s11 => ∃ (i : Nat) (v : Int), i ≤ 8 ∧ s1 = .int .i64 ((p + 1 + i : Nat) : Int) ∧ s10 = .int .u64 v ∧ 0 ≤ v ∧ v < 18446744073709551616 ∧ s11 = .int .i64 i) (fun _ _ s => 8 - (intOf s).toNat)
 case atStart => exact ⟨0, 0, by omega, by go_num, rfl, by omega, by omega, rfl⟩
 case round =>
  obtain ⟨i, v, hi, rfl, rfl, v0, v1, rfl⟩ := hrel
  by_cases hlt : (i : Int) < 8
  ·rcases (show how = 0 ∨ how = 1 ∨ ((how == 0) = false ∧ (how == 1) = false) by simp; omega) with rfl | rfl | ⟨e0, e1⟩
   ·rcases (show i = 0 ∨ i = 7 ∨ (0 < i ∧ i < 7) by omega) with rfl | rfl | ⟨i0, i7⟩
    ·go_wp2_with (go_at_call 48; refine (take_any a len cap (p + 1 + 0) 256 _ HC.out (by omega) (by omega) (by omega)).mono ?_; rintro e w' ⟨x, x0, x1, rfl, hw⟩; subst hw)
     go_round
     case rel => exact ⟨0 + 1, IntKind.u64.wrap (IntKind.u64.wrap (v * 256) + x), by omega, by go_num, rfl, by simp only [IntKind.wrap_u64]; omega, by simp only [IntKind.wrap_u64]; omega, by go_num⟩
     case measure => simp [intOf] <;> omega
    ·go_wp2_with (go_at_call 48; refine (take_any a len cap (p + 1 + 7) 256 _ HC.out (by omega) (by omega) (by omega)).mono ?_; rintro e w' ⟨x, x0, x1, rfl, hw⟩; subst hw)
     go_round
     case rel => exact ⟨7 + 1, IntKind.u64.wrap (IntKind.u64.wrap (v * 256) + x), by omega, by go_num, rfl, by simp only [IntKind.wrap_u64]; omega, by simp only [IntKind.wrap_u64]; omega, by go_num⟩
     case measure => simp [intOf] <;> omega
    ·go_wp2_with (go_at_call 48; refine (take_any a len cap (p + 1 + i) 256 _ HC.out (by omega) (by omega) (by omega)).mono ?_; rintro e w' ⟨x, x0, x1, rfl, hw⟩; subst hw)
     go_round
     case rel => exact ⟨i + 1, IntKind.u64.wrap (IntKind.u64.wrap (v * 256)), by omega, by go_num, rfl, by simp only [IntKind.wrap_u64]; omega, by simp only [IntKind.wrap_u64]; omega, by go_num⟩
     case measure => simp [intOf] <;> omega
   ·rcases (show i = 0 ∨ i = 7 ∨ (0 < i ∧ i < 7) by omega) with rfl | rfl | ⟨i0, i7⟩
    ·go_wp2_with (go_at_call 48; refine (take_any a len cap (p + 1 + 0) 256 _ HC.out (by omega) (by omega) (by omega)).mono ?_; rintro e w' ⟨x, x0, x1, rfl, hw⟩; subst hw)
     go_round
     case rel => exact ⟨0 + 1, IntKind.u64.wrap (IntKind.u64.wrap (v * 256) + x), by omega, by go_num, rfl, by simp only [IntKind.wrap_u64]; omega, by simp only [IntKind.wrap_u64]; omega, by go_num⟩
     case measure => simp [intOf] <;> omega
    ·go_wp2_with (go_at_call 48; refine (take_any a len cap (p + 1 + 7) 256 _ HC.out (by omega) (by omega) (by omega)).mono ?_; rintro e w' ⟨x, x0, x1, rfl, hw⟩; subst hw)
     go_round
     case rel => exact ⟨7 + 1, IntKind.u64.wrap (IntKind.u64.wrap (v * 256) + x), by omega, by go_num, rfl, by simp only [IntKind.wrap_u64]; omega, by simp only [IntKind.wrap_u64]; omega, by go_num⟩
     case measure => simp [intOf] <;> omega
    ·go_wp2_with (go_at_call 48; refine (take_any a len cap (p + 1 + i) 256 _ HC.out (by omega) (by omega) (by omega)).mono ?_; rintro e w' ⟨x, x0, x1, rfl, hw⟩; subst hw)
     go_round
     case rel => exact ⟨i + 1, IntKind.u64.wrap (IntKind.u64.wrap (v * 256) + 255), by omega, by go_num, rfl, by simp only [IntKind.wrap_u64]; omega, by simp only [IntKind.wrap_u64]; omega, by go_num⟩
     case measure => simp [intOf] <;> omega
   ·go_wp2_with (go_at_call 48; refine (take_any a len cap (p + 1 + i) 256 _ HC.out (by omega) (by omega) (by omega)).mono ?_; rintro e w' ⟨x, x0, x1, rfl, hw⟩; subst hw)
    go_round
    case rel => exact ⟨i + 1, IntKind.u64.wrap (IntKind.u64.wrap (v * 256) + x), by omega, by go_num, rfl, by simp only [IntKind.wrap_u64]; omega, by simp only [IntKind.wrap_u64]; omega, by go_num⟩
    case measure => simp [intOf] <;> omega
  ·by_cases h2 : how = 2
   ·subst h2
    go_wp2_with (go_at_call 48; refine (take_any a len cap (p + 1 + i) 64 _ HC.out (by omega) (by omega) (by omega)).mono ?_; rintro e w' ⟨x, x0, x1, rfl, hw⟩; subst hw)
    go_loop [10, 12] (fun s10 s12 => ∃ (j v : Int), 0 ≤ j ∧ j ≤ x ∧ s10 = .int .u64 v ∧ 0 ≤ v ∧ v < 18446744073709551616 ∧ s12 = .int .i64 j) (fun _ s => (64 - intOf s).toNat)
    case atStart => exact ⟨0, v, by omega, x0, rfl, v0, v1, rfl⟩
    case round =>
     obtain ⟨j, u, j0, j1, rfl, u0, u1, rfl⟩ := hrel
     by_cases hj : j < x
     ·go_wp2
      go_round
      case rel => exact ⟨j + 1, u / 2, by omega, by omega, rfl, by omega, by omega, rfl⟩
      case measure => simp [intOf]; omega
     ·go_wp2
      go_loop [10, 13] (fun s10 s13 => ∃ (j : Nat) (x : Int), j ≤ 64 ∧ s10 = .int .u64 x ∧ 0 ≤ x ∧ x < 18446744073709551616 ∧ s13 = .int .i64 j) (fun _ s => 64 - (intOf s).toNat)
      case atStart => exact ⟨n, u, hn, rfl, u0, u1, rfl⟩
      case round =>
       obtain ⟨j, x, j1, rfl, x0, x1, rfl⟩ := hrel
       by_cases hj : (j : Int) < 64
       ·go_wp2
        go_round
        case rel => exact ⟨j + 1, IntKind.u64.wrap (x * 2), by omega, rfl, by simp only [IntKind.wrap_u64]; omega, by simp only [IntKind.wrap_u64]; omega, by go_num⟩
        case measure => simp [intOf] <;> omega
       ·go_wp2
        go_loop [10, 14] (fun s10 s14 => ∃ (j : Nat) (x : Int), j ≤ 64 ∧ s10 = .int .u64 x ∧ 0 ≤ x ∧ x < 18446744073709551616 ∧ s14 = .int .i64 j) (fun _ s => 64 - (intOf s).toNat)
        case atStart => exact ⟨n, x, hn, rfl, x0, x1, rfl⟩
        case round =>
         obtain ⟨j', y, j2, rfl, y0, y1, rfl⟩ := hrel
         by_cases hj' : (j' : Int) < 64
         ·go_wp2
          go_round
          case rel => exact ⟨j' + 1, y / 2, by omega, rfl, by omega, by omega, by go_num⟩
          case measure => simp [intOf] <;> omega
         ·go_wp2
          go_returns
          first | exact ⟨y, p + 1 + i + 1, y0, y1, by omega, rfl, rfl⟩ | exact ⟨y, y0, y1, p + 1 + i + 1, by omega, rfl, rfl⟩
   ·have e2 : (how == 2) = false := by simp [h2]
    clear h2
    go_wp2
    go_loop [10, 13] (fun s10 s13 => ∃ (j : Nat) (x : Int), j ≤ 64 ∧ s10 = .int .u64 x ∧ 0 ≤ x ∧ x < 18446744073709551616 ∧ s13 = .int .i64 j) (fun _ s => 64 - (intOf s).toNat)
    case atStart => exact ⟨n, v, hn, rfl, v0, v1, rfl⟩
    case round =>
     obtain ⟨j, x, j1, rfl, x0, x1, rfl⟩ := hrel
     by_cases hj : (j : Int) < 64
     ·go_wp2
      go_round
      case rel => exact ⟨j + 1, IntKind.u64.wrap (x * 2), by omega, rfl, by simp only [IntKind.wrap_u64]; omega, by simp only [IntKind.wrap_u64]; omega, by go_num⟩
      case measure => simp [intOf] <;> omega
     ·go_wp2
      go_loop [10, 14] (fun s10 s14 => ∃ (j : Nat) (x : Int), j ≤ 64 ∧ s10 = .int .u64 x ∧ 0 ≤ x ∧ x < 18446744073709551616 ∧ s14 = .int .i64 j) (fun _ s => 64 - (intOf s).toNat)
      case atStart => exact ⟨n, x, hn, rfl, x0, x1, rfl⟩
      case round =>
       obtain ⟨j', y, j2, rfl, y0, y1, rfl⟩ := hrel
       by_cases hj' : (j' : Int) < 64
       ·go_wp2
        go_round
        case rel => exact ⟨j' + 1, y / 2, by omega, rfl, by omega, by omega, by go_num⟩
        case measure => simp [intOf] <;> omega
       ·go_wp2
        go_returns
        first | exact ⟨y, p + 1 + i, y0, y1, by omega, rfl, rfl⟩ | exact ⟨y, y0, y1, p + 1 + i, by omega, rfl, rfl⟩
set_option maxRecDepth 100000 in
theorem drawExp_any (a : Option Addr) (len cap p : Nat) (f : Int) (hf : f = 0 ∨ f = 1) (w : World) (hC : CodeRow w a len) (hp : p ≤ 900) :
  Calls Tryz.prog 214 #[.slice a len cap, .int .i64 p, .int .i64 f] w fun x w' => ∃ v : Int, 0 ≤ v ∧ v < 18446744073709551616 ∧ x = .returned (.tuple #[.int .u64 v, .int .i64 ((p + 2 : Nat) : Int)]) ∧ w = w' := by
 have HC : Hid (CodeRow w a len) := hC
 clear hC
 obtain ⟨mx, pp, hm, HM, HP⟩ : ∃ mx pp : Int, (mx = 127 ∨ mx = 1023) ∧ Hid ((24 ≤ pp ∧ pp ≤ 53) ∧ ∀ w, Calls Tryz.prog 153 #[.int .i64 f] w fun x w' => x = .returned (.int .i64 mx) ∧ w = w') ∧ Hid (∀ w, Calls Tryz.prog 115 #[.int .i64 f] w fun x w' => x = .returned (.int .i64 pp) ∧ w = w') := by
  rcases hf with rfl | rfl
  ·exact ⟨127, 24, .inl rfl, ⟨by omega, fun w => l2Max_any (.inl ⟨rfl, rfl, rfl, rfl, rfl, rfl, rfl⟩) w⟩, fun w => l2P_any (.inl ⟨rfl, rfl, rfl, rfl, rfl, rfl, rfl⟩) w⟩
  ·exact ⟨1023, 53, .inr rfl, ⟨by omega, fun w => l2Max_any fmt64 w⟩, fun w => l2P_any fmt64 w⟩
 have hpp := HM.out.1
 clear hf
 rcases hm with rfl | rfl
 all_goals
  go_enter Tryz.func214, Tryz.ntmps214
  go_upto_region 3 with (go_at_call 48; refine (take_any a len cap p 16 _ HC.out (by omega) (by omega) (by omega)).mono ?_; rintro x w' ⟨how, c0, c1, rfl, hw⟩; subst hw)
  go_upto_region 4 with (go_at_call 48; refine (take_any a len cap (p + 1) 256 _ HC.out (by omega) (by omega) (by omega)).mono ?_; rintro x w' ⟨d, d0, d1, rfl, hw⟩; subst hw)
  go_upto_region 5 with (go_at_call 153; refine (HM.out.2 _).mono ?_; rintro x w' ⟨rfl, hw⟩; subst hw)
  rcases (show how < 9 ∨ how = 9 ∨ how = 10 ∨ how = 11 ∨ how = 12 ∨ how = 13 ∨ how = 14 ∨ how = 15 by omega) with k | rfl | rfl | rfl | rfl | rfl | rfl | rfl
 all_goals go_wp2_with (go_at_call 115; refine (HP.out _).mono ?_; rintro x w' ⟨rfl, hw⟩; subst hw)
 all_goals go_returns
 all_goals refine ⟨_, ?_, ?_, rfl, rfl⟩
 all_goals first | omega | (simp only [IntKind.wrap_u64]; omega)
theorem l2Put_some {f p mx one inf sg nan : Int} (h : IsFmt f p mx one inf sg nan) (s v : Int) (hs : s = 0 ∨ s = 1) (v0 : 0 ≤ v) (v1 : v < 18446744073709551616) (w : World) :
  Calls Tryz.prog 151 #[.int .i64 f, .int .i64 s, .int .u64 v] w fun x w' => ∃ z : Int, 0 ≤ z ∧ z < 18446744073709551616 ∧ x = .returned (.int .u64 z) ∧ w = w' := by
 have HS : Hid (∀ w, Calls Tryz.prog 111 #[.int .i64 f] w fun x w' => x = .returned (.int .u64 sg) ∧ w = w') := fun w => l2Sign_any h w
 clear h
 rcases hs with rfl | rfl
 ·go_enter Tryz.func151, Tryz.ntmps151
  go_wp2
  go_returns
  exact ⟨_, v0, v1, rfl, rfl⟩
 ·go_enter Tryz.func151, Tryz.ntmps151
  go_wp2_with (go_at_call 111; refine (HS.out _).mono ?_; rintro x w' ⟨rfl, hw⟩; subst hw)
  go_returns
  refine ⟨_, ?_, ?_, rfl, rfl⟩
  all_goals (simp only [IntKind.wrap_u64]; omega)
set_option maxRecDepth 100000 in
theorem drawWord_any {f p mx one inf sg nan : Int} (h : IsFmt f p mx one inf sg nan) (a : Option Addr) (len cap k : Nat) (w : World) (hC : CodeRow w a len) (hp : k ≤ 800) :
  Calls Tryz.prog 165 #[.slice a len cap, .int .i64 k, .int .i64 f] w fun x w' => ∃ (v : Int) (j : Nat), 0 ≤ v ∧ v < 18446744073709551616 ∧ j ≤ k + 20 ∧ x = .returned (.tuple #[.int .u64 v, .int .i64 j]) ∧ w = w' := by
 have HC : Hid (CodeRow w a len) := hC
 have HE : Hid (∀ k : Nat, k ≤ 900 → Calls Tryz.prog 214 #[.slice a len cap, .int .i64 k, .int .i64 f] w fun x w' => ∃ v : Int, 0 ≤ v ∧ v < 18446744073709551616 ∧ x = .returned (.tuple #[.int .u64 v, .int .i64 ((k + 2 : Nat) : Int)]) ∧ w = w') := fun k hk => drawExp_any a len cap k f (by rcases h with h | h <;> omega) w hC hk
 have HP : Hid (∀ w, Calls Tryz.prog 115 #[.int .i64 f] w fun x w' => x = .returned (.int .i64 p) ∧ w = w') := fun w => l2P_any h w
 obtain ⟨p1, hp1⟩ : ∃ p1 : Int, p - 1 = p1 := ⟨_, rfl⟩
 obtain ⟨p2, hp2⟩ : ∃ p2 : Int, p - 2 = p2 := ⟨_, rfl⟩
 have H1 : Hid (∀ w, Calls Tryz.prog 114 #[.int .i64 p1] w fun x w' => x = .returned (.int .u64 one) ∧ w = w') := fun w => hp1 ▸ l2One_any h w
 have H2 : ∃ hf : Int, (0 ≤ hf ∧ hf < 18446744073709551616) ∧ Hid (∀ w, Calls Tryz.prog 114 #[.int .i64 p2] w fun x w' => x = .returned (.int .u64 hf) ∧ w = w') := by
  rw [← hp2]
  rcases h with ⟨rfl, rfl, rfl, rfl, rfl, rfl, rfl⟩ | ⟨rfl, rfl, rfl, rfl, rfl, rfl, rfl⟩
  ·exact ⟨4194304, by omega, fun w => l2Two_any 22 _ (by omega) (by decide) w⟩
  ·exact ⟨2251799813685248, by omega, fun w => l2Two_any 51 _ (by omega) (by decide) w⟩
 obtain ⟨hf, hfb, H2⟩ := H2
 obtain ⟨n, hn, hn64⟩ : ∃ n : Nat, p - 1 = (n : Int) ∧ n ≤ 64 := ⟨(p - 1).toNat, by rcases h with h | h <;> omega, by rcases h with h | h <;> omega⟩
 have HB : Hid (∀ k : Nat, k ≤ 900 → Calls Tryz.prog 163 #[.slice a len cap, .int .i64 k, .int .i64 p1] w fun e w' => ∃ (v : Int) (j : Nat), 0 ≤ v ∧ v < 18446744073709551616 ∧ j ≤ k + 10 ∧ e = .returned (.tuple #[.int .u64 v, .int .i64 j]) ∧ w = w') := fun k hk => by rw [← hp1, hn]; exact bitsN_any a len cap k n hn64 w hC hk
 have HPut : Hid (∀ s v w, (s = 0 ∨ s = 1) → 0 ≤ v → v < 18446744073709551616 → Calls Tryz.prog 151 #[.int .i64 f, .int .i64 s, .int .u64 v] w fun x w' => ∃ z : Int, 0 ≤ z ∧ z < 18446744073709551616 ∧ x = .returned (.int .u64 z) ∧ w = w') := fun s v w a b c => l2Put_some h s v a b c w
 have hob : 0 < one ∧ one ≤ 4503599627370496 ∧ 24 ≤ p ∧ p ≤ 53 := by rcases h with h | h <;> omega
 clear h hC hn
 go_enter Tryz.func165, Tryz.ntmps165
 go_upto_region 3 with (go_at_call 214; refine (HE.out k (by omega)).mono ?_; rintro x w' ⟨e, x0, x1, rfl, hw⟩; subst hw)
 go_upto_region 4 with (first | (go_at_call 115; refine (HP.out _).mono ?_; rintro x w' ⟨rfl, hw⟩; subst hw) | (go_at_call 163; refine (HB.out (k + 2) (by omega)).mono ?_; rintro x w' ⟨fr, j, fr0, fr1, hj, rfl, hw⟩; subst hw))
 go_upto_region 5 with (go_at_call 48; refine (take_any a len cap j 12 _ HC.out (by omega) (by omega) (by omega)).mono ?_; rintro x w' ⟨d, d0, d1, rfl, hw⟩; subst hw)
 go_upto_region 6 with (go_at_call 48; refine (take_any a len cap (j + 1) 2 _ HC.out (by omega) (by omega) (by omega)).mono ?_; rintro x w' ⟨s, s0, s1, rfl, hw⟩; subst hw)
 have hs01 : s = 0 ∨ s = 1 := by omega
 have HS01 : Hid (s = 0 ∨ s = 1) := hs01
 clear hs01
 rcases (show d = 0 ∨ d = 1 ∨ d = 2 ∨ d = 3 ∨ ((d == 0) = false ∧ (d == 1) = false ∧ (d == 2) = false ∧ (d == 3) = false) by simp; omega) with rfl | rfl | rfl | rfl | ⟨k0, k1, k2, k3⟩
 ·go_wp2_with (first
   | (go_at_call 115; refine (HP.out _).mono ?_; rintro x w' ⟨rfl, hw⟩; subst hw)
   | (go_at_call 114; refine (H1.out _).mono ?_; rintro x w' ⟨rfl, hw⟩; subst hw)
   | (go_at_call 151; refine (HPut.out _ _ _ HS01.out (by first | omega | (simp only [IntKind.wrap_u64]; omega)) (by first | omega | (simp only [IntKind.wrap_u64]; omega))).mono ?_; rintro x w' ⟨z, z0, z1, rfl, hw⟩; subst hw))
  go_returns
  first | exact ⟨z, j + 1 + 1, z0, z1, by omega, rfl, rfl⟩ | exact ⟨z, z0, z1, j + 1 + 1, by omega, rfl, rfl⟩
 ·go_wp2_with (first
   | (go_at_call 115; refine (HP.out _).mono ?_; rintro x w' ⟨rfl, hw⟩; subst hw)
   | (go_at_call 114; refine (H1.out _).mono ?_; rintro x w' ⟨rfl, hw⟩; subst hw)
   | (go_at_call 151; refine (HPut.out _ _ _ HS01.out (by first | omega | (simp only [IntKind.wrap_u64]; omega)) (by first | omega | (simp only [IntKind.wrap_u64]; omega))).mono ?_; rintro x w' ⟨z, z0, z1, rfl, hw⟩; subst hw))
  go_returns
  first | exact ⟨z, j + 1 + 1, z0, z1, by omega, rfl, rfl⟩ | exact ⟨z, z0, z1, j + 1 + 1, by omega, rfl, rfl⟩
 ·go_upto_region 14 with (first | (go_at_call 115; refine (HP.out _).mono ?_; rintro x w' ⟨rfl, hw⟩; subst hw) | (go_at_call 114; refine (H2.out _).mono ?_; rintro x w' ⟨rfl, hw⟩; subst hw))
  go_wp2_with (first
   | (go_at_call 115; refine (HP.out _).mono ?_; rintro x w' ⟨rfl, hw⟩; subst hw)
   | (go_at_call 114; refine (H1.out _).mono ?_; rintro x w' ⟨rfl, hw⟩; subst hw)
   | (go_at_call 151; refine (HPut.out _ _ _ HS01.out (by first | omega | (simp only [IntKind.wrap_u64]; omega)) (by first | omega | (simp only [IntKind.wrap_u64]; omega))).mono ?_; rintro x w' ⟨z, z0, z1, rfl, hw⟩; subst hw))
  go_returns
  first | exact ⟨z, j + 1 + 1, z0, z1, by omega, rfl, rfl⟩ | exact ⟨z, z0, z1, j + 1 + 1, by omega, rfl, rfl⟩
 ·go_wp2_with (first
   | (go_at_call 115; refine (HP.out _).mono ?_; rintro x w' ⟨rfl, hw⟩; subst hw)
   | (go_at_call 114; refine (H1.out _).mono ?_; rintro x w' ⟨rfl, hw⟩; subst hw)
   | (go_at_call 151; refine (HPut.out _ _ _ HS01.out (by first | omega | (simp only [IntKind.wrap_u64]; omega)) (by first | omega | (simp only [IntKind.wrap_u64]; omega))).mono ?_; rintro x w' ⟨z, z0, z1, rfl, hw⟩; subst hw))
  go_returns
  first | exact ⟨z, j + 1 + 1, z0, z1, by omega, rfl, rfl⟩ | exact ⟨z, z0, z1, j + 1 + 1, by omega, rfl, rfl⟩
 ·go_wp2_with (first
   | (go_at_call 115; refine (HP.out _).mono ?_; rintro x w' ⟨rfl, hw⟩; subst hw)
   | (go_at_call 114; refine (H1.out _).mono ?_; rintro x w' ⟨rfl, hw⟩; subst hw)
   | (go_at_call 151; refine (HPut.out _ _ _ HS01.out (by first | omega | (simp only [IntKind.wrap_u64]; omega)) (by first | omega | (simp only [IntKind.wrap_u64]; omega))).mono ?_; rintro x w' ⟨z, z0, z1, rfl, hw⟩; subst hw))
  go_returns
  first | exact ⟨z, j + 1 + 1, z0, z1, by omega, rfl, rfl⟩ | exact ⟨z, z0, z1, j + 1 + 1, by omega, rfl, rfl⟩
end Go.Proofs.YtnbbfeknbfohhaaGreatDoor
namespace Go.Proofs.YtnbbfeknbfohhaaGreatDoor
open Go.RowKit
theorem CodeRow.g7 {w w' : World} {a : Option Addr} {len : Nat} (h : CodeRow w a len) (g : Gb w w') : CodeRow w' a len := by
 refine ⟨h.few, ?_⟩
 rcases h.cells with e | ⟨b, off, e, c⟩
 ·exact .inl e
 ·refine .inr ⟨b, off, e, fun i hi => ?_⟩
  obtain ⟨z, z0, z1, hz⟩ := c i hi
  exact ⟨z, z0, z1, g.old hz⟩
theorem infoB : (Tryz.prog.info? 5).map (fun i => (i.zero, i.size, i.bytes)) = some (some (.int .u8 0), 1, 1) := by kernel_rfl
def Bs (w : World) (base : Nat) (v : Value) (m : Nat) : Prop := ∃ g, (∀ j, 0 ≤ g j ∧ g j ≤ 255) ∧ Ow w base 5 1 .u8 v m g
theorem Bs.gb {w w' : World} {base : Nat} {v : Value} {m : Nat} (h : Bs w base v m) (hg : Gb w w') : Bs w' base v m := by
 obtain ⟨g, hb, h⟩ := h
 exact ⟨g, hb, h.gb hg⟩
theorem Bs.put {w : World} {base : Nat} {v : Value} {m : Nat} (h : Bs w base v m) (x : Int) (x0 : 0 ≤ x ∧ x ≤ 255) : ∃ g, (∀ j, 0 ≤ g j ∧ g j ≤ 255) ∧ Ow w base 5 1 .u8 v m g ∧ g (m * 1 + 0) = x := by
 obtain ⟨g, hb, h⟩ := h
 refine ⟨fun j => if j = m then x else g j, fun j => ?_, h.congr fun j hj => ?_, ?_⟩
 ·show 0 ≤ (if j = m then x else g j) ∧ (if j = m then x else g j) ≤ 255
  split
  ·exact x0
  ·exact hb j
 ·show g j = if j = m then x else g j
  rw [if_neg (by omega)]
 ·show (if m * 1 + 0 = m then x else g (m * 1 + 0)) = x
  rw [if_pos (by omega)]
theorem u8_in (v : Int) : 0 ≤ IntKind.u8.wrap v ∧ IntKind.u8.wrap v ≤ 255 := by rw [IntKind.wrap_u8]; omega
theorem Bs.text {w : World} {base : Nat} {v : Value} {m : Nat} (h : Bs w base v m) : ∃ t : ByteArray, t.size = m ∧ ∀ w', Gb w w' → (convert 28 9 v).run Tryz.prog w' = .ok (.string t) w' := by
 rcases Nat.eq_zero_or_pos m with rfl | hm
 ·obtain ⟨g, hb, h⟩ := h
  obtain ⟨a, cap, rfl, _, _⟩ := h.len
  refine ⟨⟨#[]⟩, rfl, fun w' hg => ?_⟩
  cases a with
  | none =>
   rw [run_convert_bytes_string w' 28 9 5 none 0 cap Tryz.underlying28 Tryz.underlying5 Tryz.underlying9]
   simp [Conv.bytesToString]
   rfl
  | some a => exact run_convert_bytes_back w' 28 9 5 a cap [] Tryz.underlying28 Tryz.underlying5 Tryz.underlying9 (fun j hj => absurd hj (by simp))
 ·obtain ⟨g, hb, h⟩ := h
  obtain ⟨b, cap, hv, _, _, hc⟩ := h.rd.at hm
  subst hv
  refine ⟨⟨((List.range m).map fun j => UInt8.ofNat (g j).toNat).toArray⟩, by simp [ByteArray.size], fun w' hg => ?_⟩
  have hl : ((List.range m).map fun j => UInt8.ofNat (g j).toNat).length = m := by simp
  have := run_convert_bytes_back w' 28 9 5 ⟨b, 0, none⟩ cap ((List.range m).map fun j => UInt8.ofNat (g j).toNat) Tryz.underlying28 Tryz.underlying5 Tryz.underlying9 (fun j hj => by
   have hj' : j < m := by omega
   have e : (⟨b, 0, none⟩ : Addr).add j = ⟨b, j, none⟩ := by unfold Addr.add; split <;> simp_all
   rw [e, hg.old (hc j (by omega))]
   have h1 := hb j
   simp
   omega)
  rw [hl] at this
  exact this
theorem cells1b {w : World} {b m : Nat} {k : IntKind} {g : Nat → Int} {x0 : Int} (h0 : w.cell? ⟨b, 0, none⟩ = some (.int k x0)) (e0 : g (m + 0) = x0) : ∀ j, j < 1 * 1 → w.cell? ⟨b, j, none⟩ = some (.int k (g (m + j))) := by
 intro j hj
 obtain rfl : j = 0 := by omega
 rw [h0, e0]
abbrev leftL : ByteArray := ⟨#[108, 101, 102, 116, 111, 118, 101, 114, 32, 108, 101, 102, 116, 111, 118, 101, 114]⟩
set_option maxRecDepth 100000 in
theorem drawDraws_any (a : Option Addr) (len cap p : Nat) (w : World) (hC : CodeRow w a len) (hp : p ≤ 300) :
  Calls Tryz.prog 164 #[.slice a len cap, .int .i64 p] w fun e w' => ∃ (t : ByteArray) (k : Nat), t.size ≤ 1000 ∧ k ≤ p + 200 ∧ e = .returned (.tuple #[.string t, .int .i64 k]) ∧ Gb w w' := by
 have HC : Hid (∀ w', Gb w w' → CodeRow w' a len) := fun w' g => hC.g7 g
 clear hC
 go_enter Tryz.func164, Tryz.ntmps164
 go_upto_region 3 with (go_at_call 48; refine (take_any a len cap p 7 _ (HC.out _ (Gb.refl _)) (by omega) (by omega) (by omega)).mono ?_; rintro e w' ⟨n, n0, n1, rfl, hw⟩; subst hw)
 go_wp2
 go_loopw [1, 9, 10] (fun s1 s9 s10 wr => ∃ (i k m : Nat) (out : Value), out = s9 ∧ (i : Int) ≤ n ∧ s1 = .int .i64 k ∧ k ≤ p + 1 + 22 * i ∧ s10 = .int .i64 i ∧ Bs wr w.heap.size s9 m ∧ m ≤ 17 * i ∧ Gb w wr) (fun _ _ i _ => (7 - intOf i).toNat)
 case atStart => exact ⟨0, p + 1, 0, _, rfl, by omega, by go_num, by omega, rfl, ⟨fun _ => 0, fun _ => ⟨Int.le_refl 0, show (0 : Int) ≤ 255 by decide⟩, Ow.lit _ _ _ _ _⟩, by omega, kg⟩
 case round =>
  obtain ⟨i, k, m, out, rfl, hi, rfl, hk, rfl, hB, hm, hG⟩ := hrel
  by_cases hlt : (i : Int) < n
  ·have HB : Hid (Bs wr w.heap.size out m) := hB
   have HG : Hid (Gb w wr) := hG
   clear hB hG
   go_upto_region 8 with (go_at_call 163; refine (bitsN_any a len cap k 64 (by omega) _ (HC.out _ HG.out) (by omega)).mono ?_; rintro e w' ⟨v, k1, v0, v1, hk1, rfl, hw⟩; subst hw)
   go_upto_region 10 with (go_at_call 163; refine (bitsN_any a len cap k1 64 (by omega) _ (HC.out _ HG.out) (by omega)).mono ?_; rintro e w' ⟨u, k2, u0, u1, hk2, rfl, hw⟩; subst hw)
   go_upto_region 12 with (go_at_call 48; refine (take_any a len cap k2 256 _ (HC.out _ HG.out) (by omega) (by omega) (by omega)).mono ?_; rintro e w' ⟨x, x0, x1, rfl, hw⟩; subst hw)
   go_upto_region 13 with (go_at_call 48; refine (take_any a len cap (k2 + 1) 8 _ (HC.out _ HG.out) (by omega) (by omega) (by omega)).mono ?_; rintro e w' ⟨y, y0, y1, rfl, hw⟩; subst hw)
   go_wp2
   go_loopw [9, 11, 15] (fun s9 s11 s15 wx => ∃ (j : Nat) (v : Int) (o2 : Value), o2 = s9 ∧ j ≤ 8 ∧ s15 = .int .i64 j ∧ s11 = .int .u64 v ∧ 0 ≤ v ∧ v < 18446744073709551616 ∧ Bs wx w.heap.size s9 (m + j) ∧ Gb w wx) (fun _ _ i _ => (8 - intOf i).toNat)
   case atStart => exact ⟨0, v, _, rfl, by omega, rfl, rfl, v0, v1, HB.out, HG.out⟩
   case round =>
    obtain ⟨j, v, o2, rfl, hj, rfl, rfl, v0, v1, hB, hG⟩ := hrel
    by_cases hj8 : (j : Int) < 8
    ·obtain ⟨z, hz⟩ : ∃ z, IntKind.u8.wrap v = z := ⟨_, rfl⟩
     obtain ⟨g, hgb, hOg, hgx⟩ := hB.put z (by rw [← hz]; exact u8_in _)
     have HO : Hid (∀ w2, Gb wr w2 → Ow w2 w.heap.size 5 1 .u8 o2 (m + j) g) := fun w2 hg => hOg.gb hg
     have HX : Hid (g ((m + j) * 1 + 0) = z) := hgx
     have hsz := hG.size
     have HGg : Hid (∀ j, 0 ≤ g j ∧ g j ≤ 255) := hgb
     clear hB hOg hgx hgb
     go_wp2_with (at_builtin; refine wpList_more rfl _ _ 28 rfl 5 (.int .u8 0) 1 1 .u8 Tryz.underlying28 infoB rfl (by decide) (by decide) w.heap.size (m + j) 1 g _ wr.heap.size rfl (HO.out _ kg) rfl (cells1b (by simp [go_sem]) HX.out) (by omega) (by omega) (by rw [World.size_alloc]; omega) ?_; intro v' w3 hown3 hb3 _ _)
     go_roundw
     case rel => exact ⟨j + 1, v / 256, _, rfl, by omega, by go_num, rfl, by omega, by omega, ⟨g, HGg.out, hown3⟩, Gb.below kg hb3 (Nat.le_refl _)⟩
     case measure => simp [intOf]; omega
    ·obtain rfl : j = 8 := by omega
     obtain ⟨z, hz⟩ : ∃ z, IntKind.u8.wrap x = z := ⟨_, rfl⟩
     obtain ⟨g, hgb, hOg, hgx⟩ := hB.put z (by rw [← hz]; exact u8_in _)
     have HO : Hid (∀ w2, Gb wr w2 → Ow w2 w.heap.size 5 1 .u8 o2 (m + 8) g) := fun w2 hg => hOg.gb hg
     have HX : Hid (g ((m + 8) * 1 + 0) = z) := hgx
     have hsz := hG.size
     have HGg : Hid (∀ j, 0 ≤ g j ∧ g j ≤ 255) := hgb
     clear hB hOg hgx hgb
     go_wp2_with (at_builtin; refine wpList_more rfl _ _ 28 rfl 5 (.int .u8 0) 1 1 .u8 Tryz.underlying28 infoB rfl (by decide) (by decide) w.heap.size (m + 8) 1 g _ wr.heap.size rfl (HO.out _ kg) rfl (cells1b (by simp [go_sem]) HX.out) (by omega) (by omega) (by rw [World.size_alloc]; omega) ?_; intro v' w3 hown3 hb3 _ _)
     have HG3 : Hid (Gb w w3) := (show Gb w w3 from Gb.below kg hb3 (Nat.le_refl _))
     have HB3 : Hid (Bs w3 w.heap.size v' (m + 9)) := ⟨g, HGg.out, hown3⟩
     clear hown3 hb3 HO HX hG hsz
     go_loopw [9, 13, 16] (fun s9 s13 s16 wx => ∃ (j : Nat) (v : Int) (o2 : Value), o2 = s9 ∧ j ≤ 8 ∧ s16 = .int .i64 j ∧ s13 = .int .u64 v ∧ 0 ≤ v ∧ v < 18446744073709551616 ∧ Bs wx w.heap.size s9 (m + 9 + j) ∧ Gb w wx) (fun _ _ i _ => (8 - intOf i).toNat)
     case atStart => exact ⟨0, u, _, rfl, by omega, rfl, rfl, u0, u1, HB3.out, HG3.out⟩
     case round =>
      obtain ⟨j, v, o2, rfl, hj, rfl, rfl, v0, v1, hB, hG⟩ := hrel
      by_cases hj8 : (j : Int) < 8
      ·obtain ⟨z0, hz0⟩ : ∃ z, IntKind.u8.wrap v = z := ⟨_, rfl⟩
       have z00 : 0 ≤ z0 ∧ z0 ≤ 255 := by rw [← hz0, IntKind.wrap_u8]; omega
       rcases (show ((j : Int) = 7 ∧ y < 4) ∨ ((j : Int) = 7 ∧ ¬ y < 4) ∨ (((j : Int) == 7) = false) by simp; omega) with ⟨c1, c2⟩ | ⟨c1, c2⟩ | c1
       ·obtain ⟨g, hgb, hOg, hgx⟩ := hB.put (z0 / 8) (by omega)
        have HO : Hid (∀ w2, Gb wr w2 → Ow w2 w.heap.size 5 1 .u8 o2 (m + 9 + j) g) := fun w2 hg => hOg.gb hg
        have HX : Hid (g ((m + 9 + j) * 1 + 0) = z0 / 8) := hgx
        have hsz := hG.size
        have HGg : Hid (∀ j, 0 ≤ g j ∧ g j ≤ 255) := hgb
        clear hB hOg hgx hgb
        go_wp2_with (at_builtin; refine wpList_more rfl _ _ 28 rfl 5 (.int .u8 0) 1 1 .u8 Tryz.underlying28 infoB rfl (by decide) (by decide) w.heap.size (m + 9 + j) 1 g _ wr.heap.size rfl (HO.out _ kg) rfl (cells1b (by simp [go_sem]) HX.out) (by omega) (by omega) (by rw [World.size_alloc]; omega) ?_; intro v' w3 hown3 hb3 _ _)
        go_roundw
        case rel => exact ⟨j + 1, v / 256, _, rfl, by omega, by go_num, rfl, by omega, by omega, ⟨g, HGg.out, hown3⟩, Gb.below kg hb3 (Nat.le_refl _)⟩
        case measure => simp [intOf]; omega
       ·obtain ⟨g, hgb, hOg, hgx⟩ := hB.put z0 z00
        have HO : Hid (∀ w2, Gb wr w2 → Ow w2 w.heap.size 5 1 .u8 o2 (m + 9 + j) g) := fun w2 hg => hOg.gb hg
        have HX : Hid (g ((m + 9 + j) * 1 + 0) = z0) := hgx
        have hsz := hG.size
        have HGg : Hid (∀ j, 0 ≤ g j ∧ g j ≤ 255) := hgb
        clear hB hOg hgx hgb
        go_wp2_with (at_builtin; refine wpList_more rfl _ _ 28 rfl 5 (.int .u8 0) 1 1 .u8 Tryz.underlying28 infoB rfl (by decide) (by decide) w.heap.size (m + 9 + j) 1 g _ wr.heap.size rfl (HO.out _ kg) rfl (cells1b (by simp [go_sem]) HX.out) (by omega) (by omega) (by rw [World.size_alloc]; omega) ?_; intro v' w3 hown3 hb3 _ _)
        go_roundw
        case rel => exact ⟨j + 1, v / 256, _, rfl, by omega, by go_num, rfl, by omega, by omega, ⟨g, HGg.out, hown3⟩, Gb.below kg hb3 (Nat.le_refl _)⟩
        case measure => simp [intOf]; omega
       ·obtain ⟨g, hgb, hOg, hgx⟩ := hB.put z0 z00
        have HO : Hid (∀ w2, Gb wr w2 → Ow w2 w.heap.size 5 1 .u8 o2 (m + 9 + j) g) := fun w2 hg => hOg.gb hg
        have HX : Hid (g ((m + 9 + j) * 1 + 0) = z0) := hgx
        have hsz := hG.size
        have HGg : Hid (∀ j, 0 ≤ g j ∧ g j ≤ 255) := hgb
        clear hB hOg hgx hgb
        go_wp2_with (at_builtin; refine wpList_more rfl _ _ 28 rfl 5 (.int .u8 0) 1 1 .u8 Tryz.underlying28 infoB rfl (by decide) (by decide) w.heap.size (m + 9 + j) 1 g _ wr.heap.size rfl (HO.out _ kg) rfl (cells1b (by simp [go_sem]) HX.out) (by omega) (by omega) (by rw [World.size_alloc]; omega) ?_; intro v' w3 hown3 hb3 _ _)
        go_roundw
        case rel => exact ⟨j + 1, v / 256, _, rfl, by omega, by go_num, rfl, by omega, by omega, ⟨g, HGg.out, hown3⟩, Gb.below kg hb3 (Nat.le_refl _)⟩
        case measure => simp [intOf]; omega
      ·obtain rfl : j = 8 := by omega
       have hB' : Bs wr w.heap.size o2 (m + 17) := hB
       go_wp2
       go_roundw
       case rel => exact ⟨i + 1, k2 + 1 + 1, m + 17, _, rfl, by omega, by go_num, by omega, by go_num, hB', by omega, hG⟩
       case measure => simp [intOf]; omega
  ·have HB : Hid (Bs wr w.heap.size out m) := hB
   have HG : Hid (Gb w wr) := hG
   clear hB hG
   go_upto_region 28 with (go_at_call 48; refine (take_any a len cap k 20 _ (HC.out _ HG.out) (by omega) (by omega) (by omega)).mono ?_; rintro e w' ⟨x, x0, x1, rfl, hw⟩; subst hw)
   by_cases hx : 16 < x
   ·go_wp2
    go_returns
    exact ⟨_, k + 1, by decide, by omega, rfl, HG.out⟩
   ·obtain ⟨t, ht, hq⟩ := HB.out.text
    obtain ⟨X, rfl⟩ := Int.eq_ofNat_of_zero_le x0
    have hX : X ≤ 16 := by omega
    have hl : leftL.size = 17 := rfl
    have qs : ∀ w, (Instr.slice 9 (.string leftL) none (some (.int .i64 X)) none).run Tryz.prog w = .ok (.string (leftL.extract 0 X)) w := fun w => run_slice_string_h w 9 leftL Tryz.underlying9 .i64 X (by omega) (by rw [hl]; omega)
    have hs : (leftL.extract 0 X).size ≤ 17 := by rw [ByteArray.size_extract]; omega
    have hsz : (t ++ leftL.extract 0 X).size ≤ 1000 := by rw [ByteArray.size_append]; omega
    obtain ⟨t1, ht1⟩ : ∃ t1, leftL.extract 0 X = t1 := ⟨_, rfl⟩
    rw [ht1] at qs hs hsz
    have ht' : t.size ≤ 200 := by omega
    have hcd : ¬ 9223372036854775807 < t.size + t1.size := by omega
    have hcd' : t.size + t1.size ≤ 9223372036854775807 := by omega
    clear ht ht1
    have HQ : Hid _ := hq
    clear hq
    go_wp2
    go_region_held3 (fun w' => Gb wr w' ∧ (convert 28 9 out).run Tryz.prog w' = .ok (.string t) w')
     (exact ⟨kg, HQ.out _ kg⟩)
     (fail)
    all_goals (try go_split_ands)
    all_goals go_wp2
    all_goals go_returns
    all_goals exact ⟨_, k + 1, hsz, by omega, rfl, (show Gb w _ from by have := HG.out; exact kg)⟩
end Go.Proofs.YtnbbfeknbfohhaaGreatDoor
