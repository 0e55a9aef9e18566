/- impl.total. -/
import Derived.Test.YtkflpogmhailhaaDoorL3I
import Derived.Deep.DeepCutAuto
set_option linter.unusedVariables false
set_option linter.unusedSimpArgs false
namespace Go.Proofs.YtkflpogmhailhaaDoor
open Go.RowKit

/-- The variables of total behind the lifting. -/
structure TotAt (p mn mx md : Int) (k : Nat) (w wx : World) (sx ax Ah Al sy ay Bh Bl : Int) : Prop where
  g : Gr w wx := by exact kr
  s0 : wx.cell? ⟨w.heap.size, 0, none⟩ = some (.int .i64 p) := by exact kl
  s1 : wx.cell? ⟨w.heap.size, 1, none⟩ = some (.int .i64 mn) := by exact kl
  s2 : wx.cell? ⟨w.heap.size, 2, none⟩ = some (.int .i64 mx) := by exact kl
  s3 : wx.cell? ⟨w.heap.size, 3, none⟩ = some (.int .i64 md) := by exact kl
  s4 : wx.cell? ⟨w.heap.size, 4, none⟩ = some (.func (.func k) #[] #[]) := by exact kl
  x0 : wx.cell? ⟨w.heap.size + 1, 0, none⟩ = some (.int .i64 sx) := by exact kl
  xz0 : wx.frozen? ⟨w.heap.size + 1, 0, none⟩ = false := by exact kl
  x1 : wx.cell? ⟨w.heap.size + 1, 1, none⟩ = some (.int .i64 ax) := by exact kl
  xz1 : wx.frozen? ⟨w.heap.size + 1, 1, none⟩ = false := by exact kl
  x2 : wx.cell? ⟨w.heap.size + 1, 2, none⟩ = some (.int .i64 1) := by exact kl
  xz2 : wx.frozen? ⟨w.heap.size + 1, 2, none⟩ = false := by exact kl
  x3 : wx.cell? ⟨w.heap.size + 1, 3, none⟩ = some (.int .u64 Ah) := by exact kl
  xz3 : wx.frozen? ⟨w.heap.size + 1, 3, none⟩ = false := by exact kl
  x4 : wx.cell? ⟨w.heap.size + 1, 4, none⟩ = some (.int .u64 Al) := by exact kl
  xz4 : wx.frozen? ⟨w.heap.size + 1, 4, none⟩ = false := by exact kl
  x5 : wx.cell? ⟨w.heap.size + 1, 5, none⟩ = some (.bool false) := by exact kl
  xz5 : wx.frozen? ⟨w.heap.size + 1, 5, none⟩ = false := by exact kl
  x6 : wx.cell? ⟨w.heap.size + 1, 6, none⟩ = some (.int .i64 0) := by exact kl
  xz6 : wx.frozen? ⟨w.heap.size + 1, 6, none⟩ = false := by exact kl
  y0 : wx.cell? ⟨w.heap.size + 1 + 1, 0, none⟩ = some (.int .i64 sy) := by exact kl
  yz0 : wx.frozen? ⟨w.heap.size + 1 + 1, 0, none⟩ = false := by exact kl
  y1 : wx.cell? ⟨w.heap.size + 1 + 1, 1, none⟩ = some (.int .i64 ay) := by exact kl
  yz1 : wx.frozen? ⟨w.heap.size + 1 + 1, 1, none⟩ = false := by exact kl
  y2 : wx.cell? ⟨w.heap.size + 1 + 1, 2, none⟩ = some (.int .i64 1) := by exact kl
  yz2 : wx.frozen? ⟨w.heap.size + 1 + 1, 2, none⟩ = false := by exact kl
  y3 : wx.cell? ⟨w.heap.size + 1 + 1, 3, none⟩ = some (.int .u64 Bh) := by exact kl
  yz3 : wx.frozen? ⟨w.heap.size + 1 + 1, 3, none⟩ = false := by exact kl
  y4 : wx.cell? ⟨w.heap.size + 1 + 1, 4, none⟩ = some (.int .u64 Bl) := by exact kl
  yz4 : wx.frozen? ⟨w.heap.size + 1 + 1, 4, none⟩ = false := by exact kl
  y5 : wx.cell? ⟨w.heap.size + 1 + 1, 5, none⟩ = some (.bool false) := by exact kl
  yz5 : wx.frozen? ⟨w.heap.size + 1 + 1, 5, none⟩ = false := by exact kl
  y6 : wx.cell? ⟨w.heap.size + 1 + 1, 6, none⟩ = some (.int .i64 0) := by exact kl
  yz6 : wx.frozen? ⟨w.heap.size + 1 + 1, 6, none⟩ = false := by exact kl
  r0 : wx.cell? ⟨w.heap.size + 1 + 1 + 1, 0, none⟩ = some (.int .i64 0) := by exact kl
  rz0 : wx.frozen? ⟨w.heap.size + 1 + 1 + 1, 0, none⟩ = false := by exact kl
  r1 : wx.cell? ⟨w.heap.size + 1 + 1 + 1, 1, none⟩ = some (.int .i64 0) := by exact kl
  rz1 : wx.frozen? ⟨w.heap.size + 1 + 1 + 1, 1, none⟩ = false := by exact kl
  r2 : wx.cell? ⟨w.heap.size + 1 + 1 + 1, 2, none⟩ = some (.int .i64 0) := by exact kl
  rz2 : wx.frozen? ⟨w.heap.size + 1 + 1 + 1, 2, none⟩ = false := by exact kl
  r3 : wx.cell? ⟨w.heap.size + 1 + 1 + 1, 3, none⟩ = some (.int .u64 0) := by exact kl
  rz3 : wx.frozen? ⟨w.heap.size + 1 + 1 + 1, 3, none⟩ = false := by exact kl
  r4 : wx.cell? ⟨w.heap.size + 1 + 1 + 1, 4, none⟩ = some (.int .u64 0) := by exact kl
  rz4 : wx.frozen? ⟨w.heap.size + 1 + 1 + 1, 4, none⟩ = false := by exact kl
  r5 : wx.cell? ⟨w.heap.size + 1 + 1 + 1, 5, none⟩ = some (.bool false) := by exact kl
  rz5 : wx.frozen? ⟨w.heap.size + 1 + 1 + 1, 5, none⟩ = false := by exact kl
  r6 : wx.cell? ⟨w.heap.size + 1 + 1 + 1, 6, none⟩ = some (.int .i64 0) := by exact kl
  rz6 : wx.frozen? ⟨w.heap.size + 1 + 1 + 1, 6, none⟩ = false := by exact kl
end Go.Proofs.YtkflpogmhailhaaDoor
