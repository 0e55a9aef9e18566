/- spec.Rem of two numbers: its variables. -/
import Derived.Test.YtkflpogmhailhaaGreatDoorRE
import Derived.Test.YtkflpogmhailhaaGreatDoorH1
import Derived.Deep.DeepCutAuto
import Derived.Deep.RegionHeld3
set_option linter.unusedVariables false
set_option linter.unusedSimpArgs false
namespace Go.Proofs.YtkflpogmhailhaaGreatDoor
open Go.RowKit

/-- The variables of spec.Rem behind a drawn region. -/
structure SrAt (w wa wb wx : World) (sa xa A sb xb B : Int) : Prop where
  g : Gb w wx := by exact kg
  r0 : wx.cell? ⟨w.heap.size, 0, none⟩ = some (.int .u64 0) := by exact kh
  r0z : wx.frozen? ⟨w.heap.size, 0, none⟩ = false := by exact kb
  r1 : wx.cell? ⟨w.heap.size, 1, none⟩ = some (.int .i64 0) := by exact kh
  r1z : wx.frozen? ⟨w.heap.size, 1, none⟩ = false := by exact kb
  a1 : wx.cell? ⟨wa.heap.size, 1, none⟩ = some (.int .i64 sa) := by exact kh
  a2 : wx.cell? ⟨wa.heap.size, 2, none⟩ = some (.int .i64 xa) := by exact kh
  a3 : wx.cell? ⟨wa.heap.size, 3, none⟩ = some (.int .u64 A) := by exact kh
  b1 : wx.cell? ⟨wb.heap.size, 1, none⟩ = some (.int .i64 sb) := by exact kh
  b2 : wx.cell? ⟨wb.heap.size, 2, none⟩ = some (.int .i64 xb) := by exact kh
  b3 : wx.cell? ⟨wb.heap.size, 3, none⟩ = some (.int .u64 B) := by exact kh
end Go.Proofs.YtkflpogmhailhaaGreatDoor
