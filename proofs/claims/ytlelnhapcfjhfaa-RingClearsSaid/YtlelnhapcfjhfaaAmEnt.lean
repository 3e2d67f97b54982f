/- A memory told by names: entering functions. No statement is proved here. -/
import Derived.Test.YtlelnhapcfjhfaaAmC
import Derived.Laws.Cover1
namespace Go.Proofs.Ytlelnhapcfjhfaa
open Go.ChangeShapes Go.WideShapes Go.ChangeAt Go.RowKit
theorem ent3 : ∀ (ar : Array Value) (w : World), (callFunc 3 ar).run Try.prog w = .ok (.enter 3 ar) w := by
  intro ar w
  kernel_rfl
theorem ent4 : ∀ (ar : Array Value) (w : World), (callFunc 4 ar).run Try.prog w = .ok (.enter 4 ar) w := by
  intro ar w
  kernel_rfl
theorem ent5 : ∀ (ar : Array Value) (w : World), (callFunc 5 ar).run Try.prog w = .ok (.enter 5 ar) w := by
  intro ar w
  kernel_rfl
theorem ent6 : ∀ (ar : Array Value) (w : World), (callFunc 6 ar).run Try.prog w = .ok (.enter 6 ar) w := by
  intro ar w
  kernel_rfl
theorem ent7 : ∀ (ar : Array Value) (w : World), (callFunc 7 ar).run Try.prog w = .ok (.enter 7 ar) w := by
  intro ar w
  kernel_rfl
theorem ent8 : ∀ (ar : Array Value) (w : World), (callFunc 8 ar).run Try.prog w = .ok (.enter 8 ar) w := by
  intro ar w
  kernel_rfl
theorem ent9 : ∀ (ar : Array Value) (w : World), (callFunc 9 ar).run Try.prog w = .ok (.enter 9 ar) w := by
  intro ar w
  kernel_rfl
theorem ent10 : ∀ (ar : Array Value) (w : World), (callFunc 10 ar).run Try.prog w = .ok (.enter 10 ar) w := by
  intro ar w
  kernel_rfl
theorem ent11 : ∀ (ar : Array Value) (w : World), (callFunc 11 ar).run Try.prog w = .ok (.enter 11 ar) w := by
  intro ar w
  kernel_rfl
theorem ent12 : ∀ (ar : Array Value) (w : World), (callFunc 12 ar).run Try.prog w = .ok (.enter 12 ar) w := by
  intro ar w
  kernel_rfl
theorem ent13 : ∀ (ar : Array Value) (w : World), (callFunc 13 ar).run Try.prog w = .ok (.enter 13 ar) w := by
  intro ar w
  kernel_rfl
theorem ent14 : ∀ (ar : Array Value) (w : World), (callFunc 14 ar).run Try.prog w = .ok (.enter 14 ar) w := by
  intro ar w
  kernel_rfl
theorem ent15 : ∀ (ar : Array Value) (w : World), (callFunc 15 ar).run Try.prog w = .ok (.enter 15 ar) w := by
  intro ar w
  kernel_rfl
theorem ent16 : ∀ (ar : Array Value) (w : World), (callFunc 16 ar).run Try.prog w = .ok (.enter 16 ar) w := by
  intro ar w
  kernel_rfl
theorem ent17 : ∀ (ar : Array Value) (w : World), (callFunc 17 ar).run Try.prog w = .ok (.enter 17 ar) w := by
  intro ar w
  kernel_rfl
theorem ent18 : ∀ (ar : Array Value) (w : World), (callFunc 18 ar).run Try.prog w = .ok (.enter 18 ar) w := by
  intro ar w
  kernel_rfl
theorem ent19 : ∀ (ar : Array Value) (w : World), (callFunc 19 ar).run Try.prog w = .ok (.enter 19 ar) w := by
  intro ar w
  kernel_rfl
theorem ent20 : ∀ (ar : Array Value) (w : World), (callFunc 20 ar).run Try.prog w = .ok (.enter 20 ar) w := by
  intro ar w
  kernel_rfl
theorem ent21 : ∀ (ar : Array Value) (w : World), (callFunc 21 ar).run Try.prog w = .ok (.enter 21 ar) w := by
  intro ar w
  kernel_rfl
theorem ent22 : ∀ (ar : Array Value) (w : World), (callFunc 22 ar).run Try.prog w = .ok (.enter 22 ar) w := by
  intro ar w
  kernel_rfl
theorem ent23 : ∀ (ar : Array Value) (w : World), (callFunc 23 ar).run Try.prog w = .ok (.enter 23 ar) w := by
  intro ar w
  kernel_rfl
theorem ent24 : ∀ (ar : Array Value) (w : World), (callFunc 24 ar).run Try.prog w = .ok (.enter 24 ar) w := by
  intro ar w
  kernel_rfl
theorem ent25 : ∀ (ar : Array Value) (w : World), (callFunc 25 ar).run Try.prog w = .ok (.enter 25 ar) w := by
  intro ar w
  kernel_rfl
theorem ent26 : ∀ (ar : Array Value) (w : World), (callFunc 26 ar).run Try.prog w = .ok (.enter 26 ar) w := by
  intro ar w
  kernel_rfl
theorem ent27 : ∀ (ar : Array Value) (w : World), (callFunc 27 ar).run Try.prog w = .ok (.enter 27 ar) w := by
  intro ar w
  kernel_rfl
theorem ent28 : ∀ (ar : Array Value) (w : World), (callFunc 28 ar).run Try.prog w = .ok (.enter 28 ar) w := by
  intro ar w
  kernel_rfl
theorem ent29 : ∀ (ar : Array Value) (w : World), (callFunc 29 ar).run Try.prog w = .ok (.enter 29 ar) w := by
  intro ar w
  kernel_rfl
theorem ent30 : ∀ (ar : Array Value) (w : World), (callFunc 30 ar).run Try.prog w = .ok (.enter 30 ar) w := by
  intro ar w
  kernel_rfl
theorem ent31 : ∀ (ar : Array Value) (w : World), (callFunc 31 ar).run Try.prog w = .ok (.enter 31 ar) w := by
  intro ar w
  kernel_rfl
theorem ent32 : ∀ (ar : Array Value) (w : World), (callFunc 32 ar).run Try.prog w = .ok (.enter 32 ar) w := by
  intro ar w
  kernel_rfl
theorem ent33 : ∀ (ar : Array Value) (w : World), (callFunc 33 ar).run Try.prog w = .ok (.enter 33 ar) w := by
  intro ar w
  kernel_rfl
theorem ent34 : ∀ (ar : Array Value) (w : World), (callFunc 34 ar).run Try.prog w = .ok (.enter 34 ar) w := by
  intro ar w
  kernel_rfl
theorem ent35 : ∀ (ar : Array Value) (w : World), (callFunc 35 ar).run Try.prog w = .ok (.enter 35 ar) w := by
  intro ar w
  kernel_rfl
theorem ent36 : ∀ (ar : Array Value) (w : World), (callFunc 36 ar).run Try.prog w = .ok (.enter 36 ar) w := by
  intro ar w
  kernel_rfl
theorem ent37 : ∀ (ar : Array Value) (w : World), (callFunc 37 ar).run Try.prog w = .ok (.enter 37 ar) w := by
  intro ar w
  kernel_rfl
theorem ent38 : ∀ (ar : Array Value) (w : World), (callFunc 38 ar).run Try.prog w = .ok (.enter 38 ar) w := by
  intro ar w
  kernel_rfl
end Go.Proofs.Ytlelnhapcfjhfaa
