/- A memory told by names: texts out of bytes, places in arrays. No statement is proved here. -/
import Derived.Test.YtbicifcgghmhaaaGreatZAmH
import Derived.Laws.BytesArg
import Derived.Laws.Entries
namespace Go.Proofs.YtbicifcgghmhaaaGreat
open Go.ChangeShapes Go.WideShapes Go.ChangeAt Go.RowKit
set_option linter.unusedVariables false
set_option linter.unusedSimpArgs false
section
variable {cx : Cx} {o : Oper} {l : List (Nat × PV)} {g : EH}
def u5b (P : Program) (h : H) (g : EH) (src dst : TypeId) (u : PV) : R := none
theorem k85 {h : H} {src dst : TypeId} {x : Operand} (ho : o.op = .convert src dst x) {u : PV} (hu : Ev l x u) : OKR cx o l g (u5b Tryz.prog h g src dst u) := OKR.none
def u5e (P : Program) (h : H) (t : TypeId) : PV → PV → R := fun _ _ => none
theorem k8u {h : H} {t : TypeId} {x y : Operand} (ho : o.op = .indexAddr t x y) {u v : PV} (hu : Ev l x u) (hv : Ev l y v) : OKR cx o l g (u5e Tryz.prog h t u v) := OKR.none
end
section
variable {cx : Cx} {o : Oper} {l : List (Nat × PV)} {g : EH}
def xO (P : Program) (l : List (Nat × PV)) (t : TypeId) (parts : Array (Nat × Operand)) : R := none
theorem xN {t : TypeId} {parts : Array (Nat × Operand)} (ho : o.op = .build t parts) : OKR cx o l g (xO Tryz.prog l t parts) := OKR.none
def u5f (P : Program) (h : H) (t : TypeId) : PV → PV → R := fun _ _ => none
theorem k8v {h : H} {t : TypeId} {x y : Operand} (ho : o.op = .index t x y) {u v : PV} (hu : Ev l x u) (hv : Ev l y v) : OKR cx o l g (u5f Tryz.prog h t u v) := OKR.none
def u5g (P : Program) (h : H) (t : TypeId) : PV → PV → R := fun _ _ => none
theorem k8w {h : H} {t : TypeId} {x y : Operand} (ho : o.op = .index t x y) {u v : PV} (hu : Ev l x u) (hv : Ev l y v) : OKR cx o l g (u5g Tryz.prog h t u v) := OKR.none
def u5d (P : Program) (t : TypeId) (lo hi mx : Option Operand) : PV → R := fun _ => none
theorem k8a {t : TypeId} {x : Operand} {lo hi mx : Option Operand} (ho : o.op = .slice t x lo hi mx) {u : PV} (hu : Ev l x u) : OKR cx o l g (u5d Tryz.prog t lo hi mx u) := OKR.none
end
def oB (a b : R) : R := match a with
 | some x => some x
 | none => b
theorem OKR.or {cx : Cx} {o : Oper} {l : List (Nat × PV)} {g : EH} {a b : R} (h1 : OKR cx o l g a) (h2 : OKR cx o l g b) : OKR cx o l g (oB a b) := by
 unfold oB
 cases a with
 | some x => exact h1
 | none => exact h2
end Go.Proofs.YtbicifcgghmhaaaGreat
