/- A memory told by names: texts out of bytes, places in arrays. No statement is proved here. -/
import Derived.Test.YtbicifcgghmhaaaGreatZAmH
import Derived.Laws.BytesArg
import Derived.Laws.Entries
namespace Go.Proofs.YtbicifcgghmhaaaGreat
open Go.ChangeShapes Go.WideShapes Go.ChangeAt Go.RowKit
set_option linter.unusedVariables false
set_option linter.unusedSimpArgs false
section
variable {cx : Cx} {o : Oper} {l : List (Nat × PV)} {g : EH}
def u4y (P : Program) (h : H) (g : EH) (src dst : TypeId) (u : PV) : R := none
theorem k89 {h : H} {src dst : TypeId} {x : Operand} (ho : o.op = .convert src dst x) {u : PV} (hu : Ev l x u) : OKR cx o l g (u4y Tryz.prog h g src dst u) := OKR.none
def u51 (P : Program) (h : H) (t : TypeId) : PV → PV → R := fun _ _ => none
theorem k8y {h : H} {t : TypeId} {x y : Operand} (ho : o.op = .indexAddr t x y) {u v : PV} (hu : Ev l x u) (hv : Ev l y v) : OKR cx o l g (u51 Tryz.prog h t u v) := OKR.none
end
section
variable {cx : Cx} {o : Oper} {l : List (Nat × PV)} {g : EH}
def zB (P : Program) (l : List (Nat × PV)) (t : TypeId) (parts : Array (Nat × Operand)) : R := none
theorem zA {t : TypeId} {parts : Array (Nat × Operand)} (ho : o.op = .build t parts) : OKR cx o l g (zB Tryz.prog l t parts) := OKR.none
def u52 (P : Program) (h : H) (t : TypeId) : PV → PV → R := fun _ _ => none
theorem k8z {h : H} {t : TypeId} {x y : Operand} (ho : o.op = .index t x y) {u v : PV} (hu : Ev l x u) (hv : Ev l y v) : OKR cx o l g (u52 Tryz.prog h t u v) := OKR.none
def u53 (P : Program) (h : H) (t : TypeId) : PV → PV → R := fun _ _ => none
theorem k90 {h : H} {t : TypeId} {x y : Operand} (ho : o.op = .index t x y) {u v : PV} (hu : Ev l x u) (hv : Ev l y v) : OKR cx o l g (u53 Tryz.prog h t u v) := OKR.none
def u50 (P : Program) (t : TypeId) (lo hi mx : Option Operand) : PV → R := fun _ => none
theorem k8e {t : TypeId} {x : Operand} {lo hi mx : Option Operand} (ho : o.op = .slice t x lo hi mx) {u : PV} (hu : Ev l x u) : OKR cx o l g (u50 Tryz.prog t lo hi mx u) := OKR.none
end
def oW (a b : R) : R := match a with
 | some x => some x
 | none => b
theorem OKR.or {cx : Cx} {o : Oper} {l : List (Nat × PV)} {g : EH} {a b : R} (h1 : OKR cx o l g a) (h2 : OKR cx o l g b) : OKR cx o l g (oW a b) := by
 unfold oW
 cases a with
 | some x => exact h1
 | none => exact h2
end Go.Proofs.YtbicifcgghmhaaaGreat
