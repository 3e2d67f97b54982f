/- A memory told by names: texts out of bytes, places in arrays. No statement is proved here. -/
import Derived.Test.YtbicifcgghmhaaaGreatZAmH
import Derived.Laws.BytesArg
import Derived.Laws.Entries
namespace Go.Proofs.YtbicifcgghmhaaaGreat
open Go.ChangeShapes Go.WideShapes Go.ChangeAt Go.RowKit
set_option linter.unusedVariables false
set_option linter.unusedSimpArgs false
section
variable {cx : Cx} {o : Oper} {l : List (Nat × PV)} {g : EH}
def u44 (P : Program) (h : H) (g : EH) (src dst : TypeId) (u : PV) : R := none
theorem k7f {h : H} {src dst : TypeId} {x : Operand} (ho : o.op = .convert src dst x) {u : PV} (hu : Ev l x u) : OKR cx o l g (u44 Tryz.prog h g src dst u) := OKR.none
def u47 (P : Program) (h : H) (t : TypeId) : PV → PV → R := fun _ _ => none
theorem k84 {h : H} {t : TypeId} {x y : Operand} (ho : o.op = .indexAddr t x y) {u v : PV} (hu : Ev l x u) (hv : Ev l y v) : OKR cx o l g (u47 Tryz.prog h t u v) := OKR.none
end
section
variable {cx : Cx} {o : Oper} {l : List (Nat × PV)} {g : EH}
def w9 (P : Program) (l : List (Nat × PV)) (t : TypeId) (parts : Array (Nat × Operand)) : R := none
theorem w8 {t : TypeId} {parts : Array (Nat × Operand)} (ho : o.op = .build t parts) : OKR cx o l g (w9 Tryz.prog l t parts) := OKR.none
def u48 (P : Program) (h : H) (t : TypeId) : PV → PV → R := fun _ _ => none
theorem k85 {h : H} {t : TypeId} {x y : Operand} (ho : o.op = .index t x y) {u v : PV} (hu : Ev l x u) (hv : Ev l y v) : OKR cx o l g (u48 Tryz.prog h t u v) := OKR.none
def u49 (P : Program) (h : H) (t : TypeId) : PV → PV → R := fun _ _ => none
theorem k86 {h : H} {t : TypeId} {x y : Operand} (ho : o.op = .index t x y) {u v : PV} (hu : Ev l x u) (hv : Ev l y v) : OKR cx o l g (u49 Tryz.prog h t u v) := OKR.none
def u46 (P : Program) (t : TypeId) (lo hi mx : Option Operand) : PV → R := fun _ => none
theorem k7k {t : TypeId} {x : Operand} {lo hi mx : Option Operand} (ho : o.op = .slice t x lo hi mx) {u : PV} (hu : Ev l x u) : OKR cx o l g (u46 Tryz.prog t lo hi mx u) := OKR.none
end
def nM (a b : R) : R := match a with
 | some x => some x
 | none => b
theorem OKR.or {cx : Cx} {o : Oper} {l : List (Nat × PV)} {g : EH} {a b : R} (h1 : OKR cx o l g a) (h2 : OKR cx o l g b) : OKR cx o l g (nM a b) := by
 unfold nM
 cases a with
 | some x => exact h1
 | none => exact h2
end Go.Proofs.YtbicifcgghmhaaaGreat
