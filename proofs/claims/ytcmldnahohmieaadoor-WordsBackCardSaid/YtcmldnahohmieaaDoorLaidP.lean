/- What the library's table of powers of ten holds when a call begins; numbers as texts. No statement is proved here. -/
import Derived.Test.YtcmldnahohmieaaDoorRows
import Derived.Test.YtcmldnahohmieaaDoorAmY
import Derived.OpenShut
import Derived.ChangeArms
import Derived.MakeChecks
import Derived.FnData
import Derived.LaidMore
import Derived.Lib.LaidTab
namespace Go.Proofs.YtcmldnahohmieaaDoor
open Go.ChangeShapes Go.WideShapes Go.ChangeAt Go.RowKit
set_option linter.unusedVariables false
theorem pow10_laid : (Rows.laid_internal_strconv_uint64pow10 : DataW Unit) = Lib.tabData .u64 Lib.pow10Tab := by kernel_rfl
theorem var_heap {P : Program} {w : World} {name : String} {g : Nat} {arr : Array Value} (hg : P.globalNamed name = some g) (hv : w.var? P name = some arr) : ∃ T fz, w.heap[g]? = some (.cells arr T fz) := by
  unfold World.var? at hv
  rw [hg] at hv
  simp only [Option.bind_some] at hv
  split at hv
  · rename_i cs T fz h; cases hv; exact ⟨T, fz, h⟩
  · cases hv
theorem heap_var {P : Program} {w : World} {name : String} {g : Nat} {arr : Array Value} (hg : P.globalNamed name = some g) (h : ∃ T fz, w.heap[g]? = some (.cells arr T fz)) : w.var? P name = some arr := by
  obtain ⟨T, fz, h⟩ := h
  unfold World.var?
  rw [hg]
  simp only [Option.bind_some, h]
theorem pow10_named : Tryd.prog.globalNamed "internal/strconv.uint64pow10" = some 1 := by kernel_rfl
theorem gl_of_laid {W : World} (h : laidMetH Tryd.prog [("math/bits.deBruijn32tab", Rows.laid_math_bits_deBruijn32tab), ("math/bits.deBruijn64tab", Rows.laid_math_bits_deBruijn64tab), ("internal/strconv.uint64pow10", Rows.laid_internal_strconv_uint64pow10)] W) : GlOK (fun k => k < W.heap.size) W := by
  rw [MakeChecks.laidMetH_plain _ _ _ (by kernel_rfl)] at h
  obtain ⟨ps, ⟨_, _, _, _, _, _, _, _, _, _, h2, _⟩, _⟩ := h
  obtain ⟨_, _, _, _, _, _, _, _, _, _, h3, _⟩ := h2
  obtain ⟨g, t, cs, fuel, p, q, hg, ht, hv, hd, _, _⟩ := h3
  obtain rfl := Option.some.inj (pow10_named.symm.trans hg)
  obtain rfl := Option.some.inj ((show (Tryd.prog.globals[1]?).map (·.type) = some 116 by kernel_rfl).symm.trans ht)
  rw [pow10_laid] at hd
  have hc := Lib.cells_of_tab Tryd.underlying116 Tryd.underlying52 (by kernel_rfl) (by kernel_rfl) hd
  have hcs : cs = (Lib.pow10Tab.map fun z => Value.int .u64 z).toArray := Array.ext' hc
  subst hcs
  have hx := var_heap pow10_named hv
  intro q hq
  have hq : q = _ := List.mem_singleton.1 hq
  subst hq
  have hlt : 1 < W.heap.size := by
    obtain ⟨T, fz, hx⟩ := hx
    exact (Array.getElem?_eq_some_iff.1 hx).1
  refine ⟨hlt, hlt, hx, fun i u hu => ⟨?_, ?_⟩⟩
  · have hu : (Lib.pow10Tab.map fun z => Value.int .u64 z)[i]? = some u := hu
    rw [List.getElem?_map] at hu
    obtain ⟨z, _, rfl⟩ := Option.map_eq_some_iff.1 hu
    rfl
  · obtain ⟨T, fz, hx⟩ := hx
    have hu : (Lib.pow10Tab.map fun z => Value.int .u64 z)[i]? = some u := hu
    rw [cell_of_row W _ i _ T fz hx]
    simpa using hu
theorem tab_of_gl {w : World} {p : Nat → Prop} (h : GlOK p w) : Lib.TabIs Tryd.prog w "internal/strconv.uint64pow10" .u64 Lib.pow10Tab := heap_var pow10_named (h _ (List.mem_singleton.2 rfl)).2.2.1
end Go.Proofs.YtcmldnahohmieaaDoor
