/- What the package's names of positions hold when a call begins. No statement is proved here. -/
import Derived.Test.YtcmldnahohmieaaDoorRows
import Derived.Test.YtcmldnahohmieaaDoorAmY
import Derived.OpenShut
import Derived.ChangeArms
import Derived.MakeChecks
import Derived.FnData
import Derived.LaidMore
namespace Go.Proofs.YtcmldnahohmieaaDoor
open Go.ChangeShapes Go.WideShapes Go.ChangeAt Go.RowKit
set_option linter.unusedVariables false
theorem strs_of_tab {H : Type} {enc : TypeId × Value → H} {P : Program} {w : World} {base : Nat} {sp : Nat → Bool} {held : Bool} {fuel : Nat} {t e : TypeId} {n : Nat} {cs : List Value} {bs : List (List UInt8)} {p : List MemPlace}
    (ht : P.underlying t = some (.array n e)) (he : P.underlying e = some .string) (hce : P.cellsOf e = 1) (hct : P.cellsOf t = n)
    (h : DataW.trod enc P w base sp held fuel t cs = some (.agg (bs.map fun b => .lit (.string b)), p)) : cs = bs.map fun b => Value.string ⟨b.toArray⟩ := by
  obtain ⟨xs, m, _, ex, hlen, hl, hel⟩ := DataW.trod_array ht h
  rw [hce] at hel
  rw [hct] at hlen
  have e3 := DataW.agg.inj (Prod.mk.inj ex).1
  have hbl : bs.length = n := by have := congrArg List.length e3; simp at this; omega
  apply List.ext_getElem?
  intro i
  by_cases hi : i < n
  · have h1 := hel i hi
    rw [List.getElem?_eq_getElem (show i < xs.length by omega)] at h1
    obtain ⟨s, hc, hx, _⟩ := DataW.trod_string he h1
    have h2 : cs[i]? = some (.string s) := by
      have := congrArg (·[0]?) hc
      simpa [List.getElem?_take, List.getElem?_drop] using this
    have h3 := congrArg (·[i]?) e3
    simp only [List.getElem?_map] at h3
    rw [List.getElem?_eq_getElem (show i < xs.length by omega), List.getElem?_eq_getElem (show i < bs.length by omega), hx] at h3
    simp only [Option.map_some, Option.some.injEq, DataW.lit.injEq, Lit.string.injEq] at h3
    rw [h2, List.getElem?_map, List.getElem?_eq_getElem (show i < bs.length by omega), Option.map_some, h3]
  · rw [List.getElem?_eq_none (by omega), List.getElem?_eq_none (by simp; omega)]
theorem var_heap {P : Program} {w : World} {name : String} {g : Nat} {arr : Array Value} (hg : P.globalNamed name = some g) (hv : w.var? P name = some arr) : ∃ T fz, w.heap[g]? = some (.cells arr T fz) := by
  unfold World.var? at hv
  rw [hg] at hv
  simp only [Option.bind_some] at hv
  split at hv
  · rename_i cs T fz h; cases hv; exact ⟨T, fz, h⟩
  · cases hv
theorem gl_of_laid {W : World} (h : laidMetH Tryd.prog [("unicode/utf8.acceptRanges", Rows.laid_unicode_utf8_acceptRanges), ("soundservice/channels.names", Rows.laid_soundservice_channels_names), ("unicode/utf8.first", Rows.laid_unicode_utf8_first)] W) : GlOK (fun k => k < W.heap.size) W := by
  rw [MakeChecks.laidMetH_plain _ _ _ (by kernel_rfl)] at h
  obtain ⟨ps, ⟨_, _, _, _, _, _, _, _, _, _, h2, _⟩, _⟩ := h
  obtain ⟨g, t, cs, fuel, p, q, hg, ht, hv, hd, _, _⟩ := h2
  have nm : Tryd.prog.globalNamed "soundservice/channels.names" = some 0 := by kernel_rfl
  obtain rfl := Option.some.inj (nm.symm.trans hg)
  obtain rfl := Option.some.inj ((show (Tryd.prog.globals[0]?).map (·.type) = some 73 by kernel_rfl).symm.trans ht)
  have hc := strs_of_tab (bs := [[], [70, 76], [70, 82], [70, 67], [76, 70], [66, 76], [66, 82], [83, 76], [83, 82]]) Tryd.underlying73 Tryd.underlying9 (by kernel_rfl) (by kernel_rfl) hd
  have hcs : cs = #[.string (ByteArray.mk #[]), .string (ByteArray.mk #[70, 76]), .string (ByteArray.mk #[70, 82]), .string (ByteArray.mk #[70, 67]), .string (ByteArray.mk #[76, 70]), .string (ByteArray.mk #[66, 76]), .string (ByteArray.mk #[66, 82]), .string (ByteArray.mk #[83, 76]), .string (ByteArray.mk #[83, 82])] := Array.ext' hc
  subst hcs
  have hx := var_heap nm hv
  intro q hq
  have hq : q = _ := List.mem_singleton.1 hq
  subst hq
  have hlt : 0 < W.heap.size := by
    obtain ⟨T, fz, hx⟩ := hx
    exact (Array.getElem?_eq_some_iff.1 hx).1
  refine ⟨hlt, hlt, hx, fun i u hu => ⟨?_, ?_⟩⟩
  · have hm := List.mem_of_getElem? hu
    have hall : (([.string (ByteArray.mk #[]), .string (ByteArray.mk #[70, 76]), .string (ByteArray.mk #[70, 82]), .string (ByteArray.mk #[70, 67]), .string (ByteArray.mk #[76, 70]), .string (ByteArray.mk #[66, 76]), .string (ByteArray.mk #[66, 82]), .string (ByteArray.mk #[83, 76]), .string (ByteArray.mk #[83, 82])] : List Value).all fun v => v.oneCell') = true := by rfl
    exact List.all_eq_true.1 hall u hm
  · obtain ⟨T, fz, hx⟩ := hx
    rw [cell_of_row W _ i _ T fz hx]
    simpa using hu
end Go.Proofs.YtcmldnahohmieaaDoor
