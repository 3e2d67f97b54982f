/- What the package's variables hold when a call begins. No statement is proved here. -/
import Derived.Test.YtmdacpepaidkjaaDoorRows
import Derived.Test.YtmdacpepaidkjaaDoorAmD
import Derived.OpenShut
import Derived.ChangeArms
import Derived.MakeChecks
import Derived.FnData
import Derived.LaidMore
namespace Go.Proofs.YtmdacpepaidkjaaDoor
open Go.ChangeShapes Go.WideShapes Go.ChangeAt Go.RowKit
set_option linter.unusedVariables false
theorem twoOf {α : Type} : ∀ {l : List α}, l.length = 2 → ∃ a b, l = [a, b]
  | [a, b], _ => ⟨a, b, rfl⟩
theorem kind_elem {w : World} {fuel : Nat} {cs : List Value} {p : List MemPlace} {a : Int} {b : Bool} (h : DataW.trod (fun _ => ()) Tryd.prog w 0 (fun _ => true) false fuel 55 cs = some (.agg [.lit (.int .i64 a), .lit (.bool b)], p)) : cs = [.int .i64 a, .bool b] := by
  obtain ⟨xs, n, _, ex, hlen, hx, hel⟩ := DataW.trod_struct Tryd.underlying55 h
  obtain ⟨c0, c1, rfl⟩ := twoOf (show cs.length = 2 from hlen.trans (by kernel_rfl))
  obtain ⟨x0, x1, rfl⟩ := twoOf (show xs.length = 2 from hx)
  obtain ⟨z0, a0, b0, _⟩ := DataW.trod_int Tryd.underlying3 (by simpa [show Tryd.prog.cellsOf 3 = 1 from by kernel_rfl] using hel 0 _ rfl)
  obtain ⟨z1, a1, b1⟩ := DataW.trod_bool Tryd.underlying4 (by simpa [show Tryd.prog.cellsOf 4 = 1 from by kernel_rfl] using hel 1 _ rfl)
  have e5 := DataW.agg.inj (Prod.mk.inj ex).1
  simp only [List.map_cons, List.map_nil, List.cons.injEq, and_true] at e5
  obtain ⟨e6, e7⟩ := e5
  subst b0
  subst b1
  simp at a0 a1 e6 e7
  simp_all
theorem kindsList {cs : List Value} (hl : cs.length = 16) {f : Nat → List Value} (h : ∀ i, i < 8 → (cs.drop (i * 2)).take 2 = f i) : cs = f 0 ++ f 1 ++ f 2 ++ f 3 ++ f 4 ++ f 5 ++ f 6 ++ f 7 := by
  have e : ∀ (n : Nat) (l : List Value), l = l.take 2 ++ l.drop 2 := fun n l => (List.take_append_drop 2 l).symm
  rw [← h 0 (by omega), ← h 1 (by omega), ← h 2 (by omega), ← h 3 (by omega), ← h 4 (by omega), ← h 5 (by omega), ← h 6 (by omega), ← h 7 (by omega)]
  match cs, hl with
  | [a0, a1, a2, a3, a4, a5, a6, a7, a8, a9, b0, b1, b2, b3, b4, b5], _ => rfl
theorem kinds_var {W : World} (h : laidMetH Tryd.prog [("soundservice/sample.kinds", Rows.laid_soundservice_sample_kinds)] W) : W.var? Tryd.prog "soundservice/sample.kinds" = some #[.int .i64 0, .bool false, .int .i64 1, .bool false, .int .i64 2, .bool false, .int .i64 2, .bool true, .int .i64 3, .bool false, .int .i64 3, .bool true, .int .i64 4, .bool false, .int .i64 4, .bool true] := by
  rw [MakeChecks.laidMetH_plain _ _ _ (by kernel_rfl)] at h
  obtain ⟨ps, ⟨g, t, cs, fuel, p, q, hg, ht, hv, hd, _, _⟩, _, _⟩ := h
  obtain rfl := Option.some.inj ((show Tryd.prog.globalNamed "soundservice/sample.kinds" = some 0 by kernel_rfl).symm.trans hg)
  obtain rfl := Option.some.inj ((show (Tryd.prog.globals[0]?).map (·.type) = some 56 by kernel_rfl).symm.trans ht)
  have c5 : Tryd.prog.cellsOf 55 = 2 := by kernel_rfl
  obtain ⟨xs, m, _, ex, hlen, hl, hel⟩ := DataW.trod_array Tryd.underlying56 hd
  rw [c5] at hel
  have hlen : cs.toList.length = 16 := hlen.trans (by kernel_rfl)
  have e3 := DataW.agg.inj (Prod.mk.inj ex).1
  have hx : ∀ (i : Nat) (a : Int) (b : Bool), i < 8 → (xs.map (·.1))[i]? = some (.agg [.lit (.int .i64 a), .lit (.bool b)]) → (cs.toList.drop (i * 2)).take 2 = [.int .i64 a, .bool b] := by
    intro i a b hi hxi
    rw [List.getElem?_map] at hxi
    obtain ⟨y, hy, hy2⟩ := Option.map_eq_some_iff.1 hxi
    have h1 := hel i hi
    rw [hy] at h1
    obtain ⟨y1, y2⟩ := y
    have hy2 : y1 = _ := hy2
    subst hy2
    exact kind_elem h1
  rw [← e3] at hx
  have hall := kindsList hlen (f := fun i => match i with | 0 => [.int .i64 0, .bool false] | 1 => [.int .i64 1, .bool false] | 2 => [.int .i64 2, .bool false] | 3 => [.int .i64 2, .bool true] | 4 => [.int .i64 3, .bool false] | 5 => [.int .i64 3, .bool true] | 6 => [.int .i64 4, .bool false] | _ => [.int .i64 4, .bool true]) (fun i hi => by
    match i, hi with
    | 0, _ => exact hx 0 0 false (by omega) rfl
    | 1, _ => exact hx 1 1 false (by omega) rfl
    | 2, _ => exact hx 2 2 false (by omega) rfl
    | 3, _ => exact hx 3 2 true (by omega) rfl
    | 4, _ => exact hx 4 3 false (by omega) rfl
    | 5, _ => exact hx 5 3 true (by omega) rfl
    | 6, _ => exact hx 6 4 false (by omega) rfl
    | 7, _ => exact hx 7 4 true (by omega) rfl)
  rw [hv]
  exact congrArg some (Array.ext' hall)
theorem gl_of_laid {W : World} (h : laidMetH Tryd.prog [("soundservice/sample.kinds", Rows.laid_soundservice_sample_kinds)] W) : GlOK (fun k => k < W.heap.size) W := by
  have hv := kinds_var h
  have hc := fun j => World.var?_cell (show Tryd.prog.globalNamed "soundservice/sample.kinds" = some 0 by kernel_rfl) hv j
  have h0 : 0 < W.heap.size := by
    have h1 := hc 0
    rcases Nat.lt_or_ge 0 W.heap.size with h2 | h2
    · exact h2
    · have h3 : W.heap[0]? = none := Array.getElem?_eq_none h2
      simp [World.cell?, h3] at h1
  intro q hq
  have hq : q = _ := List.mem_singleton.1 hq
  subst hq
  refine ⟨h0, h0, fun i u hu => ⟨?_, ?_⟩⟩
  · have hm := List.mem_of_getElem? hu
    have hall : (([.int .i64 0, .bool false, .int .i64 1, .bool false, .int .i64 2, .bool false, .int .i64 2, .bool true, .int .i64 3, .bool false, .int .i64 3, .bool true, .int .i64 4, .bool false, .int .i64 4, .bool true] : List Value).all fun v => v.oneCell') = true := by rfl
    exact List.all_eq_true.1 hall u hm
  · rw [hc i]
    simpa using hu
end Go.Proofs.YtmdacpepaidkjaaDoor
