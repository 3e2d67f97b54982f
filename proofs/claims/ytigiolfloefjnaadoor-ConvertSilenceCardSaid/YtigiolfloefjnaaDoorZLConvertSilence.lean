/- Merged texts. -/
import Derived.Test.YtigiolfloefjnaaDoorZBase
import Derived.JoinedOf
import Derived.KernelRfl
import Derived.Test.YtigiolfloefjnaaDoorRows
import Derived.Test.YtigiolfloefjnaaDoorZAmD
import Derived.OpenShut
import Derived.ChangeArms
import Derived.MakeChecks
import Derived.FnData
import Derived.LaidMore
import Derived.Test.YtigiolfloefjnaaDoorCards
import Derived.Test.YtigiolfloefjnaaDoorTie
import Derived.Test.YtigiolfloefjnaaDoorZLCZ
import Derived.WalkKit
import Derived.ProofKit
import Derived.ShutString
import Derived.Deep.Strs
import Derived.ChangeOld
import Derived.Below
import Derived.Lay
import Derived.LaidOnce
import Derived.SevenTiedAt
namespace Go.Proofs.YtigiolfloefjnaaDoor
open Go.RowKit
def pfChars : List Char := [Char.ofNat 104, Char.ofNat 97, Char.ofNat 114, Char.ofNat 110, Char.ofNat 101, Char.ofNat 115, Char.ofNat 115, Char.ofNat 32, Char.ofNat 54, Char.ofNat 51, Char.ofNat 100, Char.ofNat 100, Char.ofNat 101, Char.ofNat 98, Char.ofNat 97, Char.ofNat 98, Char.ofNat 102, Char.ofNat 53, Char.ofNat 49, Char.ofNat 52, Char.ofNat 53, Char.ofNat 100, Char.ofNat 50, Char.ofNat 97, Char.ofNat 97, Char.ofNat 56, Char.ofNat 55, Char.ofNat 56, Char.ofNat 100, Char.ofNat 53, Char.ofNat 101, Char.ofNat 48, Char.ofNat 51, Char.ofNat 100, Char.ofNat 98, Char.ofNat 53, Char.ofNat 97, Char.ofNat 48, Char.ofNat 54, Char.ofNat 53, Char.ofNat 98, Char.ofNat 54, Char.ofNat 54, Char.ofNat 53, Char.ofNat 48, Char.ofNat 51, Char.ofNat 51, Char.ofNat 100, Char.ofNat 101, Char.ofNat 51, Char.ofNat 48, Char.ofNat 97, Char.ofNat 51, Char.ofNat 49, Char.ofNat 97, Char.ofNat 101, Char.ofNat 51, Char.ofNat 51, Char.ofNat 101, Char.ofNat 99, Char.ofNat 48, Char.ofNat 57, Char.ofNat 55, Char.ofNat 101, Char.ofNat 100, Char.ofNat 57, Char.ofNat 102, Char.ofNat 49, Char.ofNat 49, Char.ofNat 56, Char.ofNat 57, Char.ofNat 54, Char.ofNat 32, Char.ofNat 99, Char.ofNat 117, Char.ofNat 116, Char.ofNat 32, Char.ofNat 97, Char.ofNat 116, Char.ofNat 32, Char.ofNat 115, Char.ofNat 111, Char.ofNat 117, Char.ofNat 110, Char.ofNat 100, Char.ofNat 115, Char.ofNat 101, Char.ofNat 114, Char.ofNat 118, Char.ofNat 105, Char.ofNat 99, Char.ofNat 101, Char.ofNat 47, Char.ofNat 115, Char.ofNat 111, Char.ofNat 117, Char.ofNat 110, Char.ofNat 100, Char.ofNat 115, Char.ofNat 101, Char.ofNat 114, Char.ofNat 118, Char.ofNat 105, Char.ofNat 99, Char.ofNat 101, Char.ofNat 108, Char.ofNat 97, Char.ofNat 119, Char.ofNat 49, Char.ofNat 54, Char.ofNat 46, Char.ofNat 67, Char.ofNat 111, Char.ofNat 110, Char.ofNat 118, Char.ofNat 101, Char.ofNat 114, Char.ofNat 116, Char.ofNat 80, Char.ofNat 105, Char.ofNat 101, Char.ofNat 99, Char.ofNat 101, Char.ofNat 115, Char.ofNat 32, Char.ofNat 115, Char.ofNat 111, Char.ofNat 117, Char.ofNat 110, Char.ofNat 100, Char.ofNat 115, Char.ofNat 101, Char.ofNat 114, Char.ofNat 118, Char.ofNat 105, Char.ofNat 99, Char.ofNat 101, Char.ofNat 47, Char.ofNat 115, Char.ofNat 111, Char.ofNat 117, Char.ofNat 110, Char.ofNat 100, Char.ofNat 115, Char.ofNat 101, Char.ofNat 114, Char.ofNat 118, Char.ofNat 105, Char.ofNat 99, Char.ofNat 101, Char.ofNat 108, Char.ofNat 97, Char.ofNat 119, Char.ofNat 49, Char.ofNat 54, Char.ofNat 46, Char.ofNat 67, Char.ofNat 111, Char.ofNat 110, Char.ofNat 118, Char.ofNat 101, Char.ofNat 114, Char.ofNat 116, Char.ofNat 83, Char.ofNat 97, Char.ofNat 109, Char.ofNat 101, Char.ofNat 32, Char.ofNat 115, Char.ofNat 111, Char.ofNat 117, Char.ofNat 110, Char.ofNat 100, Char.ofNat 115, Char.ofNat 101, Char.ofNat 114, Char.ofNat 118, Char.ofNat 105, Char.ofNat 99, Char.ofNat 101, Char.ofNat 47, Char.ofNat 115, Char.ofNat 111, Char.ofNat 117, Char.ofNat 110, Char.ofNat 100, Char.ofNat 115, Char.ofNat 101, Char.ofNat 114, Char.ofNat 118, Char.ofNat 105, Char.ofNat 99, Char.ofNat 101, Char.ofNat 108, Char.ofNat 97, Char.ofNat 119, Char.ofNat 49, Char.ofNat 54, Char.ofNat 46, Char.ofNat 67, Char.ofNat 111, Char.ofNat 110, Char.ofNat 118, Char.ofNat 101, Char.ofNat 114, Char.ofNat 116, Char.ofNat 84, Char.ofNat 104, Char.ofNat 101, Char.ofNat 114, Char.ofNat 101, Char.ofNat 32, Char.ofNat 115, Char.ofNat 111, Char.ofNat 117, Char.ofNat 110, Char.ofNat 100, Char.ofNat 115, Char.ofNat 101, Char.ofNat 114, Char.ofNat 118, Char.ofNat 105, Char.ofNat 99, Char.ofNat 101, Char.ofNat 47, Char.ofNat 115, Char.ofNat 111, Char.ofNat 117, Char.ofNat 110, Char.ofNat 100, Char.ofNat 115, Char.ofNat 101, Char.ofNat 114, Char.ofNat 118, Char.ofNat 105, Char.ofNat 99, Char.ofNat 101, Char.ofNat 108, Char.ofNat 97, Char.ofNat 119, Char.ofNat 49, Char.ofNat 54, Char.ofNat 46, Char.ofNat 67, Char.ofNat 111, Char.ofNat 110, Char.ofNat 118, Char.ofNat 101, Char.ofNat 114, Char.ofNat 116, Char.ofNat 83, Char.ofNat 105, Char.ofNat 108, Char.ofNat 101, Char.ofNat 110, Char.ofNat 99, Char.ofNat 101]
theorem pf_io : Tryd.prog.initOrder = String.ofList pfChars := by kernel_rfl
theorem pf_tl : Tryd.prog.initOrder.toList = pfChars := (congrArg String.toList pf_io).trans String.toList_ofList
def pfWords : List (List Char) := [[Char.ofNat 99, Char.ofNat 117, Char.ofNat 116], [Char.ofNat 97, Char.ofNat 116], [Char.ofNat 115, Char.ofNat 111, Char.ofNat 117, Char.ofNat 110, Char.ofNat 100, Char.ofNat 115, Char.ofNat 101, Char.ofNat 114, Char.ofNat 118, Char.ofNat 105, Char.ofNat 99, Char.ofNat 101, Char.ofNat 47, Char.ofNat 115, Char.ofNat 111, Char.ofNat 117, Char.ofNat 110, Char.ofNat 100, Char.ofNat 115, Char.ofNat 101, Char.ofNat 114, Char.ofNat 118, Char.ofNat 105, Char.ofNat 99, Char.ofNat 101, Char.ofNat 108, Char.ofNat 97, Char.ofNat 119, Char.ofNat 49, Char.ofNat 54, Char.ofNat 46, Char.ofNat 67, Char.ofNat 111, Char.ofNat 110, Char.ofNat 118, Char.ofNat 101, Char.ofNat 114, Char.ofNat 116, Char.ofNat 80, Char.ofNat 105, Char.ofNat 101, Char.ofNat 99, Char.ofNat 101, Char.ofNat 115], [Char.ofNat 115, Char.ofNat 111, Char.ofNat 117, Char.ofNat 110, Char.ofNat 100, Char.ofNat 115, Char.ofNat 101, Char.ofNat 114, Char.ofNat 118, Char.ofNat 105, Char.ofNat 99, Char.ofNat 101, Char.ofNat 47, Char.ofNat 115, Char.ofNat 111, Char.ofNat 117, Char.ofNat 110, Char.ofNat 100, Char.ofNat 115, Char.ofNat 101, Char.ofNat 114, Char.ofNat 118, Char.ofNat 105, Char.ofNat 99, Char.ofNat 101, Char.ofNat 108, Char.ofNat 97, Char.ofNat 119, Char.ofNat 49, Char.ofNat 54, Char.ofNat 46, Char.ofNat 67, Char.ofNat 111, Char.ofNat 110, Char.ofNat 118, Char.ofNat 101, Char.ofNat 114, Char.ofNat 116, Char.ofNat 83, Char.ofNat 97, Char.ofNat 109, Char.ofNat 101], [Char.ofNat 115, Char.ofNat 111, Char.ofNat 117, Char.ofNat 110, Char.ofNat 100, Char.ofNat 115, Char.ofNat 101, Char.ofNat 114, Char.ofNat 118, Char.ofNat 105, Char.ofNat 99, Char.ofNat 101, Char.ofNat 47, Char.ofNat 115, Char.ofNat 111, Char.ofNat 117, Char.ofNat 110, Char.ofNat 100, Char.ofNat 115, Char.ofNat 101, Char.ofNat 114, Char.ofNat 118, Char.ofNat 105, Char.ofNat 99, Char.ofNat 101, Char.ofNat 108, Char.ofNat 97, Char.ofNat 119, Char.ofNat 49, Char.ofNat 54, Char.ofNat 46, Char.ofNat 67, Char.ofNat 111, Char.ofNat 110, Char.ofNat 118, Char.ofNat 101, Char.ofNat 114, Char.ofNat 116, Char.ofNat 84, Char.ofNat 104, Char.ofNat 101, Char.ofNat 114, Char.ofNat 101], [Char.ofNat 115, Char.ofNat 111, Char.ofNat 117, Char.ofNat 110, Char.ofNat 100, Char.ofNat 115, Char.ofNat 101, Char.ofNat 114, Char.ofNat 118, Char.ofNat 105, Char.ofNat 99, Char.ofNat 101, Char.ofNat 47, Char.ofNat 115, Char.ofNat 111, Char.ofNat 117, Char.ofNat 110, Char.ofNat 100, Char.ofNat 115, Char.ofNat 101, Char.ofNat 114, Char.ofNat 118, Char.ofNat 105, Char.ofNat 99, Char.ofNat 101, Char.ofNat 108, Char.ofNat 97, Char.ofNat 119, Char.ofNat 49, Char.ofNat 54, Char.ofNat 46, Char.ofNat 67, Char.ofNat 111, Char.ofNat 110, Char.ofNat 118, Char.ofNat 101, Char.ofNat 114, Char.ofNat 116, Char.ofNat 83, Char.ofNat 105, Char.ofNat 108, Char.ofNat 101, Char.ofNat 110, Char.ofNat 99, Char.ofNat 101]]
theorem pf_w : behindMainWord (wordsSigns Tryd.prog.initOrder.toList) = pfWords := by rw [pf_tl]; kernel_rfl
theorem gmake (P : Program) (ws : List (List Char)) (h : behindMainWord (wordsSigns P.initOrder.toList) = ws) (hc : ∃ c rest, ws = c :: rest ∧ (c == "gc".toList || c == "spec".toList) = false ∧ (c == "cut".toList || c == "finals".toList && rest.head? == some "cut".toList) = true) : P.make = some .cut := by
 obtain ⟨c, rest, rfl, h1, h2⟩ := hc
 unfold Program.make
 rw [h]
 simp only [h1, h2]
 rfl
theorem genter (P : Program) (c : List Char) (rest : List (List Char)) (h : behindMainWord (wordsSigns P.initOrder.toList) = c :: rest) (hs : stripLifts liftWords (c :: rest) = ([], c :: rest)) (h1 : (c == "cut".toList) = true) (h2 : P.laysLater = false) (h3 : P.bearsReflect = false) (h4 : P.doorFits [] = true) : P.mayEnter = true := by
 unfold Program.mayEnter
 rw [h]
 simp only [hs, h2, h3, h4]
 have h5 : c = "cut".toList := eq_of_beq h1
 subst h5
 simp
theorem gfinal (P : Program) (c : List Char) (rest : List (List Char)) (h : behindMainWord (wordsSigns P.initOrder.toList) = c :: rest) (h1 : (c == "carried".toList) = false) (h2 : P.headLifts = []) : P.liftsFinal = false := by
 unfold Program.liftsFinal
 rw [h, h2]
 simp only [List.head?_cons]
 have : (some c == some "carried".toList) = false := h1
 rw [this]; rfl
theorem glifts (P : Program) (c : List Char) (rest : List (List Char)) (h : behindMainWord (wordsSigns P.initOrder.toList) = c :: rest) (hs : stripLifts liftWords (c :: rest) = ([], c :: rest)) : P.headLifts = [] := by
 unfold Program.headLifts
 rw [h, hs]
 show (if _ then [] else []) = []
 split <;> rfl
theorem pf_strip : stripLifts liftWords pfWords = ([], pfWords) := by kernel_rfl
theorem pf_lifts : Tryd.prog.headLifts = [] := glifts Tryd.prog _ _ pf_w pf_strip
theorem pf_make : Tryd.prog.make = some .cut := gmake Tryd.prog pfWords pf_w ⟨_, _, rfl, by kernel_rfl, by kernel_rfl⟩
theorem pf_final : Tryd.prog.liftsFinal = false := gfinal Tryd.prog _ _ pf_w (by kernel_rfl) pf_lifts
theorem pf_later : Tryd.prog.laysLater = false := by kernel_rfl
theorem pf_reflect : Tryd.prog.bearsReflect = false := by kernel_rfl
theorem pf_door : Tryd.prog.doorFits [] = true := by kernel_rfl
theorem pf_enter : Tryd.prog.mayEnter = true := genter Tryd.prog _ _ pf_w pf_strip (by kernel_rfl) pf_later pf_reflect pf_door
theorem pf_laid : laidOutB Tryd.prog = true := by kernel_rfl
theorem pf_maps : mapsRowed Tryd.prog = true := by kernel_rfl
theorem pf_heard : Tryd.prog.stopsHeard = true := by kernel_rfl
end Go.Proofs.YtigiolfloefjnaaDoor
namespace Go.Proofs.YtigiolfloefjnaaDoor
open Go.ChangeShapes Go.WideShapes Go.ChangeAt Go.RowKit
set_option linter.unusedVariables false
theorem twoOf {α : Type} : ∀ {l : List α}, l.length = 2 → ∃ a b, l = [a, b]
 | [a, b], _ => ⟨a, b, rfl⟩
theorem var_heap {P : Program} {w : World} {name : String} {g : Nat} {arr : Array Value} (hg : P.globalNamed name = some g) (hv : w.var? P name = some arr) : ∃ T fz, w.heap[g]? = some (.cells arr T fz) := by
 unfold World.var? at hv
 rw [hg] at hv
 simp only [Option.bind_some] at hv
 split at hv
 ·rename_i cs T fz h; cases hv; exact ⟨T, fz, h⟩
 ·cases hv
theorem kind_elem {w : World} {fuel : Nat} {cs : List Value} {p : List MemPlace} {a : Int} {b : Bool} (h : DataW.trod (fun _ => ()) Tryd.prog w 0 (fun _ => true) false fuel 105 cs = some (.agg [.lit (.int .i64 a), .lit (.bool b)], p)) : cs = [.int .i64 a, .bool b] := by
 obtain ⟨xs, n, _, ex, hlen, hx, hel⟩ := DataW.trod_struct Tryd.underlying105 h
 obtain ⟨c0, c1, rfl⟩ := twoOf (show cs.length = 2 from hlen.trans zk)
 obtain ⟨x0, x1, rfl⟩ := twoOf (show xs.length = 2 from hx)
 obtain ⟨z0, a0, b0, _⟩ := DataW.trod_int Tryd.underlying3 (by simpa [show Tryd.prog.cellsOf 3 = 1 from by kernel_rfl] using hel 0 _ rfl)
 obtain ⟨z1, a1, b1⟩ := DataW.trod_bool Tryd.underlying4 (by simpa [show Tryd.prog.cellsOf 4 = 1 from by kernel_rfl] using hel 1 _ rfl)
 have e5 := DataW.agg.inj (Prod.mk.inj ex).1
 simp only [List.map_cons, List.map_nil, List.cons.injEq, and_true] at e5
 obtain ⟨e6, e7⟩ := e5
 subst b0
 subst b1
 simp at a0 a1 e6 e7
 simp_all
theorem kindsList {cs : List Value} (hl : cs.length = 16) {f : Nat → List Value} (h : ∀ i, i < 8 → (cs.drop (i * 2)).take 2 = f i) : cs = f 0 ++ f 1 ++ f 2 ++ f 3 ++ f 4 ++ f 5 ++ f 6 ++ f 7 := by
 have e : ∀ (n : Nat) (l : List Value), l = l.take 2 ++ l.drop 2 := fun n l => (List.take_append_drop 2 l).symm
 rw [← h 0 (by omega), ← h 1 (by omega), ← h 2 (by omega), ← h 3 (by omega), ← h 4 (by omega), ← h 5 (by omega), ← h 6 (by omega), ← h 7 (by omega)]
 match cs, hl with
 | [a0, a1, a2, a3, a4, a5, a6, a7, a8, a9, b0, b1, b2, b3, b4, b5], _ => rfl
theorem kinds_var {W : World} (h : laidMetH Tryd.prog [("soundservice/sample.kinds", Rows.laid_soundservice_sample_kinds)] W) : W.var? Tryd.prog "soundservice/sample.kinds" = some #[.int .i64 0, .bool false, .int .i64 1, .bool false, .int .i64 2, .bool false, .int .i64 2, .bool true, .int .i64 3, .bool false, .int .i64 3, .bool true, .int .i64 4, .bool false, .int .i64 4, .bool true] := by
 rw [MakeChecks.laidMetH_plain _ _ _ (by kernel_rfl)] at h
 obtain ⟨ps, ⟨g, t, cs, fuel, p, q, hg, ht, hv, hd, _, _⟩, _, _⟩ := h
 obtain rfl := Option.some.inj ((show Tryd.prog.globalNamed "soundservice/sample.kinds" = some 0 by kernel_rfl).symm.trans hg)
 obtain rfl := Option.some.inj ((show (Tryd.prog.globals[0]?).map (·.type) = some 106 by kernel_rfl).symm.trans ht)
 have c5 : Tryd.prog.cellsOf 105 = 2 := by kernel_rfl
 obtain ⟨xs, m, _, ex, hlen, hl, hel⟩ := DataW.trod_array Tryd.underlying106 hd
 rw [c5] at hel
 have hlen : cs.toList.length = 16 := hlen.trans (by kernel_rfl)
 have e3 := DataW.agg.inj (Prod.mk.inj ex).1
 have hx : ∀ (i : Nat) (a : Int) (b : Bool), i < 8 → (xs.map (·.1))[i]? = some (.agg [.lit (.int .i64 a), .lit (.bool b)]) → (cs.toList.drop (i * 2)).take 2 = [.int .i64 a, .bool b] := by
  intro i a b hi hxi
  rw [List.getElem?_map] at hxi
  obtain ⟨y, hy, hy2⟩ := Option.map_eq_some_iff.1 hxi
  have h1 := hel i hi
  rw [hy] at h1
  obtain ⟨y1, y2⟩ := y
  have hy2 : y1 = _ := hy2
  subst hy2
  exact kind_elem h1
 rw [← e3] at hx
 have hall := kindsList hlen (f := fun i => match i with | 0 => [.int .i64 0, .bool false] | 1 => [.int .i64 1, .bool false] | 2 => [.int .i64 2, .bool false] | 3 => [.int .i64 2, .bool true] | 4 => [.int .i64 3, .bool false] | 5 => [.int .i64 3, .bool true] | 6 => [.int .i64 4, .bool false] | _ => [.int .i64 4, .bool true]) (fun i hi => by
  match i, hi with
  | 0, _ => exact hx 0 0 false (by omega) rfl
  | 1, _ => exact hx 1 1 false (by omega) rfl
  | 2, _ => exact hx 2 2 false (by omega) rfl
  | 3, _ => exact hx 3 2 true (by omega) rfl
  | 4, _ => exact hx 4 3 false (by omega) rfl
  | 5, _ => exact hx 5 3 true (by omega) rfl
  | 6, _ => exact hx 6 4 false (by omega) rfl
  | 7, _ => exact hx 7 4 true (by omega) rfl)
 rw [hv]
 exact congrArg some (Array.ext' hall)
theorem gl_of_laid {W : World} (h : laidMetH Tryd.prog [("soundservice/sample.kinds", Rows.laid_soundservice_sample_kinds)] W) : GlOK (fun k => k < W.heap.size) W := by
 have hv := kinds_var h
 have hc := fun j => World.var?_cell (show Tryd.prog.globalNamed "soundservice/sample.kinds" = some 0 by kernel_rfl) hv j
 have h0 : 0 < W.heap.size := by
  have h1 := hc 0
  rcases Nat.lt_or_ge 0 W.heap.size with h2 | h2
  ·exact h2
  ·have h3 : W.heap[0]? = none := Array.getElem?_eq_none h2
   simp [World.cell?, h3] at h1
 intro q hq
 have hq : q = _ := List.mem_singleton.1 hq
 subst hq
 have hx := var_heap (show Tryd.prog.globalNamed "soundservice/sample.kinds" = some 0 by kernel_rfl) hv
 refine ⟨h0, h0, hx, fun i u hu => ⟨?_, ?_⟩⟩
 ·have hm := List.mem_of_getElem? hu
  have hall : (([.int .i64 0, .bool false, .int .i64 1, .bool false, .int .i64 2, .bool false, .int .i64 2, .bool true, .int .i64 3, .bool false, .int .i64 3, .bool true, .int .i64 4, .bool false, .int .i64 4, .bool true] : List Value).all fun v => v.oneCell') = true := by rfl
  exact List.all_eq_true.1 hall u hm
 ·rw [hc i]
  simpa using hu
end Go.Proofs.YtigiolfloefjnaaDoor
namespace Go.Proofs.YtigiolfloefjnaaDoor.convertSilence
open Go.ChangeShapes Go.WideShapes Go.ChangeAt Go.RowKit
open Go.ChangeMaps (open_string shut_string)
set_option linter.unusedVariables false
def IsRow (k : IntKind) (w : World) (a : Option Addr) (len cap : Nat) (zs : List Int) : Prop :=
  (a = none ∧ len = 0 ∧ cap = 0 ∧ zs = []) ∨
  ∃ x, a = some x ∧ len ≤ cap ∧ cap ≤ maxLen ∧ zs.length = cap ∧ (∀ i, i < zs.length → w.cell? (x.add i) = some (.int k (zs.getD i 0))) ∧ ∀ n ∈ zs, (Lit.int k n).wf = true
theorem len_succ {α : Type} {n : Nat} : ∀ {l : List α}, l.length = n + 1 → ∃ a t, l = a :: t ∧ t.length = n
  | [], h => by cases h
  | a :: t, h => ⟨a, t, rfl, by simpa using h⟩
theorem walk (a0 : Option Addr) (len0 cap0 : Nat) (z0 : List Int) (a1 : Int) (w : World) (w0 : IsRow .u8 w a0 len0 cap0 z0) (w1 : (Lit.int .u8 a1).wf = true) (hgl : GlOK (fun k => k < w.heap.size) w) :
    Calls Tryd.prog 6 #[.slice a0 len0 cap0, .int .u8 a1] w fun e w' => e = .returned (.bool true) ∧ Below w.heap.size w w' := by
  exact convertSilence_walk (sl_of_row w0) (bounds_u8 w1) hgl
set_option maxRecDepth 100000 in
theorem lifted (os : Os) (started : os.Started) (H : Type) (enc : TypeId × Value → H) :
    ReturnsInHanded {} Tryd.checked os 6 .any (fun w args => (Rows.convertSilenceSpec.pre enc Tryd.prog Tryd.f6 [] false w args ∧ laidMetH Tryd.prog Rows.convertSilenceRow.laid w) ∧ sizedMet enc Tryd.prog Tryd.f6 (OpenSpec.ofChange Rows.convertSilenceSpec) false w args) (Rows.convertSilenceSpec.post enc Tryd.prog Tryd.f6 false true false false) := by
  refine returnsInHanded_of_change_and (C := Tryd.checked) (X := fun w _ => laidMetH Tryd.prog Rows.convertSilenceRow.laid w) (fun _ _ _ hh h => h.of_heap hh) own started (by kernel_rfl) Tryd.func6
    (ChangeSpec.witness_at (enc := enc) (C := Tryd.checked) (os := os) (X := fun w _ => laidMetH Tryd.prog Rows.convertSilenceRow.laid w) false (World.laidAll Tryd.prog os Rows.convertSilenceRow.laid) #[.slice none 0 0, .int .u8 0] 8 (World.laidAll_os _ _ _) (by kernel_rfl) (by kernel_rfl) (by kernel_rfl) (by kernel_rfl) (by kernel_rfl)
      (by rw [MakeChecks.laidMetH_plain _ _ _ (by kernel_rfl)]; exact laidMet_laidAll _ (by kernel_rfl) (by kernel_rfl))) ?_
  intro W base args ds gs before hval0 hW _ _ hL _
  have hval : ∀ (j : Nat) t v, Tryd.f6.params[j]? = some t → args[j]? = some v → Value.okWide Tryd.prog W .any base t v := hval0
  have hW' := hW
  obtain ⟨p, q, hA0, hV, rfl, hfz, hnd⟩ := hW
  have hA : DataW.TrodAll enc Tryd.prog W 0 (fun _ => true) true Tryd.f6.params.toList args.toList ds p := hA0
  rw [Tryd.params6] at hA hval
  obtain ⟨v0, vs0, d0, ds0, p0, q0, hargs, rfl, rfl, h0, r0⟩ := trodAll_cons hA
  obtain ⟨v1, vs1, d1, ds1, p1, q1, rfl, rfl, rfl, h1, r1⟩ := trodAll_cons r0
  obtain ⟨rfl, rfl, rfl⟩ := trodAll_nil r1
  obtain rfl : args = #[v0, v1] := by cases args; simp_all
  obtain ⟨rfl, rfl⟩ := trodVars_none hV
  obtain ⟨a0, len0, cap0, rfl⟩ := okWide_slice Tryd.underlying22 (hval 0 22 v0 rfl rfl)
  have k0 := h0
  have lt0 : ∀ x ∈ p0, x.block < W.heap.size := by obtain ⟨m, hm⟩ := k0; exact DataW.trod_lt m _ _ _ hm
  obtain ⟨z0, w0⟩ : ∃ zs, IsRow .u8 W a0 len0 cap0 zs := by
    obtain ⟨fuel, hf⟩ := h0
    rcases open_ints Tryd.underlying22 Tryd.underlying5 (by kernel_rfl) hf with ⟨hcs, _⟩ | ⟨x, l, c, zs, hcs, _, hl, hm, hz, _, hcell, hwz⟩
    · simp [Value.cells] at hcs
      obtain ⟨rfl, rfl, rfl⟩ := hcs
      exact ⟨[], .inl ⟨rfl, rfl, rfl, rfl⟩⟩
    · simp [Value.cells] at hcs
      obtain ⟨rfl, rfl, rfl⟩ := hcs
      exact ⟨zs, .inr ⟨_, rfl, hl, hm, by simpa using hz, hcell, hwz⟩⟩
  obtain ⟨a1, rfl, rfl, rfl, w1⟩ := open_int Tryd.underlying5 (hval 1 5 v1 rfl rfl) h1
  clear hA0 hval0
  refine (walk a0 len0 cap0 z0 a1 W w0 w1 (gl_of_laid hL)).mono fun e W' ⟨he, bel⟩ => ?_
  subst he
  exact ⟨_, rfl, _, _, _, [], _, [], hW', trodAll_mk1 (shut_bool Tryd.underlying4 _), (trodAll_cons_mk (Below.trod laidOut (by kernel_rfl) (of_decide_eq_true (by kernel_rfl)) k0 bel lt0) (trodAll_cons_mk (shut_int Tryd.underlying5 w1) trodAll_mk0)), rfl, bel.frame _, fun h => by cases h⟩
theorem closed : joinedFacts Tryd.prog 6 Tryd.f6 Rows.convertSilenceSpec Rows.convertSilenceRow = true := by
  simp only [joinedFacts, Bool.and_eq_true]
  repeat' apply And.intro
  · kernel_rfl
  · exact pf_laid
  · exact pf_maps
  · kernel_rfl
  · kernel_rfl
  · kernel_rfl
  · kernel_rfl
  · kernel_rfl
  · kernel_rfl
  · kernel_rfl
  · kernel_rfl
  · kernel_rfl
  · kernel_rfl
  · kernel_rfl
  · kernel_rfl
  · kernel_rfl
  · kernel_rfl
  · kernel_rfl
  · kernel_rfl
  · kernel_rfl
  · kernel_rfl
  · kernel_rfl
  · kernel_rfl
  · kernel_rfl
  · exact pf_heard
  · exact pf_enter
  · exact (congrArg (fun b => (Rows.convertSilenceRow.lifted == b)) pf_final).trans (by kernel_rfl)
  · exact (congrArg (fun m => (m == some Rows.convertSilenceRow.make)) pf_make).trans (by kernel_rfl)
  all_goals kernel_rfl
theorem over : Rows.convertSilenceRow.holds Tryd.pinned (OpenSpec.ofChange Rows.convertSilenceSpec) :=
  OpenClaim.holds_of_wide 6 Tryd.f6 rfl rfl rfl rfl rfl rfl rfl ⟨rfl, rfl, rfl, rfl, rfl⟩ rfl rfl rfl rfl rfl (by kernel_rfl) Tryd.func6 closed
    (of_decide_eq_true (by kernel_rfl)) (by unfold Func.isWrapper; first | (rw [if_pos (by decide +kernel)]; kernel_rfl) | (rw [if_neg (by decide +kernel)]; exact ⟨rfl, rfl⟩))
    (fun os started H enc _ => lifted os started H enc)
theorem proved : Rows.ConvertSilenceCardSaid :=
  Claim7.holds_tied_plain_at .later [] [.data] true (true, "63ddebabf5145d2aa878d5e03db5a065b665033de30a31ae33ec097ed9f11896") false over (fun _ h => by cases h) (by kernel_rfl) (fun _ h => by cases h) convertSilence_row_tie rfl ⟨rfl, rfl⟩ (by kernel_rfl) rfl
    (fun f fn hf hfn => by
      obtain rfl : f = 6 := Option.some.inj ((show Tryd.prog.funcNamed "soundservice/soundservicelaw16.ConvertSilence" = some 6 by kernel_rfl).symm.trans hf) |>.symm
      obtain rfl : fn = Tryd.f6 := (Option.some.inj (Tryd.func6.symm.trans hfn)).symm
      exact ⟨by kernel_rfl, fun j t ht => by
        rw [Tryd.params6] at ht
        have hm : t ∈ [22, 5] := by simpa using Array.mem_of_getElem? ht
        have hall : ([22, 5].all fun u => !Tryd.prog.wantsStandIn u) = true := by kernel_rfl
        exact (show Tryd.prog.wantsStandIn t = false by simpa using List.all_eq_true.1 hall t hm)⟩)
    (by kernel_rfl)
#print axioms proved
end Go.Proofs.YtigiolfloefjnaaDoor.convertSilence
