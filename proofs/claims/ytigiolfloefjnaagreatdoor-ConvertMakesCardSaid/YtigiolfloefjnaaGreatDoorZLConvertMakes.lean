/- Merged texts. -/
import Derived.Test.YtigiolfloefjnaaGreatDoorZBase
import Derived.JoinedOf
import Derived.KernelRfl
import Derived.Test.YtigiolfloefjnaaGreatDoorRows
import Derived.Test.YtigiolfloefjnaaGreatDoorZAmD
import Derived.OpenShut
import Derived.ChangeArms
import Derived.MakeChecks
import Derived.FnData
import Derived.LaidMore
import Derived.Test.YtigiolfloefjnaaGreatDoorCards
import Derived.Test.YtigiolfloefjnaaGreatDoorTie
import Derived.Test.YtigiolfloefjnaaGreatDoorZLCM
import Derived.WalkKit
import Derived.ProofKit
import Derived.ShutString
import Derived.Deep.Strs
import Derived.ChangeOld
import Derived.Below
import Derived.Lay
import Derived.LaidOnce
import Derived.SevenTiedAt
namespace Go.Proofs.YtigiolfloefjnaaGreatDoor
open Go.RowKit
def pfChars : List Char := [Char.ofNat 104, Char.ofNat 97, Char.ofNat 114, Char.ofNat 110, Char.ofNat 101, Char.ofNat 115, Char.ofNat 115, Char.ofNat 32, Char.ofNat 54, Char.ofNat 56, Char.ofNat 56, Char.ofNat 51, Char.ofNat 52, Char.ofNat 53, Char.ofNat 97, Char.ofNat 51, Char.ofNat 101, Char.ofNat 57, Char.ofNat 97, Char.ofNat 97, Char.ofNat 99, Char.ofNat 97, Char.ofNat 99, Char.ofNat 55, Char.ofNat 98, Char.ofNat 52, Char.ofNat 50, Char.ofNat 101, Char.ofNat 50, Char.ofNat 56, Char.ofNat 52, Char.ofNat 102, Char.ofNat 48, Char.ofNat 99, Char.ofNat 98, Char.ofNat 52, Char.ofNat 49, Char.ofNat 57, Char.ofNat 53, Char.ofNat 101, Char.ofNat 55, Char.ofNat 99, Char.ofNat 56, Char.ofNat 54, Char.ofNat 55, Char.ofNat 99, Char.ofNat 51, Char.ofNat 48, Char.ofNat 53, Char.ofNat 55, Char.ofNat 56, Char.ofNat 54, Char.ofNat 56, Char.ofNat 49, Char.ofNat 99, Char.ofNat 101, Char.ofNat 48, Char.ofNat 54, Char.ofNat 57, Char.ofNat 102, Char.ofNat 97, Char.ofNat 99, Char.ofNat 101, Char.ofNat 102, Char.ofNat 99, Char.ofNat 99, Char.ofNat 54, Char.ofNat 53, Char.ofNat 53, Char.ofNat 53, Char.ofNat 98, Char.ofNat 51, Char.ofNat 32, Char.ofNat 99, Char.ofNat 117, Char.ofNat 116, Char.ofNat 32, Char.ofNat 97, Char.ofNat 116, Char.ofNat 32, Char.ofNat 115, Char.ofNat 111, Char.ofNat 117, Char.ofNat 110, Char.ofNat 100, Char.ofNat 115, Char.ofNat 101, Char.ofNat 114, Char.ofNat 118, Char.ofNat 105, Char.ofNat 99, Char.ofNat 101, Char.ofNat 47, Char.ofNat 115, Char.ofNat 111, Char.ofNat 117, Char.ofNat 110, Char.ofNat 100, Char.ofNat 115, Char.ofNat 101, Char.ofNat 114, Char.ofNat 118, Char.ofNat 105, Char.ofNat 99, Char.ofNat 101, Char.ofNat 108, Char.ofNat 97, Char.ofNat 119, Char.ofNat 49, Char.ofNat 54, Char.ofNat 46, Char.ofNat 67, Char.ofNat 111, Char.ofNat 110, Char.ofNat 118, Char.ofNat 101, Char.ofNat 114, Char.ofNat 116, Char.ofNat 77, Char.ofNat 97, Char.ofNat 107, Char.ofNat 101, Char.ofNat 115, Char.ofNat 32, Char.ofNat 115, Char.ofNat 111, Char.ofNat 117, Char.ofNat 110, Char.ofNat 100, Char.ofNat 115, Char.ofNat 101, Char.ofNat 114, Char.ofNat 118, Char.ofNat 105, Char.ofNat 99, Char.ofNat 101, Char.ofNat 47, Char.ofNat 115, Char.ofNat 111, Char.ofNat 117, Char.ofNat 110, Char.ofNat 100, Char.ofNat 115, Char.ofNat 101, Char.ofNat 114, Char.ofNat 118, Char.ofNat 105, Char.ofNat 99, Char.ofNat 101, Char.ofNat 108, Char.ofNat 97, Char.ofNat 119, Char.ofNat 49, Char.ofNat 54, Char.ofNat 46, Char.ofNat 67, Char.ofNat 111, Char.ofNat 110, Char.ofNat 118, Char.ofNat 101, Char.ofNat 114, Char.ofNat 116, Char.ofNat 82, Char.ofNat 117, Char.ofNat 110, Char.ofNat 115]
theorem pf_io : Tryz.prog.initOrder = String.ofList pfChars := by kernel_rfl
theorem pf_tl : Tryz.prog.initOrder.toList = pfChars := (congrArg String.toList pf_io).trans String.toList_ofList
def pfWords : List (List Char) := [[Char.ofNat 99, Char.ofNat 117, Char.ofNat 116], [Char.ofNat 97, Char.ofNat 116], [Char.ofNat 115, Char.ofNat 111, Char.ofNat 117, Char.ofNat 110, Char.ofNat 100, Char.ofNat 115, Char.ofNat 101, Char.ofNat 114, Char.ofNat 118, Char.ofNat 105, Char.ofNat 99, Char.ofNat 101, Char.ofNat 47, Char.ofNat 115, Char.ofNat 111, Char.ofNat 117, Char.ofNat 110, Char.ofNat 100, Char.ofNat 115, Char.ofNat 101, Char.ofNat 114, Char.ofNat 118, Char.ofNat 105, Char.ofNat 99, Char.ofNat 101, Char.ofNat 108, Char.ofNat 97, Char.ofNat 119, Char.ofNat 49, Char.ofNat 54, Char.ofNat 46, Char.ofNat 67, Char.ofNat 111, Char.ofNat 110, Char.ofNat 118, Char.ofNat 101, Char.ofNat 114, Char.ofNat 116, Char.ofNat 77, Char.ofNat 97, Char.ofNat 107, Char.ofNat 101, Char.ofNat 115], [Char.ofNat 115, Char.ofNat 111, Char.ofNat 117, Char.ofNat 110, Char.ofNat 100, Char.ofNat 115, Char.ofNat 101, Char.ofNat 114, Char.ofNat 118, Char.ofNat 105, Char.ofNat 99, Char.ofNat 101, Char.ofNat 47, Char.ofNat 115, Char.ofNat 111, Char.ofNat 117, Char.ofNat 110, Char.ofNat 100, Char.ofNat 115, Char.ofNat 101, Char.ofNat 114, Char.ofNat 118, Char.ofNat 105, Char.ofNat 99, Char.ofNat 101, Char.ofNat 108, Char.ofNat 97, Char.ofNat 119, Char.ofNat 49, Char.ofNat 54, Char.ofNat 46, Char.ofNat 67, Char.ofNat 111, Char.ofNat 110, Char.ofNat 118, Char.ofNat 101, Char.ofNat 114, Char.ofNat 116, Char.ofNat 82, Char.ofNat 117, Char.ofNat 110, Char.ofNat 115]]
theorem pf_w : behindMainWord (wordsSigns Tryz.prog.initOrder.toList) = pfWords := by rw [pf_tl]; kernel_rfl
theorem gmake (P : Program) (ws : List (List Char)) (h : behindMainWord (wordsSigns P.initOrder.toList) = ws) (hc : ∃ c rest, ws = c :: rest ∧ (c == "gc".toList || c == "spec".toList) = false ∧ (c == "cut".toList || c == "finals".toList && rest.head? == some "cut".toList) = true) : P.make = some .cut := by
 obtain ⟨c, rest, rfl, h1, h2⟩ := hc
 unfold Program.make
 rw [h]
 simp only [h1, h2]
 rfl
theorem genter (P : Program) (c : List Char) (rest : List (List Char)) (h : behindMainWord (wordsSigns P.initOrder.toList) = c :: rest) (hs : stripLifts liftWords (c :: rest) = ([], c :: rest)) (h1 : (c == "cut".toList) = true) (h2 : P.laysLater = false) (h3 : P.bearsReflect = false) (h4 : P.doorFits [] = true) : P.mayEnter = true := by
 unfold Program.mayEnter
 rw [h]
 simp only [hs, h2, h3, h4]
 have h5 : c = "cut".toList := eq_of_beq h1
 subst h5
 simp
theorem gfinal (P : Program) (c : List Char) (rest : List (List Char)) (h : behindMainWord (wordsSigns P.initOrder.toList) = c :: rest) (h1 : (c == "carried".toList) = false) (h2 : P.headLifts = []) : P.liftsFinal = false := by
 unfold Program.liftsFinal
 rw [h, h2]
 simp only [List.head?_cons]
 have : (some c == some "carried".toList) = false := h1
 rw [this]; rfl
theorem glifts (P : Program) (c : List Char) (rest : List (List Char)) (h : behindMainWord (wordsSigns P.initOrder.toList) = c :: rest) (hs : stripLifts liftWords (c :: rest) = ([], c :: rest)) : P.headLifts = [] := by
 unfold Program.headLifts
 rw [h, hs]
 show (if _ then [] else []) = []
 split <;> rfl
theorem pf_strip : stripLifts liftWords pfWords = ([], pfWords) := by kernel_rfl
theorem pf_lifts : Tryz.prog.headLifts = [] := glifts Tryz.prog _ _ pf_w pf_strip
theorem pf_make : Tryz.prog.make = some .cut := gmake Tryz.prog pfWords pf_w ⟨_, _, rfl, by kernel_rfl, by kernel_rfl⟩
theorem pf_final : Tryz.prog.liftsFinal = false := gfinal Tryz.prog _ _ pf_w (by kernel_rfl) pf_lifts
theorem pf_later : Tryz.prog.laysLater = false := by kernel_rfl
theorem pf_reflect : Tryz.prog.bearsReflect = false := by kernel_rfl
theorem pf_door : Tryz.prog.doorFits [] = true := by kernel_rfl
theorem pf_enter : Tryz.prog.mayEnter = true := genter Tryz.prog _ _ pf_w pf_strip (by kernel_rfl) pf_later pf_reflect pf_door
theorem pf_laid : laidOutB Tryz.prog = true := by kernel_rfl
theorem pf_maps : mapsRowed Tryz.prog = true := by kernel_rfl
theorem pf_heard : Tryz.prog.stopsHeard = true := by kernel_rfl
end Go.Proofs.YtigiolfloefjnaaGreatDoor
namespace Go.Proofs.YtigiolfloefjnaaGreatDoor
open Go.ChangeShapes Go.WideShapes Go.ChangeAt Go.RowKit
set_option linter.unusedVariables false
set_option linter.unusedSimpArgs false
theorem twoOf {α : Type} : ∀ {l : List α}, l.length = 2 → ∃ a b, l = [a, b]
 | [a, b], _ => ⟨a, b, rfl⟩
theorem var_heap {P : Program} {w : World} {name : String} {g : Nat} {arr : Array Value} (hg : P.globalNamed name = some g) (hv : w.var? P name = some arr) : ∃ T fz, w.heap[g]? = some (.cells arr T fz) := by
 unfold World.var? at hv
 rw [hg] at hv
 simp only [Option.bind_some] at hv
 split at hv
 ·rename_i cs T fz h; cases hv; exact ⟨T, fz, h⟩
 ·cases hv
theorem kind_elem {w : World} {fuel : Nat} {cs : List Value} {p : List MemPlace} {a : Int} {b : Bool} (h : DataW.trod (fun _ => ()) Tryz.prog w 0 (fun _ => true) false fuel 111 cs = some (.agg [.lit (.int .i64 a), .lit (.bool b)], p)) : cs = [.int .i64 a, .bool b] := by
 obtain ⟨xs, n, _, ex, hlen, hx, hel⟩ := DataW.trod_struct Tryz.underlying111 h
 obtain ⟨c0, c1, rfl⟩ := twoOf (show cs.length = 2 from hlen.trans zk)
 obtain ⟨x0, x1, rfl⟩ := twoOf (show xs.length = 2 from hx)
 obtain ⟨z0, a0, b0, _⟩ := DataW.trod_int Tryz.underlying3 (by simpa [show Tryz.prog.cellsOf 3 = 1 from by kernel_rfl] using hel 0 _ rfl)
 obtain ⟨z1, a1, b1⟩ := DataW.trod_bool Tryz.underlying4 (by simpa [show Tryz.prog.cellsOf 4 = 1 from by kernel_rfl] using hel 1 _ rfl)
 have e5 := DataW.agg.inj (Prod.mk.inj ex).1
 simp only [List.map_cons, List.map_nil, List.cons.injEq, and_true] at e5
 obtain ⟨e6, e7⟩ := e5
 subst b0
 subst b1
 simp at a0 a1 e6 e7
 simp_all
theorem kindsList {cs : List Value} (hl : cs.length = 16) {f : Nat → List Value} (h : ∀ i, i < 8 → (cs.drop (i * 2)).take 2 = f i) : cs = f 0 ++ f 1 ++ f 2 ++ f 3 ++ f 4 ++ f 5 ++ f 6 ++ f 7 := by
 have e : ∀ (n : Nat) (l : List Value), l = l.take 2 ++ l.drop 2 := fun n l => (List.take_append_drop 2 l).symm
 rw [← h 0 (by omega), ← h 1 (by omega), ← h 2 (by omega), ← h 3 (by omega), ← h 4 (by omega), ← h 5 (by omega), ← h 6 (by omega), ← h 7 (by omega)]
 match cs, hl with
 | [a0, a1, a2, a3, a4, a5, a6, a7, a8, a9, b0, b1, b2, b3, b4, b5], _ => rfl
theorem kinds_var {W : World} (h : laidMetH Tryz.prog [("soundservice/sample.kinds", Rows.laid_soundservice_sample_kinds)] W) : W.var? Tryz.prog "soundservice/sample.kinds" = some #[.int .i64 0, .bool false, .int .i64 1, .bool false, .int .i64 2, .bool false, .int .i64 2, .bool true, .int .i64 3, .bool false, .int .i64 3, .bool true, .int .i64 4, .bool false, .int .i64 4, .bool true] := by
 rw [MakeChecks.laidMetH_plain _ _ _ (by kernel_rfl)] at h
 obtain ⟨ps, ⟨g, t, cs, fuel, p, q, hg, ht, hv, hd, _, _⟩, _, _⟩ := h
 obtain rfl := Option.some.inj ((show Tryz.prog.globalNamed "soundservice/sample.kinds" = some 0 by kernel_rfl).symm.trans hg)
 obtain rfl := Option.some.inj ((show (Tryz.prog.globals[0]?).map (·.type) = some 112 by kernel_rfl).symm.trans ht)
 have c5 : Tryz.prog.cellsOf 111 = 2 := by kernel_rfl
 obtain ⟨xs, m, _, ex, hlen, hl, hel⟩ := DataW.trod_array Tryz.underlying112 hd
 rw [c5] at hel
 have hlen : cs.toList.length = 16 := hlen.trans (by kernel_rfl)
 have e3 := DataW.agg.inj (Prod.mk.inj ex).1
 have hx : ∀ (i : Nat) (a : Int) (b : Bool), i < 8 → (xs.map (·.1))[i]? = some (.agg [.lit (.int .i64 a), .lit (.bool b)]) → (cs.toList.drop (i * 2)).take 2 = [.int .i64 a, .bool b] := by
  intro i a b hi hxi
  rw [List.getElem?_map] at hxi
  obtain ⟨y, hy, hy2⟩ := Option.map_eq_some_iff.1 hxi
  have h1 := hel i hi
  rw [hy] at h1
  obtain ⟨y1, y2⟩ := y
  have hy2 : y1 = _ := hy2
  subst hy2
  exact kind_elem h1
 rw [← e3] at hx
 have hall := kindsList hlen (f := fun i => match i with | 0 => [.int .i64 0, .bool false] | 1 => [.int .i64 1, .bool false] | 2 => [.int .i64 2, .bool false] | 3 => [.int .i64 2, .bool true] | 4 => [.int .i64 3, .bool false] | 5 => [.int .i64 3, .bool true] | 6 => [.int .i64 4, .bool false] | _ => [.int .i64 4, .bool true]) (fun i hi => by
  match i, hi with
  | 0, _ => exact hx 0 0 false (by omega) rfl
  | 1, _ => exact hx 1 1 false (by omega) rfl
  | 2, _ => exact hx 2 2 false (by omega) rfl
  | 3, _ => exact hx 3 2 true (by omega) rfl
  | 4, _ => exact hx 4 3 false (by omega) rfl
  | 5, _ => exact hx 5 3 true (by omega) rfl
  | 6, _ => exact hx 6 4 false (by omega) rfl
  | 7, _ => exact hx 7 4 true (by omega) rfl)
 rw [hv]
 exact congrArg some (Array.ext' hall)
theorem gl_of_laid {W : World} (h : laidMetH Tryz.prog [("soundservice/sample.kinds", Rows.laid_soundservice_sample_kinds)] W) : GlOK (fun k => k < W.heap.size) W := by
 have hv := kinds_var h
 have hc := fun j => World.var?_cell (show Tryz.prog.globalNamed "soundservice/sample.kinds" = some 0 by kernel_rfl) hv j
 have h0 : 0 < W.heap.size := by
  have h1 := hc 0
  rcases Nat.lt_or_ge 0 W.heap.size with h2 | h2
  ·exact h2
  ·have h3 : W.heap[0]? = none := Array.getElem?_eq_none h2
   simp [World.cell?, h3] at h1
 intro q hq
 have hq : q = _ := List.mem_singleton.1 hq
 subst hq
 have hx := var_heap (show Tryz.prog.globalNamed "soundservice/sample.kinds" = some 0 by kernel_rfl) hv
 refine ⟨h0, h0, hx, fun i u hu => ⟨?_, ?_⟩⟩
 ·have hm := List.mem_of_getElem? hu
  have hall : (([.int .i64 0, .bool false, .int .i64 1, .bool false, .int .i64 2, .bool false, .int .i64 2, .bool true, .int .i64 3, .bool false, .int .i64 3, .bool true, .int .i64 4, .bool false, .int .i64 4, .bool true] : List Value).all fun v => v.oneCell') = true := by rfl
  exact List.all_eq_true.1 hall u hm
 ·rw [hc i]
  simpa using hu
end Go.Proofs.YtigiolfloefjnaaGreatDoor
namespace Go.Proofs.YtigiolfloefjnaaGreatDoor.convertMakes
open Go.ChangeShapes Go.WideShapes Go.ChangeAt Go.RowKit
open Go.ChangeMaps (open_string shut_string)
set_option linter.unusedVariables false
set_option linter.unusedSimpArgs false
def IsRow (k : IntKind) (w : World) (a : Option Addr) (len cap : Nat) (zs : List Int) : Prop :=
  (a = none ∧ len = 0 ∧ cap = 0 ∧ zs = []) ∨
  ∃ x, a = some x ∧ len ≤ cap ∧ cap ≤ maxLen ∧ zs.length = cap ∧ (∀ i, i < zs.length → w.cell? (x.add i) = some (.int k (zs.getD i 0))) ∧ ∀ n ∈ zs, (Lit.int k n).wf = true
theorem len_succ {α : Type} {n : Nat} : ∀ {l : List α}, l.length = n + 1 → ∃ a t, l = a :: t ∧ t.length = n
  | [], h => by cases h
  | a :: t, h => ⟨a, t, rfl, by simpa using h⟩
theorem walk (a0_0 : Int) (a0_1 : Int) (a0_2 : Option Addr) (len0_2 cap0_2 : Nat) (z0_2 : List Int) (a1_0 : Int) (a1_1 : Int) (a1_2 : Option Addr) (len1_2 cap1_2 : Nat) (z1_2 : List Int) (a2 : Option Addr) (len2 cap2 : Nat) (z2 : List Int) (a3_0 : Int) (a3_1 : Int) (a3_2 : Option Addr) (len3_2 cap3_2 : Nat) (z3_2 : List Int) (a3_3 : Int) (a3_4 : Int) (a3_5 : Option Addr) (len3_5 cap3_5 : Nat) (z3_5 : List Int) (a3_6 : Int) (a3_7 : Int) (a3_8 : Option Addr) (len3_8 cap3_8 : Nat) (z3_8 : List Int) (a3_9 : Int) (a3_10 : Int) (a3_11 : Int) (a3_12 : Int) (a3_13 : Int) (a3_14 : Int) (a3_15 : Option Addr) (len3_15 cap3_15 : Nat) (z3_15 : List Int) (w : World) (w0_0 : (Lit.int .i64 a0_0).wf = true) (w0_1 : (Lit.int .i64 a0_1).wf = true) (w0_2 : IsRow .i64 w a0_2 len0_2 cap0_2 z0_2) (w1_0 : (Lit.int .i64 a1_0).wf = true) (w1_1 : (Lit.int .i64 a1_1).wf = true) (w1_2 : IsRow .i64 w a1_2 len1_2 cap1_2 z1_2) (w2 : IsRow .u8 w a2 len2 cap2 z2) (w3_0 : (Lit.int .i64 a3_0).wf = true) (w3_1 : (Lit.int .i64 a3_1).wf = true) (w3_2 : IsRow .i64 w a3_2 len3_2 cap3_2 z3_2) (w3_3 : (Lit.int .i64 a3_3).wf = true) (w3_4 : (Lit.int .i64 a3_4).wf = true) (w3_5 : IsRow .i64 w a3_5 len3_5 cap3_5 z3_5) (w3_6 : (Lit.int .i64 a3_6).wf = true) (w3_7 : (Lit.int .i64 a3_7).wf = true) (w3_8 : IsRow .i64 w a3_8 len3_8 cap3_8 z3_8) (w3_9 : (Lit.int .i64 a3_9).wf = true) (w3_10 : (Lit.int .i64 a3_10).wf = true) (w3_11 : (Lit.int .i64 a3_11).wf = true) (w3_12 : (Lit.int .i64 a3_12).wf = true) (w3_13 : (Lit.int .i64 a3_13).wf = true) (w3_14 : (Lit.int .i64 a3_14).wf = true) (w3_15 : IsRow .i32 w a3_15 len3_15 cap3_15 z3_15) (hgl : GlOK (fun k => k < w.heap.size) w) :
    Calls Tryz.prog 3 #[.agg #[.int .i64 a0_0, .int .i64 a0_1, .slice a0_2 len0_2 cap0_2], .agg #[.int .i64 a1_0, .int .i64 a1_1, .slice a1_2 len1_2 cap1_2], .slice a2 len2 cap2, .agg #[.int .i64 a3_0, .int .i64 a3_1, .slice a3_2 len3_2 cap3_2, .int .i64 a3_3, .int .i64 a3_4, .slice a3_5 len3_5 cap3_5, .int .i64 a3_6, .int .i64 a3_7, .slice a3_8 len3_8 cap3_8, .int .i64 a3_9, .int .i64 a3_10, .int .i64 a3_11, .int .i64 a3_12, .int .i64 a3_13, .int .i64 a3_14, .slice a3_15 len3_15 cap3_15]] w fun e w' => e = .returned (.bool true) ∧ Below w.heap.size w w' := by
  exact convertMakes_walk (sl_of_row w0_2) (sl_of_row w1_2) (sl_of_row w2) (sl_of_row w3_2) (sl_of_row w3_5) (sl_of_row w3_8) (sl_of_row w3_15) hgl
set_option maxRecDepth 100000 in
theorem lifted (os : Os) (started : os.Started) (H : Type) (enc : TypeId × Value → H) :
    ReturnsInHanded {} Tryz.checked os 3 .any (fun w args => (Rows.convertMakesSpec.pre enc Tryz.prog Tryz.f3 [] false w args ∧ laidMetH Tryz.prog Rows.convertMakesRow.laid w) ∧ sizedMet enc Tryz.prog Tryz.f3 (OpenSpec.ofChange Rows.convertMakesSpec) false w args) (Rows.convertMakesSpec.post enc Tryz.prog Tryz.f3 false true false false) := by
  refine returnsInHanded_of_change_and (C := Tryz.checked) (X := fun w _ => laidMetH Tryz.prog Rows.convertMakesRow.laid w) (fun _ _ _ hh h => h.of_heap hh) own started (by kernel_rfl) Tryz.func3
    (ChangeSpec.witness_at (enc := enc) (C := Tryz.checked) (os := os) (X := fun w _ => laidMetH Tryz.prog Rows.convertMakesRow.laid w) false (World.laidAll Tryz.prog os Rows.convertMakesRow.laid) #[.agg #[.int .i64 0, .int .i64 0, .slice none 0 0], .agg #[.int .i64 0, .int .i64 0, .slice none 0 0], .slice none 0 0, .agg #[.int .i64 0, .int .i64 0, .slice none 0 0, .int .i64 0, .int .i64 0, .slice none 0 0, .int .i64 0, .int .i64 0, .slice none 0 0, .int .i64 0, .int .i64 0, .int .i64 0, .int .i64 0, .int .i64 0, .int .i64 0, .slice none 0 0]] 8 (World.laidAll_os _ _ _) (by kernel_rfl) (by kernel_rfl) (by kernel_rfl) (by kernel_rfl) (by kernel_rfl)
      (by rw [MakeChecks.laidMetH_plain _ _ _ (by kernel_rfl)]; exact laidMet_laidAll _ (by kernel_rfl) (by kernel_rfl))) ?_
  intro W base args ds gs before hval0 hW _ _ hL _
  have hval : ∀ (j : Nat) t v, Tryz.f3.params[j]? = some t → args[j]? = some v → Value.okWide Tryz.prog W .any base t v := hval0
  have hW' := hW
  obtain ⟨p, q, hA0, hV, rfl, hfz, hnd⟩ := hW
  have hA : DataW.TrodAll enc Tryz.prog W 0 (fun _ => true) true Tryz.f3.params.toList args.toList ds p := hA0
  rw [Tryz.params3] at hA hval
  obtain ⟨v0, vs0, d0, ds0, p0, q0, hargs, rfl, rfl, h0, r0⟩ := trodAll_cons hA
  obtain ⟨v1, vs1, d1, ds1, p1, q1, rfl, rfl, rfl, h1, r1⟩ := trodAll_cons r0
  obtain ⟨v2, vs2, d2, ds2, p2, q2, rfl, rfl, rfl, h2, r2⟩ := trodAll_cons r1
  obtain ⟨v3, vs3, d3, ds3, p3, q3, rfl, rfl, rfl, h3, r3⟩ := trodAll_cons r2
  obtain ⟨rfl, rfl, rfl⟩ := trodAll_nil r3
  obtain rfl : args = #[v0, v1, v2, v3] := by cases args; simp_all
  obtain ⟨rfl, rfl⟩ := trodVars_none hV
  have k0 := h0
  have lt0 : ∀ x ∈ p0, x.block < W.heap.size := by obtain ⟨m, hm⟩ := k0; exact DataW.trod_lt m _ _ _ hm
  obtain ⟨a0_0, a0_1, a0_2, len0_2, cap0_2, z0_2, rfl, w0_0, w0_1, w0_2⟩ : ∃ (a0_0 : Int) (a0_1 : Int) (a0_2 : Option Addr) (len0_2 cap0_2 : Nat) (z0_2 : List Int), v0 = .agg #[.int .i64 a0_0, .int .i64 a0_1, .slice a0_2 len0_2 cap0_2] ∧ (Lit.int .i64 a0_0).wf = true ∧ (Lit.int .i64 a0_1).wf = true ∧ IsRow .i64 W a0_2 len0_2 cap0_2 z0_2 := by
    obtain ⟨cs, e, hsz⟩ := okWide_struct Tryz.underlying24 (hval 0 24 v0 rfl rfl)
    subst e
    obtain ⟨l⟩ := cs
    have hl0 : l.length = 3 := hsz.trans (show Tryz.prog.cellsOf 24 = 3 by kernel_rfl)
    obtain ⟨c0, l0, el0, hl1⟩ := len_succ hl0
    obtain ⟨c1, l1, el1, hl2⟩ := len_succ hl1
    obtain ⟨c2, l2, el2, hl3⟩ := len_succ hl2
    have el3 := List.eq_nil_of_length_eq_zero hl3
    subst el3 el2 el1 el0
    obtain ⟨fuel, hf⟩ := h0
    obtain ⟨xs, nn, _, hx, _, hlen, hg⟩ := DataW.trod_struct Tryz.underlying24 hf
    clear hf
    have hx0 : xs.length = 3 := hlen
    obtain ⟨y0, xs0, ex0, hx1⟩ := len_succ hx0
    obtain ⟨y1, xs1, ex1, hx2⟩ := len_succ hx1
    obtain ⟨y2, xs2, ex2, hx3⟩ := len_succ hx2
    have ex3 := List.eq_nil_of_length_eq_zero hx3
    subst ex3 ex2 ex1 ex0
    obtain ⟨n0, e0, _, u0⟩ := DataW.trod_int Tryz.underlying3 (by simpa [Value.cells, show Tryz.prog.cellsOf 3 = 1 from by kernel_rfl] using hg 0 _ rfl)
    obtain ⟨n1, e1, _, u1⟩ := DataW.trod_int Tryz.underlying3 (by simpa [Value.cells, show Tryz.prog.cellsOf 3 = 1 from by kernel_rfl] using hg 1 _ rfl)
    have hs2 := hg 2 _ rfl
    simp [Value.cells, show Tryz.prog.cellsOf 22 = 1 from by kernel_rfl] at hs2
    obtain ⟨x2, l2x, k2x, q2, e2, u2⟩ : ∃ (x : Option Addr) (l c : Nat) (zs : List Int), [c2] = [Value.slice x l c] ∧ IsRow .i64 W x l c zs := by
      rcases open_ints Tryz.underlying22 Tryz.underlying3 (by kernel_rfl) hs2 with ⟨hcs, _⟩ | ⟨x, l, c, zs, hcs, _, hl, hm, hz, _, hcell, hwz⟩
      · exact ⟨none, 0, 0, [], hcs, .inl ⟨rfl, rfl, rfl, rfl⟩⟩
      · exact ⟨some x, l, c, zs, hcs, .inr ⟨x, rfl, hl, hm, by simpa using hz, hcell, hwz⟩⟩
    cases e0; cases e1; cases e2
    exact ⟨_, _, _, _, _, _, rfl, u0, u1, u2⟩
  have k1 := h1
  have lt1 : ∀ x ∈ p1, x.block < W.heap.size := by obtain ⟨m, hm⟩ := k1; exact DataW.trod_lt m _ _ _ hm
  obtain ⟨a1_0, a1_1, a1_2, len1_2, cap1_2, z1_2, rfl, w1_0, w1_1, w1_2⟩ : ∃ (a1_0 : Int) (a1_1 : Int) (a1_2 : Option Addr) (len1_2 cap1_2 : Nat) (z1_2 : List Int), v1 = .agg #[.int .i64 a1_0, .int .i64 a1_1, .slice a1_2 len1_2 cap1_2] ∧ (Lit.int .i64 a1_0).wf = true ∧ (Lit.int .i64 a1_1).wf = true ∧ IsRow .i64 W a1_2 len1_2 cap1_2 z1_2 := by
    obtain ⟨cs, e, hsz⟩ := okWide_struct Tryz.underlying24 (hval 1 24 v1 rfl rfl)
    subst e
    obtain ⟨l⟩ := cs
    have hl0 : l.length = 3 := hsz.trans (show Tryz.prog.cellsOf 24 = 3 by kernel_rfl)
    obtain ⟨c0, l0, el0, hl1⟩ := len_succ hl0
    obtain ⟨c1, l1, el1, hl2⟩ := len_succ hl1
    obtain ⟨c2, l2, el2, hl3⟩ := len_succ hl2
    have el3 := List.eq_nil_of_length_eq_zero hl3
    subst el3 el2 el1 el0
    obtain ⟨fuel, hf⟩ := h1
    obtain ⟨xs, nn, _, hx, _, hlen, hg⟩ := DataW.trod_struct Tryz.underlying24 hf
    clear hf
    have hx0 : xs.length = 3 := hlen
    obtain ⟨y0, xs0, ex0, hx1⟩ := len_succ hx0
    obtain ⟨y1, xs1, ex1, hx2⟩ := len_succ hx1
    obtain ⟨y2, xs2, ex2, hx3⟩ := len_succ hx2
    have ex3 := List.eq_nil_of_length_eq_zero hx3
    subst ex3 ex2 ex1 ex0
    obtain ⟨n0, e0, _, u0⟩ := DataW.trod_int Tryz.underlying3 (by simpa [Value.cells, show Tryz.prog.cellsOf 3 = 1 from by kernel_rfl] using hg 0 _ rfl)
    obtain ⟨n1, e1, _, u1⟩ := DataW.trod_int Tryz.underlying3 (by simpa [Value.cells, show Tryz.prog.cellsOf 3 = 1 from by kernel_rfl] using hg 1 _ rfl)
    have hs2 := hg 2 _ rfl
    simp [Value.cells, show Tryz.prog.cellsOf 22 = 1 from by kernel_rfl] at hs2
    obtain ⟨x2, l2x, k2x, q2, e2, u2⟩ : ∃ (x : Option Addr) (l c : Nat) (zs : List Int), [c2] = [Value.slice x l c] ∧ IsRow .i64 W x l c zs := by
      rcases open_ints Tryz.underlying22 Tryz.underlying3 (by kernel_rfl) hs2 with ⟨hcs, _⟩ | ⟨x, l, c, zs, hcs, _, hl, hm, hz, _, hcell, hwz⟩
      · exact ⟨none, 0, 0, [], hcs, .inl ⟨rfl, rfl, rfl, rfl⟩⟩
      · exact ⟨some x, l, c, zs, hcs, .inr ⟨x, rfl, hl, hm, by simpa using hz, hcell, hwz⟩⟩
    cases e0; cases e1; cases e2
    exact ⟨_, _, _, _, _, _, rfl, u0, u1, u2⟩
  obtain ⟨a2, len2, cap2, rfl⟩ := okWide_slice Tryz.underlying25 (hval 2 25 v2 rfl rfl)
  have k2 := h2
  have lt2 : ∀ x ∈ p2, x.block < W.heap.size := by obtain ⟨m, hm⟩ := k2; exact DataW.trod_lt m _ _ _ hm
  obtain ⟨z2, w2⟩ : ∃ zs, IsRow .u8 W a2 len2 cap2 zs := by
    obtain ⟨fuel, hf⟩ := h2
    rcases open_ints Tryz.underlying25 Tryz.underlying5 (by kernel_rfl) hf with ⟨hcs, _⟩ | ⟨x, l, c, zs, hcs, _, hl, hm, hz, _, hcell, hwz⟩
    · simp [Value.cells] at hcs
      obtain ⟨rfl, rfl, rfl⟩ := hcs
      exact ⟨[], .inl ⟨rfl, rfl, rfl, rfl⟩⟩
    · simp [Value.cells] at hcs
      obtain ⟨rfl, rfl, rfl⟩ := hcs
      exact ⟨zs, .inr ⟨_, rfl, hl, hm, by simpa using hz, hcell, hwz⟩⟩
  have k3 := h3
  have lt3 : ∀ x ∈ p3, x.block < W.heap.size := by obtain ⟨m, hm⟩ := k3; exact DataW.trod_lt m _ _ _ hm
  obtain ⟨a3_0, a3_1, a3_2, len3_2, cap3_2, z3_2, a3_3, a3_4, a3_5, len3_5, cap3_5, z3_5, a3_6, a3_7, a3_8, len3_8, cap3_8, z3_8, a3_9, a3_10, a3_11, a3_12, a3_13, a3_14, a3_15, len3_15, cap3_15, z3_15, rfl, w3_0, w3_1, w3_2, w3_3, w3_4, w3_5, w3_6, w3_7, w3_8, w3_9, w3_10, w3_11, w3_12, w3_13, w3_14, w3_15⟩ : ∃ (a3_0 : Int) (a3_1 : Int) (a3_2 : Option Addr) (len3_2 cap3_2 : Nat) (z3_2 : List Int) (a3_3 : Int) (a3_4 : Int) (a3_5 : Option Addr) (len3_5 cap3_5 : Nat) (z3_5 : List Int) (a3_6 : Int) (a3_7 : Int) (a3_8 : Option Addr) (len3_8 cap3_8 : Nat) (z3_8 : List Int) (a3_9 : Int) (a3_10 : Int) (a3_11 : Int) (a3_12 : Int) (a3_13 : Int) (a3_14 : Int) (a3_15 : Option Addr) (len3_15 cap3_15 : Nat) (z3_15 : List Int), v3 = .agg #[.int .i64 a3_0, .int .i64 a3_1, .slice a3_2 len3_2 cap3_2, .int .i64 a3_3, .int .i64 a3_4, .slice a3_5 len3_5 cap3_5, .int .i64 a3_6, .int .i64 a3_7, .slice a3_8 len3_8 cap3_8, .int .i64 a3_9, .int .i64 a3_10, .int .i64 a3_11, .int .i64 a3_12, .int .i64 a3_13, .int .i64 a3_14, .slice a3_15 len3_15 cap3_15] ∧ (Lit.int .i64 a3_0).wf = true ∧ (Lit.int .i64 a3_1).wf = true ∧ IsRow .i64 W a3_2 len3_2 cap3_2 z3_2 ∧ (Lit.int .i64 a3_3).wf = true ∧ (Lit.int .i64 a3_4).wf = true ∧ IsRow .i64 W a3_5 len3_5 cap3_5 z3_5 ∧ (Lit.int .i64 a3_6).wf = true ∧ (Lit.int .i64 a3_7).wf = true ∧ IsRow .i64 W a3_8 len3_8 cap3_8 z3_8 ∧ (Lit.int .i64 a3_9).wf = true ∧ (Lit.int .i64 a3_10).wf = true ∧ (Lit.int .i64 a3_11).wf = true ∧ (Lit.int .i64 a3_12).wf = true ∧ (Lit.int .i64 a3_13).wf = true ∧ (Lit.int .i64 a3_14).wf = true ∧ IsRow .i32 W a3_15 len3_15 cap3_15 z3_15 := by
    obtain ⟨cs, e, hsz⟩ := okWide_struct Tryz.underlying36 (hval 3 36 v3 rfl rfl)
    subst e
    obtain ⟨l⟩ := cs
    have hl0 : l.length = 16 := hsz.trans (show Tryz.prog.cellsOf 36 = 16 by kernel_rfl)
    obtain ⟨c0, l0, el0, hl1⟩ := len_succ hl0
    obtain ⟨c1, l1, el1, hl2⟩ := len_succ hl1
    obtain ⟨c2, l2, el2, hl3⟩ := len_succ hl2
    obtain ⟨c3, l3, el3, hl4⟩ := len_succ hl3
    obtain ⟨c4, l4, el4, hl5⟩ := len_succ hl4
    obtain ⟨c5, l5, el5, hl6⟩ := len_succ hl5
    obtain ⟨c6, l6, el6, hl7⟩ := len_succ hl6
    obtain ⟨c7, l7, el7, hl8⟩ := len_succ hl7
    obtain ⟨c8, l8, el8, hl9⟩ := len_succ hl8
    obtain ⟨c9, l9, el9, hl10⟩ := len_succ hl9
    obtain ⟨c10, l10, el10, hl11⟩ := len_succ hl10
    obtain ⟨c11, l11, el11, hl12⟩ := len_succ hl11
    obtain ⟨c12, l12, el12, hl13⟩ := len_succ hl12
    obtain ⟨c13, l13, el13, hl14⟩ := len_succ hl13
    obtain ⟨c14, l14, el14, hl15⟩ := len_succ hl14
    obtain ⟨c15, l15, el15, hl16⟩ := len_succ hl15
    have el16 := List.eq_nil_of_length_eq_zero hl16
    subst el16 el15 el14 el13 el12 el11 el10 el9 el8 el7 el6 el5 el4 el3 el2 el1 el0
    obtain ⟨fuel, hf⟩ := h3
    obtain ⟨xs, nn, _, hx, _, hlen, hg⟩ := DataW.trod_struct Tryz.underlying36 hf
    clear hf
    have hx0 : xs.length = 4 := hlen
    obtain ⟨y0, xs0, ex0, hx1⟩ := len_succ hx0
    obtain ⟨y1, xs1, ex1, hx2⟩ := len_succ hx1
    obtain ⟨y2, xs2, ex2, hx3⟩ := len_succ hx2
    obtain ⟨y3, xs3, ex3, hx4⟩ := len_succ hx3
    have ex4 := List.eq_nil_of_length_eq_zero hx4
    subst ex4 ex3 ex2 ex1 ex0
    have hq0 := hg 0 _ rfl
    simp [Value.cells, show Tryz.prog.cellsOf 24 = 3 from by kernel_rfl] at hq0
    obtain ⟨zs0, nn0, _, hz0x, _, hlen0, hg0⟩ := DataW.trod_struct Tryz.underlying24 hq0
    have hz0_0 : zs0.length = 3 := hlen0
    obtain ⟨yy0_0, zs0_0, ez0_0, hz0_1⟩ := len_succ hz0_0
    obtain ⟨yy0_1, zs0_1, ez0_1, hz0_2⟩ := len_succ hz0_1
    obtain ⟨yy0_2, zs0_2, ez0_2, hz0_3⟩ := len_succ hz0_2
    have ez0_3 := List.eq_nil_of_length_eq_zero hz0_3
    subst ez0_3 ez0_2 ez0_1 ez0_0
    obtain ⟨n0, e0, _, u0⟩ := DataW.trod_int Tryz.underlying3 (by simpa [Value.cells, show Tryz.prog.cellsOf 3 = 1 from by kernel_rfl] using hg0 0 _ rfl)
    obtain ⟨n1, e1, _, u1⟩ := DataW.trod_int Tryz.underlying3 (by simpa [Value.cells, show Tryz.prog.cellsOf 3 = 1 from by kernel_rfl] using hg0 1 _ rfl)
    have hs2 := hg0 2 _ rfl
    simp [Value.cells, show Tryz.prog.cellsOf 22 = 1 from by kernel_rfl] at hs2
    obtain ⟨x2, l2x, k2x, q2, e2, u2⟩ : ∃ (x : Option Addr) (l c : Nat) (zs : List Int), [c2] = [Value.slice x l c] ∧ IsRow .i64 W x l c zs := by
      rcases open_ints Tryz.underlying22 Tryz.underlying3 (by kernel_rfl) hs2 with ⟨hcs, _⟩ | ⟨x, l, c, zs, hcs, _, hl, hm, hz, _, hcell, hwz⟩
      · exact ⟨none, 0, 0, [], hcs, .inl ⟨rfl, rfl, rfl, rfl⟩⟩
      · exact ⟨some x, l, c, zs, hcs, .inr ⟨x, rfl, hl, hm, by simpa using hz, hcell, hwz⟩⟩
    have hq1 := hg 1 _ rfl
    simp [Value.cells, show Tryz.prog.cellsOf 24 = 3 from by kernel_rfl] at hq1
    obtain ⟨zs1, nn1, _, hz1x, _, hlen1, hg1⟩ := DataW.trod_struct Tryz.underlying24 hq1
    have hz1_0 : zs1.length = 3 := hlen1
    obtain ⟨yy1_0, zs1_0, ez1_0, hz1_1⟩ := len_succ hz1_0
    obtain ⟨yy1_1, zs1_1, ez1_1, hz1_2⟩ := len_succ hz1_1
    obtain ⟨yy1_2, zs1_2, ez1_2, hz1_3⟩ := len_succ hz1_2
    have ez1_3 := List.eq_nil_of_length_eq_zero hz1_3
    subst ez1_3 ez1_2 ez1_1 ez1_0
    obtain ⟨n3, e3, _, u3⟩ := DataW.trod_int Tryz.underlying3 (by simpa [Value.cells, show Tryz.prog.cellsOf 3 = 1 from by kernel_rfl] using hg1 0 _ rfl)
    obtain ⟨n4, e4, _, u4⟩ := DataW.trod_int Tryz.underlying3 (by simpa [Value.cells, show Tryz.prog.cellsOf 3 = 1 from by kernel_rfl] using hg1 1 _ rfl)
    have hs5 := hg1 2 _ rfl
    simp [Value.cells, show Tryz.prog.cellsOf 22 = 1 from by kernel_rfl] at hs5
    obtain ⟨x5, l5x, k5x, q5, e5, u5⟩ : ∃ (x : Option Addr) (l c : Nat) (zs : List Int), [c5] = [Value.slice x l c] ∧ IsRow .i64 W x l c zs := by
      rcases open_ints Tryz.underlying22 Tryz.underlying3 (by kernel_rfl) hs5 with ⟨hcs, _⟩ | ⟨x, l, c, zs, hcs, _, hl, hm, hz, _, hcell, hwz⟩
      · exact ⟨none, 0, 0, [], hcs, .inl ⟨rfl, rfl, rfl, rfl⟩⟩
      · exact ⟨some x, l, c, zs, hcs, .inr ⟨x, rfl, hl, hm, by simpa using hz, hcell, hwz⟩⟩
    have hq2 := hg 2 _ rfl
    simp [Value.cells, show Tryz.prog.cellsOf 27 = 3 from by kernel_rfl] at hq2
    obtain ⟨zs2, nn2, _, hz2x, _, hlen2, hg2⟩ := DataW.trod_struct Tryz.underlying27 hq2
    have hz2_0 : zs2.length = 3 := hlen2
    obtain ⟨yy2_0, zs2_0, ez2_0, hz2_1⟩ := len_succ hz2_0
    obtain ⟨yy2_1, zs2_1, ez2_1, hz2_2⟩ := len_succ hz2_1
    obtain ⟨yy2_2, zs2_2, ez2_2, hz2_3⟩ := len_succ hz2_2
    have ez2_3 := List.eq_nil_of_length_eq_zero hz2_3
    subst ez2_3 ez2_2 ez2_1 ez2_0
    obtain ⟨n6, e6, _, u6⟩ := DataW.trod_int Tryz.underlying3 (by simpa [Value.cells, show Tryz.prog.cellsOf 3 = 1 from by kernel_rfl] using hg2 0 _ rfl)
    obtain ⟨n7, e7, _, u7⟩ := DataW.trod_int Tryz.underlying3 (by simpa [Value.cells, show Tryz.prog.cellsOf 3 = 1 from by kernel_rfl] using hg2 1 _ rfl)
    have hs8 := hg2 2 _ rfl
    simp [Value.cells, show Tryz.prog.cellsOf 22 = 1 from by kernel_rfl] at hs8
    obtain ⟨x8, l8x, k8x, q8, e8, u8⟩ : ∃ (x : Option Addr) (l c : Nat) (zs : List Int), [c8] = [Value.slice x l c] ∧ IsRow .i64 W x l c zs := by
      rcases open_ints Tryz.underlying22 Tryz.underlying3 (by kernel_rfl) hs8 with ⟨hcs, _⟩ | ⟨x, l, c, zs, hcs, _, hl, hm, hz, _, hcell, hwz⟩
      · exact ⟨none, 0, 0, [], hcs, .inl ⟨rfl, rfl, rfl, rfl⟩⟩
      · exact ⟨some x, l, c, zs, hcs, .inr ⟨x, rfl, hl, hm, by simpa using hz, hcell, hwz⟩⟩
    have hq3 := hg 3 _ rfl
    simp [Value.cells, show Tryz.prog.cellsOf 34 = 7 from by kernel_rfl] at hq3
    obtain ⟨zs3, nn3, _, hz3x, _, hlen3, hg3⟩ := DataW.trod_struct Tryz.underlying34 hq3
    have hz3_0 : zs3.length = 3 := hlen3
    obtain ⟨yy3_0, zs3_0, ez3_0, hz3_1⟩ := len_succ hz3_0
    obtain ⟨yy3_1, zs3_1, ez3_1, hz3_2⟩ := len_succ hz3_1
    obtain ⟨yy3_2, zs3_2, ez3_2, hz3_3⟩ := len_succ hz3_2
    have ez3_3 := List.eq_nil_of_length_eq_zero hz3_3
    subst ez3_3 ez3_2 ez3_1 ez3_0
    obtain ⟨n9, e9, _, u9⟩ := DataW.trod_int Tryz.underlying3 (by simpa [Value.cells, show Tryz.prog.cellsOf 3 = 1 from by kernel_rfl] using hg3 0 _ rfl)
    have hq3n1 := hg3 1 _ rfl
    simp [Value.cells, show Tryz.prog.cellsOf 31 = 5 from by kernel_rfl] at hq3n1
    obtain ⟨zs3n1, nn3n1, _, hz3n1x, _, hlen3n1, hg3n1⟩ := DataW.trod_struct Tryz.underlying31 hq3n1
    have hz3n1_0 : zs3n1.length = 4 := hlen3n1
    obtain ⟨yy3n1_0, zs3n1_0, ez3n1_0, hz3n1_1⟩ := len_succ hz3n1_0
    obtain ⟨yy3n1_1, zs3n1_1, ez3n1_1, hz3n1_2⟩ := len_succ hz3n1_1
    obtain ⟨yy3n1_2, zs3n1_2, ez3n1_2, hz3n1_3⟩ := len_succ hz3n1_2
    obtain ⟨yy3n1_3, zs3n1_3, ez3n1_3, hz3n1_4⟩ := len_succ hz3n1_3
    have ez3n1_4 := List.eq_nil_of_length_eq_zero hz3n1_4
    subst ez3n1_4 ez3n1_3 ez3n1_2 ez3n1_1 ez3n1_0
    have hq3n1n0 := hg3n1 0 _ rfl
    simp [Value.cells, show Tryz.prog.cellsOf 29 = 2 from by kernel_rfl] at hq3n1n0
    obtain ⟨zs3n1n0, nn3n1n0, _, hz3n1n0x, _, hlen3n1n0, hg3n1n0⟩ := DataW.trod_struct Tryz.underlying29 hq3n1n0
    have hz3n1n0_0 : zs3n1n0.length = 2 := hlen3n1n0
    obtain ⟨yy3n1n0_0, zs3n1n0_0, ez3n1n0_0, hz3n1n0_1⟩ := len_succ hz3n1n0_0
    obtain ⟨yy3n1n0_1, zs3n1n0_1, ez3n1n0_1, hz3n1n0_2⟩ := len_succ hz3n1n0_1
    have ez3n1n0_2 := List.eq_nil_of_length_eq_zero hz3n1n0_2
    subst ez3n1n0_2 ez3n1n0_1 ez3n1n0_0
    obtain ⟨n10, e10, _, u10⟩ := DataW.trod_int Tryz.underlying2 (by simpa [Value.cells, show Tryz.prog.cellsOf 2 = 1 from by kernel_rfl] using hg3n1n0 0 _ rfl)
    obtain ⟨n11, e11, _, u11⟩ := DataW.trod_int Tryz.underlying2 (by simpa [Value.cells, show Tryz.prog.cellsOf 2 = 1 from by kernel_rfl] using hg3n1n0 1 _ rfl)
    obtain ⟨n12, e12, _, u12⟩ := DataW.trod_int Tryz.underlying3 (by simpa [Value.cells, show Tryz.prog.cellsOf 3 = 1 from by kernel_rfl] using hg3n1 1 _ rfl)
    obtain ⟨n13, e13, _, u13⟩ := DataW.trod_int Tryz.underlying2 (by simpa [Value.cells, show Tryz.prog.cellsOf 2 = 1 from by kernel_rfl] using hg3n1 2 _ rfl)
    obtain ⟨n14, e14, _, u14⟩ := DataW.trod_int Tryz.underlying2 (by simpa [Value.cells, show Tryz.prog.cellsOf 2 = 1 from by kernel_rfl] using hg3n1 3 _ rfl)
    have hs15 := hg3 2 _ rfl
    simp [Value.cells, show Tryz.prog.cellsOf 32 = 1 from by kernel_rfl] at hs15
    obtain ⟨x15, l15x, k15x, q15, e15, u15⟩ : ∃ (x : Option Addr) (l c : Nat) (zs : List Int), [c15] = [Value.slice x l c] ∧ IsRow .i32 W x l c zs := by
      rcases open_ints Tryz.underlying32 Tryz.underlying21 (by kernel_rfl) hs15 with ⟨hcs, _⟩ | ⟨x, l, c, zs, hcs, _, hl, hm, hz, _, hcell, hwz⟩
      · exact ⟨none, 0, 0, [], hcs, .inl ⟨rfl, rfl, rfl, rfl⟩⟩
      · exact ⟨some x, l, c, zs, hcs, .inr ⟨x, rfl, hl, hm, by simpa using hz, hcell, hwz⟩⟩
    cases e0; cases e1; cases e2; cases e3; cases e4; cases e5; cases e6; cases e7; cases e8; cases e9; cases e10; cases e11; cases e12; cases e13; cases e14; cases e15
    exact ⟨_, _, _, _, _, _, _, _, _, _, _, _, _, _, _, _, _, _, _, _, _, _, _, _, _, _, _, _, rfl, u0, u1, u2, u3, u4, u5, u6, u7, u8, u9, u10, u11, u12, u13, u14, u15⟩
  clear hA0 hval0
  refine (walk a0_0 a0_1 a0_2 len0_2 cap0_2 z0_2 a1_0 a1_1 a1_2 len1_2 cap1_2 z1_2 a2 len2 cap2 z2 a3_0 a3_1 a3_2 len3_2 cap3_2 z3_2 a3_3 a3_4 a3_5 len3_5 cap3_5 z3_5 a3_6 a3_7 a3_8 len3_8 cap3_8 z3_8 a3_9 a3_10 a3_11 a3_12 a3_13 a3_14 a3_15 len3_15 cap3_15 z3_15 W w0_0 w0_1 w0_2 w1_0 w1_1 w1_2 w2 w3_0 w3_1 w3_2 w3_3 w3_4 w3_5 w3_6 w3_7 w3_8 w3_9 w3_10 w3_11 w3_12 w3_13 w3_14 w3_15 (gl_of_laid hL)).mono fun e W' ⟨he, bel⟩ => ?_
  subst he
  exact ⟨_, rfl, _, _, _, [], _, [], hW', trodAll_mk1 (shut_bool Tryz.underlying4 _), (trodAll_cons_mk (Below.trod laidOut (by kernel_rfl) (of_decide_eq_true (by kernel_rfl)) k0 bel lt0) (trodAll_cons_mk (Below.trod laidOut (by kernel_rfl) (of_decide_eq_true (by kernel_rfl)) k1 bel lt1) (trodAll_cons_mk (Below.trod laidOut (by kernel_rfl) (of_decide_eq_true (by kernel_rfl)) k2 bel lt2) (trodAll_cons_mk (Below.trod laidOut (by kernel_rfl) (of_decide_eq_true (by kernel_rfl)) k3 bel lt3) trodAll_mk0)))), rfl, bel.frame _, fun h => by cases h⟩
theorem closed : joinedFacts Tryz.prog 3 Tryz.f3 Rows.convertMakesSpec Rows.convertMakesRow = true := by
  simp only [joinedFacts, Bool.and_eq_true]
  repeat' apply And.intro
  · kernel_rfl
  · exact pf_laid
  · exact pf_maps
  · kernel_rfl
  · kernel_rfl
  · kernel_rfl
  · kernel_rfl
  · kernel_rfl
  · kernel_rfl
  · kernel_rfl
  · kernel_rfl
  · kernel_rfl
  · kernel_rfl
  · kernel_rfl
  · kernel_rfl
  · kernel_rfl
  · kernel_rfl
  · kernel_rfl
  · kernel_rfl
  · kernel_rfl
  · kernel_rfl
  · kernel_rfl
  · kernel_rfl
  · kernel_rfl
  · exact pf_heard
  · exact pf_enter
  · exact (congrArg (fun b => (Rows.convertMakesRow.lifted == b)) pf_final).trans (by kernel_rfl)
  · exact (congrArg (fun m => (m == some Rows.convertMakesRow.make)) pf_make).trans (by kernel_rfl)
  all_goals kernel_rfl
theorem over : Rows.convertMakesRow.holds Tryz.pinned (OpenSpec.ofChange Rows.convertMakesSpec) :=
  OpenClaim.holds_of_wide 3 Tryz.f3 rfl rfl rfl rfl rfl rfl rfl ⟨rfl, rfl, rfl, rfl, rfl⟩ rfl rfl rfl rfl rfl (by kernel_rfl) Tryz.func3 closed
    (of_decide_eq_true (by kernel_rfl)) (by unfold Func.isWrapper; first | (rw [if_pos (by decide +kernel)]; kernel_rfl) | (rw [if_neg (by decide +kernel)]; exact ⟨rfl, rfl⟩))
    (fun os started H enc _ => lifted os started H enc)
theorem proved : Rows.ConvertMakesCardSaid :=
  Claim7.holds_tied_plain_at .later [] [.data] true (true, "688345a3e9aacac7b42e284f0cb4195e7c867c30578681ce069facefcc6555b3") false over (fun _ h => by cases h) (by kernel_rfl) (fun _ h => by cases h) convertMakes_row_tie rfl ⟨rfl, rfl⟩ (by kernel_rfl) rfl
    (fun f fn hf hfn => by
      obtain rfl : f = 3 := Option.some.inj ((show Tryz.prog.funcNamed "soundservice/soundservicelaw16.ConvertMakes" = some 3 by kernel_rfl).symm.trans hf) |>.symm
      obtain rfl : fn = Tryz.f3 := (Option.some.inj (Tryz.func3.symm.trans hfn)).symm
      exact ⟨by kernel_rfl, fun j t ht => by
        rw [Tryz.params3] at ht
        have hm : t ∈ [24, 24, 25, 36] := by simpa using Array.mem_of_getElem? ht
        have hall : ([24, 24, 25, 36].all fun u => !Tryz.prog.wantsStandIn u) = true := by kernel_rfl
        exact (show Tryz.prog.wantsStandIn t = false by simpa using List.all_eq_true.1 hall t hm)⟩)
    (by kernel_rfl)
#print axioms proved
end Go.Proofs.YtigiolfloefjnaaGreatDoor.convertMakes
