/- What is so of the whole program. No statement is proved here. -/
import Derived.Test.YtbkjhfjjkihebaaBase
import Derived.JoinedOf
import Derived.KernelRfl
namespace Go.Proofs.Ytbkjhfjjkihebaa
open Go.RowKit
def pfChars : List Char := [Char.ofNat 104, Char.ofNat 97, Char.ofNat 114, Char.ofNat 110, Char.ofNat 101, Char.ofNat 115, Char.ofNat 115, Char.ofNat 32, Char.ofNat 57, Char.ofNat 54, Char.ofNat 53, Char.ofNat 49, Char.ofNat 102, Char.ofNat 53, Char.ofNat 100, Char.ofNat 101, Char.ofNat 48, Char.ofNat 102, Char.ofNat 50, Char.ofNat 99, Char.ofNat 99, Char.ofNat 53, Char.ofNat 57, Char.ofNat 52, Char.ofNat 102, Char.ofNat 100, Char.ofNat 49, Char.ofNat 56, Char.ofNat 50, Char.ofNat 55, Char.ofNat 53, Char.ofNat 99, Char.ofNat 100, Char.ofNat 99, Char.ofNat 100, Char.ofNat 53, Char.ofNat 56, Char.ofNat 56, Char.ofNat 100, Char.ofNat 100, Char.ofNat 52, Char.ofNat 98, Char.ofNat 102, Char.ofNat 97, Char.ofNat 48, Char.ofNat 54, Char.ofNat 99, Char.ofNat 100, Char.ofNat 97, Char.ofNat 56, Char.ofNat 56, Char.ofNat 57, Char.ofNat 102, Char.ofNat 54, Char.ofNat 53, Char.ofNat 53, Char.ofNat 99, Char.ofNat 99, Char.ofNat 100, Char.ofNat 50, Char.ofNat 54, Char.ofNat 54, Char.ofNat 55, Char.ofNat 56, Char.ofNat 50, Char.ofNat 56, Char.ofNat 49, Char.ofNat 55, Char.ofNat 101, Char.ofNat 51, Char.ofNat 55, Char.ofNat 101, Char.ofNat 32, Char.ofNat 99, Char.ofNat 117, Char.ofNat 116, Char.ofNat 32, Char.ofNat 97, Char.ofNat 116, Char.ofNat 32, Char.ofNat 115, Char.ofNat 111, Char.ofNat 117, Char.ofNat 110, Char.ofNat 100, Char.ofNat 115, Char.ofNat 101, Char.ofNat 114, Char.ofNat 118, Char.ofNat 105, Char.ofNat 99, Char.ofNat 101, Char.ofNat 47, Char.ofNat 115, Char.ofNat 111, Char.ofNat 117, Char.ofNat 110, Char.ofNat 100, Char.ofNat 115, Char.ofNat 101, Char.ofNat 114, Char.ofNat 118, Char.ofNat 105, Char.ofNat 99, Char.ofNat 101, Char.ofNat 108, Char.ofNat 97, Char.ofNat 119, Char.ofNat 51, Char.ofNat 56, Char.ofNat 46, Char.ofNat 82, Char.ofNat 101, Char.ofNat 99, Char.ofNat 111, Char.ofNat 114, Char.ofNat 100, Char.ofNat 101, Char.ofNat 114, Char.ofNat 66, Char.ofNat 111, Char.ofNat 117, Char.ofNat 110, Char.ofNat 100, Char.ofNat 115]
theorem pf_io : Try.prog.initOrder = String.ofList pfChars := by kernel_rfl
theorem pf_tl : Try.prog.initOrder.toList = pfChars := (congrArg String.toList pf_io).trans String.toList_ofList
def pfWords : List (List Char) := [[Char.ofNat 99, Char.ofNat 117, Char.ofNat 116], [Char.ofNat 97, Char.ofNat 116], [Char.ofNat 115, Char.ofNat 111, Char.ofNat 117, Char.ofNat 110, Char.ofNat 100, Char.ofNat 115, Char.ofNat 101, Char.ofNat 114, Char.ofNat 118, Char.ofNat 105, Char.ofNat 99, Char.ofNat 101, Char.ofNat 47, Char.ofNat 115, Char.ofNat 111, Char.ofNat 117, Char.ofNat 110, Char.ofNat 100, Char.ofNat 115, Char.ofNat 101, Char.ofNat 114, Char.ofNat 118, Char.ofNat 105, Char.ofNat 99, Char.ofNat 101, Char.ofNat 108, Char.ofNat 97, Char.ofNat 119, Char.ofNat 51, Char.ofNat 56, Char.ofNat 46, Char.ofNat 82, Char.ofNat 101, Char.ofNat 99, Char.ofNat 111, Char.ofNat 114, Char.ofNat 100, Char.ofNat 101, Char.ofNat 114, Char.ofNat 66, Char.ofNat 111, Char.ofNat 117, Char.ofNat 110, Char.ofNat 100, Char.ofNat 115]]
theorem pf_w : behindMainWord (wordsSigns Try.prog.initOrder.toList) = pfWords := by rw [pf_tl]; kernel_rfl
theorem gmake (P : Program) (ws : List (List Char)) (h : behindMainWord (wordsSigns P.initOrder.toList) = ws) (hc : ∃ c rest, ws = c :: rest ∧ (c == "gc".toList || c == "spec".toList) = false ∧ (c == "cut".toList || c == "finals".toList && rest.head? == some "cut".toList) = true) : P.make = some .cut := by
  obtain ⟨c, rest, rfl, h1, h2⟩ := hc
  unfold Program.make
  rw [h]
  simp only [h1, h2]
  rfl
theorem genter (P : Program) (c : List Char) (rest : List (List Char)) (h : behindMainWord (wordsSigns P.initOrder.toList) = c :: rest) (hs : stripLifts liftWords (c :: rest) = ([], c :: rest)) (h1 : (c == "cut".toList) = true) (h2 : P.laysLater = false) (h3 : P.bearsReflect = false) (h4 : P.doorFits [] = true) : P.mayEnter = true := by
  unfold Program.mayEnter
  rw [h]
  simp only [hs, h2, h3, h4]
  have h5 : c = "cut".toList := eq_of_beq h1
  subst h5
  simp
theorem gfinal (P : Program) (c : List Char) (rest : List (List Char)) (h : behindMainWord (wordsSigns P.initOrder.toList) = c :: rest) (h1 : (c == "carried".toList) = false) (h2 : P.headLifts = []) : P.liftsFinal = false := by
  unfold Program.liftsFinal
  rw [h, h2]
  simp only [List.head?_cons]
  have : (some c == some "carried".toList) = false := h1
  rw [this]; rfl
theorem glifts (P : Program) (c : List Char) (rest : List (List Char)) (h : behindMainWord (wordsSigns P.initOrder.toList) = c :: rest) (hs : stripLifts liftWords (c :: rest) = ([], c :: rest)) : P.headLifts = [] := by
  unfold Program.headLifts
  rw [h, hs]
  show (if _ then [] else []) = []
  split <;> rfl
theorem pf_strip : stripLifts liftWords pfWords = ([], pfWords) := by kernel_rfl
theorem pf_lifts : Try.prog.headLifts = [] := glifts Try.prog _ _ pf_w pf_strip
theorem pf_make : Try.prog.make = some .cut := gmake Try.prog pfWords pf_w ⟨_, _, rfl, by kernel_rfl, by kernel_rfl⟩
theorem pf_final : Try.prog.liftsFinal = false := gfinal Try.prog _ _ pf_w (by kernel_rfl) pf_lifts
theorem pf_later : Try.prog.laysLater = false := by kernel_rfl
theorem pf_reflect : Try.prog.bearsReflect = false := by kernel_rfl
theorem pf_door : Try.prog.doorFits [] = true := by kernel_rfl
theorem pf_enter : Try.prog.mayEnter = true := genter Try.prog _ _ pf_w pf_strip (by kernel_rfl) pf_later pf_reflect pf_door
theorem pf_laid : laidOutB Try.prog = true := by kernel_rfl
theorem pf_maps : mapsRowed Try.prog = true := by kernel_rfl
theorem pf_keys : (true == Try.prog.plainKeys) = true := by kernel_rfl
theorem pf_heard : Try.prog.stopsHeard = true := by kernel_rfl
end Go.Proofs.Ytbkjhfjjkihebaa
