/- What is so of the whole program. No statement is proved here. -/
import Derived.Test.YtkjmlililpgamaaZBase
import Derived.JoinedOf
import Derived.KernelRfl
namespace Go.Proofs.Ytkjmlililpgamaa
open Go.RowKit
open Char renaming ofNat → ka1
def l5 : List Char := [ka1 104, ka1 97, ka1 114, ka1 110, ka1 101, ka1 115, ka1 115, ka1 32, ka1 57, ka1 101, ka1 102, ka1 50, ka1 98, ka1 48, ka1 48, ka1 99, ka1 101, ka1 98, ka1 100, ka1 100, ka1 56, ka1 102, ka1 101, ka1 98, ka1 52, ka1 52, ka1 48, ka1 97, ka1 55, ka1 101, ka1 49, ka1 101, ka1 50, ka1 50, ka1 49, ka1 99, ka1 50, ka1 50, ka1 56, ka1 56, ka1 48, ka1 55, ka1 54, ka1 100, ka1 52, ka1 102, ka1 52, ka1 54, ka1 56, ka1 52, ka1 53, ka1 49, ka1 102, ka1 55, ka1 99, ka1 102, ka1 54, ka1 55, ka1 101, ka1 98, ka1 54, ka1 51, ka1 53, ka1 48, ka1 99, ka1 101, ka1 101, ka1 56, ka1 52, ka1 51, ka1 101, ka1 53, ka1 32, ka1 99, ka1 117, ka1 116, ka1 32, ka1 97, ka1 116, ka1 32, ka1 115, ka1 111, ka1 117, ka1 110, ka1 100, ka1 115, ka1 101, ka1 114, ka1 118, ka1 105, ka1 99, ka1 101, ka1 47, ka1 115, ka1 111, ka1 117, ka1 110, ka1 100, ka1 115, ka1 101, ka1 114, ka1 118, ka1 105, ka1 99, ka1 101, ka1 108, ka1 97, ka1 119, ka1 51, ka1 48, ka1 46, ka1 67, ka1 104, ka1 111, ka1 105, ka1 99, ka1 101, ka1 115, ka1 82, ka1 101, ka1 109, ka1 101, ka1 109, ka1 98, ka1 101, ka1 114, ka1 32, ka1 115, ka1 111, ka1 117, ka1 110, ka1 100, ka1 115, ka1 101, ka1 114, ka1 118, ka1 105, ka1 99, ka1 101, ka1 47, ka1 115, ka1 111, ka1 117, ka1 110, ka1 100, ka1 115, ka1 101, ka1 114, ka1 118, ka1 105, ka1 99, ka1 101, ka1 108, ka1 97, ka1 119, ka1 51, ka1 48, ka1 46, ka1 67, ka1 104, ka1 111, ka1 105, ka1 99, ka1 101, ka1 115, ka1 70, ka1 117, ka1 108, ka1 108, ka1 32, ka1 115, ka1 111, ka1 117, ka1 110, ka1 100, ka1 115, ka1 101, ka1 114, ka1 118, ka1 105, ka1 99, ka1 101, ka1 47, ka1 115, ka1 111, ka1 117, ka1 110, ka1 100, ka1 115, ka1 101, ka1 114, ka1 118, ka1 105, ka1 99, ka1 101, ka1 108, ka1 97, ka1 119, ka1 51, ka1 48, ka1 46, ka1 67, ka1 104, ka1 111, ka1 105, ka1 99, ka1 101, ka1 115, ka1 76, ka1 97, ka1 115, ka1 116]
theorem k2e : Try.prog.initOrder = String.ofList l5 := by kernel_rfl
theorem k2d : Try.prog.initOrder.toList = l5 := (congrArg String.toList k2e).trans String.toList_ofList
def b6 : List (List Char) := [[ka1 99, ka1 117, ka1 116], [ka1 97, ka1 116], [ka1 115, ka1 111, ka1 117, ka1 110, ka1 100, ka1 115, ka1 101, ka1 114, ka1 118, ka1 105, ka1 99, ka1 101, ka1 47, ka1 115, ka1 111, ka1 117, ka1 110, ka1 100, ka1 115, ka1 101, ka1 114, ka1 118, ka1 105, ka1 99, ka1 101, ka1 108, ka1 97, ka1 119, ka1 51, ka1 48, ka1 46, ka1 67, ka1 104, ka1 111, ka1 105, ka1 99, ka1 101, ka1 115, ka1 82, ka1 101, ka1 109, ka1 101, ka1 109, ka1 98, ka1 101, ka1 114], [ka1 115, ka1 111, ka1 117, ka1 110, ka1 100, ka1 115, ka1 101, ka1 114, ka1 118, ka1 105, ka1 99, ka1 101, ka1 47, ka1 115, ka1 111, ka1 117, ka1 110, ka1 100, ka1 115, ka1 101, ka1 114, ka1 118, ka1 105, ka1 99, ka1 101, ka1 108, ka1 97, ka1 119, ka1 51, ka1 48, ka1 46, ka1 67, ka1 104, ka1 111, ka1 105, ka1 99, ka1 101, ka1 115, ka1 70, ka1 117, ka1 108, ka1 108], [ka1 115, ka1 111, ka1 117, ka1 110, ka1 100, ka1 115, ka1 101, ka1 114, ka1 118, ka1 105, ka1 99, ka1 101, ka1 47, ka1 115, ka1 111, ka1 117, ka1 110, ka1 100, ka1 115, ka1 101, ka1 114, ka1 118, ka1 105, ka1 99, ka1 101, ka1 108, ka1 97, ka1 119, ka1 51, ka1 48, ka1 46, ka1 67, ka1 104, ka1 111, ka1 105, ka1 99, ka1 101, ka1 115, ka1 76, ka1 97, ka1 115, ka1 116]]
theorem wH : behindMainWord (wordsSigns Try.prog.initOrder.toList) = b6 := by rw [k2d]; kernel_rfl
theorem k2o (P : Program) (ws : List (List Char)) (h : behindMainWord (wordsSigns P.initOrder.toList) = ws) (hc : ∃ c rest, ws = c :: rest ∧ (c == "gc".toList || c == "spec".toList) = false ∧ (c == "cut".toList || c == "finals".toList && rest.head? == some "cut".toList) = true) : P.make = some .cut := by
 obtain ⟨c, rest, rfl, h1, h2⟩ := hc
 unfold Program.make
 rw [h]
 simp only [h1, h2]
 rfl
theorem k0n (P : Program) (c : List Char) (rest : List (List Char)) (h : behindMainWord (wordsSigns P.initOrder.toList) = c :: rest) (hs : stripLifts liftWords (c :: rest) = ([], c :: rest)) (h1 : (c == "cut".toList) = true) (h2 : P.laysLater = false) (h3 : P.bearsReflect = false) (h4 : P.doorFits [] = true) : P.mayEnter = true := by
 unfold Program.mayEnter
 rw [h]
 simp only [hs, h2, h3, h4]
 have h5 : c = "cut".toList := eq_of_beq h1
 subst h5
 simp
theorem k0m (P : Program) (c : List Char) (rest : List (List Char)) (h : behindMainWord (wordsSigns P.initOrder.toList) = c :: rest) (h1 : (c == "carried".toList) = false) (h2 : P.headLifts = []) : P.liftsFinal = false := by
 unfold Program.liftsFinal
 rw [h, h2]
 simp only [List.head?_cons]
 have : (some c == some "carried".toList) = false := h1
 rw [this]; rfl
theorem k0l (P : Program) (c : List Char) (rest : List (List Char)) (h : behindMainWord (wordsSigns P.initOrder.toList) = c :: rest) (hs : stripLifts liftWords (c :: rest) = ([], c :: rest)) : P.headLifts = [] := by
 unfold Program.headLifts
 rw [h, hs]
 show (if _ then [] else []) = []
 split <;> rfl
theorem hN : stripLifts liftWords b6 = ([], b6) := by kernel_rfl
theorem o1 : Try.prog.headLifts = [] := k0l Try.prog _ _ wH hN
theorem wJ : Try.prog.make = some .cut := k2o Try.prog b6 wH ⟨_, _, rfl, by kernel_rfl, by kernel_rfl⟩
theorem o4 : Try.prog.liftsFinal = false := k0m Try.prog _ _ wH (by kernel_rfl) o1
theorem o2 : Try.prog.laysLater = false := by kernel_rfl
theorem jW : Try.prog.bearsReflect = false := by kernel_rfl
theorem wL : Try.prog.doorFits [] = true := by kernel_rfl
theorem o5 : Try.prog.mayEnter = true := k0n Try.prog _ _ wH hN (by kernel_rfl) o2 jW wL
theorem wK : laidOutB Try.prog = true := by kernel_rfl
theorem wI : mapsRowed Try.prog = true := by kernel_rfl
theorem o3 : Try.prog.stopsHeard = true := by kernel_rfl
end Go.Proofs.Ytkjmlililpgamaa
