/- What is so of the whole program. No statement is proved here. -/
import Derived.Test.YtkjmlililpgamaaZBase
import Derived.JoinedOf
import Derived.KernelRfl
namespace Go.Proofs.Ytkjmlililpgamaa
open Go.RowKit
open Char renaming ofNat → ka1
def l7 : List Char := [ka1 104, ka1 97, ka1 114, ka1 110, ka1 101, ka1 115, ka1 115, ka1 32, ka1 57, ka1 101, ka1 102, ka1 50, ka1 98, ka1 48, ka1 48, ka1 99, ka1 101, ka1 98, ka1 100, ka1 100, ka1 56, ka1 102, ka1 101, ka1 98, ka1 52, ka1 52, ka1 48, ka1 97, ka1 55, ka1 101, ka1 49, ka1 101, ka1 50, ka1 50, ka1 49, ka1 99, ka1 50, ka1 50, ka1 56, ka1 56, ka1 48, ka1 55, ka1 54, ka1 100, ka1 52, ka1 102, ka1 52, ka1 54, ka1 56, ka1 52, ka1 53, ka1 49, ka1 102, ka1 55, ka1 99, ka1 102, ka1 54, ka1 55, ka1 101, ka1 98, ka1 54, ka1 51, ka1 53, ka1 48, ka1 99, ka1 101, ka1 101, ka1 56, ka1 52, ka1 51, ka1 101, ka1 53, ka1 32, ka1 99, ka1 117, ka1 116, ka1 32, ka1 97, ka1 116, ka1 32, ka1 115, ka1 111, ka1 117, ka1 110, ka1 100, ka1 115, ka1 101, ka1 114, ka1 118, ka1 105, ka1 99, ka1 101, ka1 47, ka1 115, ka1 111, ka1 117, ka1 110, ka1 100, ka1 115, ka1 101, ka1 114, ka1 118, ka1 105, ka1 99, ka1 101, ka1 108, ka1 97, ka1 119, ka1 51, ka1 48, ka1 46, ka1 67, ka1 104, ka1 111, ka1 105, ka1 99, ka1 101, ka1 115, ka1 82, ka1 101, ka1 109, ka1 101, ka1 109, ka1 98, ka1 101, ka1 114, ka1 32, ka1 115, ka1 111, ka1 117, ka1 110, ka1 100, ka1 115, ka1 101, ka1 114, ka1 118, ka1 105, ka1 99, ka1 101, ka1 47, ka1 115, ka1 111, ka1 117, ka1 110, ka1 100, ka1 115, ka1 101, ka1 114, ka1 118, ka1 105, ka1 99, ka1 101, ka1 108, ka1 97, ka1 119, ka1 51, ka1 48, ka1 46, ka1 67, ka1 104, ka1 111, ka1 105, ka1 99, ka1 101, ka1 115, ka1 70, ka1 117, ka1 108, ka1 108, ka1 32, ka1 115, ka1 111, ka1 117, ka1 110, ka1 100, ka1 115, ka1 101, ka1 114, ka1 118, ka1 105, ka1 99, ka1 101, ka1 47, ka1 115, ka1 111, ka1 117, ka1 110, ka1 100, ka1 115, ka1 101, ka1 114, ka1 118, ka1 105, ka1 99, ka1 101, ka1 108, ka1 97, ka1 119, ka1 51, ka1 48, ka1 46, ka1 67, ka1 104, ka1 111, ka1 105, ka1 99, ka1 101, ka1 115, ka1 76, ka1 97, ka1 115, ka1 116]
theorem k2g : Try.prog.initOrder = String.ofList l7 := by kernel_rfl
theorem k2f : Try.prog.initOrder.toList = l7 := (congrArg String.toList k2g).trans String.toList_ofList
def b7 : List (List Char) := [[ka1 99, ka1 117, ka1 116], [ka1 97, ka1 116], [ka1 115, ka1 111, ka1 117, ka1 110, ka1 100, ka1 115, ka1 101, ka1 114, ka1 118, ka1 105, ka1 99, ka1 101, ka1 47, ka1 115, ka1 111, ka1 117, ka1 110, ka1 100, ka1 115, ka1 101, ka1 114, ka1 118, ka1 105, ka1 99, ka1 101, ka1 108, ka1 97, ka1 119, ka1 51, ka1 48, ka1 46, ka1 67, ka1 104, ka1 111, ka1 105, ka1 99, ka1 101, ka1 115, ka1 82, ka1 101, ka1 109, ka1 101, ka1 109, ka1 98, ka1 101, ka1 114], [ka1 115, ka1 111, ka1 117, ka1 110, ka1 100, ka1 115, ka1 101, ka1 114, ka1 118, ka1 105, ka1 99, ka1 101, ka1 47, ka1 115, ka1 111, ka1 117, ka1 110, ka1 100, ka1 115, ka1 101, ka1 114, ka1 118, ka1 105, ka1 99, ka1 101, ka1 108, ka1 97, ka1 119, ka1 51, ka1 48, ka1 46, ka1 67, ka1 104, ka1 111, ka1 105, ka1 99, ka1 101, ka1 115, ka1 70, ka1 117, ka1 108, ka1 108], [ka1 115, ka1 111, ka1 117, ka1 110, ka1 100, ka1 115, ka1 101, ka1 114, ka1 118, ka1 105, ka1 99, ka1 101, ka1 47, ka1 115, ka1 111, ka1 117, ka1 110, ka1 100, ka1 115, ka1 101, ka1 114, ka1 118, ka1 105, ka1 99, ka1 101, ka1 108, ka1 97, ka1 119, ka1 51, ka1 48, ka1 46, ka1 67, ka1 104, ka1 111, ka1 105, ka1 99, ka1 101, ka1 115, ka1 76, ka1 97, ka1 115, ka1 116]]
theorem wJ : behindMainWord (wordsSigns Try.prog.initOrder.toList) = b7 := by rw [k2f]; kernel_rfl
theorem k2q (P : Program) (ws : List (List Char)) (h : behindMainWord (wordsSigns P.initOrder.toList) = ws) (hc : ∃ c rest, ws = c :: rest ∧ (c == "gc".toList || c == "spec".toList) = false ∧ (c == "cut".toList || c == "finals".toList && rest.head? == some "cut".toList) = true) : P.make = some .cut := by
 obtain ⟨c, rest, rfl, h1, h2⟩ := hc
 unfold Program.make
 rw [h]
 simp only [h1, h2]
 rfl
theorem k0p (P : Program) (c : List Char) (rest : List (List Char)) (h : behindMainWord (wordsSigns P.initOrder.toList) = c :: rest) (hs : stripLifts liftWords (c :: rest) = ([], c :: rest)) (h1 : (c == "cut".toList) = true) (h2 : P.laysLater = false) (h3 : P.bearsReflect = false) (h4 : P.doorFits [] = true) : P.mayEnter = true := by
 unfold Program.mayEnter
 rw [h]
 simp only [hs, h2, h3, h4]
 have h5 : c = "cut".toList := eq_of_beq h1
 subst h5
 simp
theorem k0o (P : Program) (c : List Char) (rest : List (List Char)) (h : behindMainWord (wordsSigns P.initOrder.toList) = c :: rest) (h1 : (c == "carried".toList) = false) (h2 : P.headLifts = []) : P.liftsFinal = false := by
 unfold Program.liftsFinal
 rw [h, h2]
 simp only [List.head?_cons]
 have : (some c == some "carried".toList) = false := h1
 rw [this]; rfl
theorem k0n (P : Program) (c : List Char) (rest : List (List Char)) (h : behindMainWord (wordsSigns P.initOrder.toList) = c :: rest) (hs : stripLifts liftWords (c :: rest) = ([], c :: rest)) : P.headLifts = [] := by
 unfold Program.headLifts
 rw [h, hs]
 show (if _ then [] else []) = []
 split <;> rfl
theorem hR : stripLifts liftWords b7 = ([], b7) := by kernel_rfl
theorem o3 : Try.prog.headLifts = [] := k0n Try.prog _ _ wJ hR
theorem wL : Try.prog.make = some .cut := k2q Try.prog b7 wJ ⟨_, _, rfl, by kernel_rfl, by kernel_rfl⟩
theorem o6 : Try.prog.liftsFinal = false := k0o Try.prog _ _ wJ (by kernel_rfl) o3
theorem o4 : Try.prog.laysLater = false := by kernel_rfl
theorem jY : Try.prog.bearsReflect = false := by kernel_rfl
theorem wN : Try.prog.doorFits [] = true := by kernel_rfl
theorem o7 : Try.prog.mayEnter = true := k0p Try.prog _ _ wJ hR (by kernel_rfl) o4 jY wN
theorem wM : laidOutB Try.prog = true := by kernel_rfl
theorem wK : mapsRowed Try.prog = true := by kernel_rfl
theorem o5 : Try.prog.stopsHeard = true := by kernel_rfl
end Go.Proofs.Ytkjmlililpgamaa
