/- Merged texts. -/
import Derived.Test.YtdbjebdomdnbkaaZL10B
namespace Go.Proofs.Ytdbjebdomdnbkaa
open Go.ChangeShapes Go.WideShapes Go.ChangeAt Go.RowKit
set_option linter.unusedVariables false
set_option linter.unusedSimpArgs false
def bkK (b w : Int) : Nat → Int
 | 0 => 0
 | j + 1 => if kiB b (j + 1) = true ∧ (bkK b w j = 0 ∨ kdV w ((j : Int) + 1) (bkK b w j) < 0) then (j : Int) + 1 else bkK b w j
def bmM (w : List Int) (ms : List (List Int)) : Nat → List Int
 | 0 => []
 | j + 1 => if j = 0 ∨ mpV w (List.getD ms j []) (bmM w ms j) < 0 then List.getD ms j [] else bmM w ms j
end Go.Proofs.Ytdbjebdomdnbkaa
namespace Go.Proofs.Ytdbjebdomdnbkaa
open Go.ChangeShapes Go.WideShapes Go.ChangeAt Go.RowKit
set_option linter.unusedVariables false
set_option linter.unusedSimpArgs false
def bxC (b : Bx) (w : Co) : Co := ⟨bkK b.k w.k 7, neV w.r (spS b.r b.rn), bmM w.m b.m b.m.length, neV w.s (spS b.s b.sn)⟩
def beC (bs : List Bx) (w : Co) : Nat → Co
 | 0 => ⟨0, 0, [], 0⟩
 | j + 1 => if j = 0 ∨ coV w (bxC (vZ bs j) w) (beC bs w j) < 0 then bxC (vZ bs j) w else beC bs w j
def BE (bs : List Bx) (wk wr : Int) (w : List Int) (wz : Int) (i : Nat) (yk yr : Int) (u : List Int) (yz : Int) : Prop := beC bs ⟨wk, wr, w, wz⟩ i = ⟨yk, yr, u, yz⟩
theorem BE.y {bs : List Bx} {wk wr : Int} {w : List Int} {wz : Int} {j : Nat} {yk yr : Int} {u : List Int} {yz xk xr : Int} {x : List Int} {xz : Int} (h : BE bs wk wr w wz j yk yr u yz) (h1 : xk = bkK (vK bs j) wk 7) (h2 : xr = neV wr (spS (vH bs j) (uM bs j))) (h3 : x = bmM w (kW bs j) (List.length (kW bs j))) (h4 : xz = neV wz (spS (aG bs j) (yW bs j))) (hc : coK wk wr wz xk xr xz yk yr yz w x u < 0) : BE bs wk wr w wz (j + 1) xk xr x xz := by
 subst h1; subst h2; subst h3; subst h4
 have h : beC bs ⟨wk, wr, w, wz⟩ j = ⟨yk, yr, u, yz⟩ := h
 exact if_pos (.inr (by rw [h]; exact hc))
theorem BE.n {bs : List Bx} {wk wr : Int} {w : List Int} {wz : Int} {j : Nat} {yk yr : Int} {u : List Int} {yz : Int} (h : BE bs wk wr w wz j yk yr u yz) (h0 : ¬ j = 0) (hc : ¬ coK wk wr wz (bkK (vK bs j) wk 7) (neV wr (spS (vH bs j) (uM bs j))) (neV wz (spS (aG bs j) (yW bs j))) yk yr yz w (bmM w (kW bs j) (List.length (kW bs j))) u < 0) : BE bs wk wr w wz (j + 1) yk yr u yz := by
 have h' : beC bs ⟨wk, wr, w, wz⟩ j = ⟨yk, yr, u, yz⟩ := h
 show beC bs ⟨wk, wr, w, wz⟩ (j + 1) = _
 rw [beC, if_neg fun e => e.elim h0 fun e1 => hc (by rw [h'] at e1; exact e1)]
 exact h'
def beL (bs : List Bx) (wk wr : Int) (w : List Int) (wz : Int) : Co := beC (bxL bs) ⟨wk, wr, w, wz⟩ (List.length (bxL bs))
def beK (bs : List Bx) (wk wr : Int) (w : List Int) (wz : Int) : Int := (beL bs wk wr w wz).k
def beR (bs : List Bx) (wk wr : Int) (w : List Int) (wz : Int) : Int := (beL bs wk wr w wz).r
def beM (bs : List Bx) (wk wr : Int) (w : List Int) (wz : Int) : List Int := (beL bs wk wr w wz).m
def beZ (bs : List Bx) (wk wr : Int) (w : List Int) (wz : Int) : Int := (beL bs wk wr w wz).s
theorem BE.fin {bs : List Bx} {wk wr : Int} {w : List Int} {wz : Int} {j : Nat} {yk yr : Int} {u : List Int} {yz : Int} (h : BE (bxL bs) wk wr w wz j yk yr u yz) (hj : j = List.length (bxL bs)) : beK bs wk wr w wz = yk ∧ beR bs wk wr w wz = yr ∧ beM bs wk wr w wz = u ∧ beZ bs wk wr w wz = yz := by
 subst hj
 have h' : beL bs wk wr w wz = ⟨yk, yr, u, yz⟩ := h
 unfold beK beR beM beZ; rw [h']; exact ⟨rfl, rfl, rfl, rfl⟩
end Go.Proofs.Ytdbjebdomdnbkaa
