/- Merged texts. -/
import Derived.Test.YtbicifcgghmhaaaGreatZL10B
namespace Go.Proofs.YtbicifcgghmhaaaGreat
open Go.ChangeShapes Go.WideShapes Go.ChangeAt Go.RowKit
set_option linter.unusedVariables false
set_option linter.unusedSimpArgs false
/-! chapter 10: the best choice -/
theorem k2n (n : Int) : ∀ (s : List Sp) (o : Option Int), (∀ p ∈ s, dW p) → (∀ v, o = some v → 0 ≤ v ∧ v ≤ 2147483647) → ∀ v, nrP n s o = some v → 0 ≤ v ∧ v ≤ 2147483647
 | [], o, _, h => h
 | p :: s, o, hs, h => by
  have hp := hs p (List.mem_cons_self ..)
  have hc : 0 ≤ iH n p ∧ iH n p ≤ 2147483647 := by
   unfold dW at hp
   show 0 ≤ max p.1 (min p.2 n) ∧ max p.1 (min p.2 n) ≤ 2147483647
   omega
  refine k2n n s _ (fun q hq => hs q (List.mem_cons_of_mem _ hq)) ?_
  intro v hv
  cases o with
  | none => cases hv; exact hc
  | some u =>
   have hu := h u rfl
   dsimp only at hv
   split at hv
   ·cases hv; exact hc
   ·cases hv; exact hu
theorem lE {z : Int} {l : List Int} {n : Nat} (hl : l.length = n * 2) : 0 ≤ vG z (kB l n) ∧ vG z (kB l n) ≤ 2147483647 := by
 unfold vG
 cases e : nrP z (qX (kB l n)) none with
 | none => exact ⟨Int.le_refl _, by decide⟩
 | some v => exact k2n z _ none (dC (uQ hl)) (fun v h => by cases h) v e
def cE (b w : Int) : Nat → Int
 | 0 => 0
 | j + 1 => if jR b (j + 1) = true ∧ (cE b w j = 0 ∨ c7 w ((j : Int) + 1) (cE b w j) < 0) then (j : Int) + 1 else cE b w j
theorem k4t {b w : Int} {j : Nat} {y x : Int} (h : cE b w j = y) (h1 : jR b (j + 1) = true) (h2 : y = 0 ∨ c7 w ((j : Int) + 1) y < 0) (hx : x = (j : Int) + 1) : cE b w (j + 1) = x := by
 subst h; rw [hx]; exact if_pos ⟨h1, h2⟩
theorem u0a {b w : Int} {j : Nat} {y : Int} (h : cE b w j = y) (h1 : jR b (j + 1) = false) : cE b w (j + 1) = y := by
 rw [← h]; exact if_neg fun e => by rw [h1] at e; cases e.1
theorem u09 {b w : Int} {j : Nat} {y : Int} (h : cE b w j = y) (h2 : ¬ y = 0) (h3 : ¬ c7 w ((j : Int) + 1) y < 0) : cE b w (j + 1) = y := by
 subst h; exact if_neg fun e => e.2.elim h2 h3
theorem tV (b w : Int) : ∀ j, 0 ≤ cE b w j ∧ cE b w j ≤ j
 | 0 => ⟨Int.le_refl _, Int.le_refl _⟩
 | j + 1 => by
  have := tV b w j
  rw [cE]; split <;> omega
def fC (w : List Int) (ms : List (List Int)) : Nat → List Int
 | 0 => []
 | j + 1 => if j = 0 ∨ c6 w (List.getD ms j []) (fC w ms j) < 0 then List.getD ms j [] else fC w ms j
theorem v29 {w : List Int} {ms : List (List Int)} {x : List Int} (hx : x = List.getD ms 0 []) : fC w ms 1 = x := by
 rw [hx]; exact if_pos (.inl rfl)
theorem u8l {w : List Int} {ms : List (List Int)} {j : Nat} {u x : List Int} (h : fC w ms j = u) (h2 : c6 w (List.getD ms j []) u < 0) (hx : x = List.getD ms j []) : fC w ms (j + 1) = x := by
 subst h; rw [hx]; exact if_pos (.inr h2)
theorem u8m {w : List Int} {ms : List (List Int)} {j : Nat} {u : List Int} (h : fC w ms j = u) (h1 : ¬ j = 0) (h2 : ¬ c6 w (List.getD ms j []) u < 0) : fC w ms (j + 1) = u := by
 subst h; exact if_neg fun e => e.elim h1 h2
theorem u06 {w : List Int} {ms : List (List Int)} (h : MsW ms) : ∀ j, List.length (fC w ms j) ≤ 1000000
 | 0 => Nat.zero_le _
 | j + 1 => by
  rw [fC]; split
  ·exact h.at j
  ·exact u06 h j
theorem tR {xs : List Bx} {i : Nat} (h : i < List.length (kL xs)) : 1 ≤ List.length (kW (kL xs) i) := by
 cases e : c8 xs with
 | false => rw [u5e e] at h; exact absurd h (Nat.not_lt_zero _)
 | true =>
  rw [u02 e] at h ⊢
  have h1 := (of_decide_eq_true e).2 i h
  unfold vbE gO at h1
  rw [Bool.and_eq_true, Bool.and_eq_true, Bool.and_eq_true] at h1
  exact (of_decide_eq_true h1.2.2.1).1
end Go.Proofs.YtbicifcgghmhaaaGreat
namespace Go.Proofs.YtbicifcgghmhaaaGreat
open Go.ChangeShapes Go.WideShapes Go.ChangeAt Go.RowKit
set_option linter.unusedVariables false
set_option linter.unusedSimpArgs false
def bxC (b : Bx) (w : Co) : Co := ⟨cE b.k w.k 7, vG w.r (kB b.r b.rn), fC w.m b.m b.m.length, vG w.s (kB b.s b.sn)⟩
def beC (bs : List Bx) (w : Co) : Nat → Co
 | 0 => ⟨0, 0, [], 0⟩
 | j + 1 => if j = 0 ∨ coV w (bxC (vC bs j) w) (beC bs w j) < 0 then bxC (vC bs j) w else beC bs w j
def BE (bs : List Bx) (wk wr : Int) (w : List Int) (wz : Int) (i : Nat) (yk yr : Int) (u : List Int) (yz : Int) : Prop := beC bs ⟨wk, wr, w, wz⟩ i = ⟨yk, yr, u, yz⟩
theorem BE.first {bs : List Bx} {wk wr : Int} {w : List Int} {wz : Int} {yk yr : Int} {u : List Int} {yz : Int} (h1 : yk = cE (kT bs 0) wk 7) (h2 : yr = vG wr (kB (qE bs 0) (k9 bs 0))) (h3 : u = fC w (kW bs 0) (List.length (kW bs 0))) (h4 : yz = vG wz (kB (qD bs 0) (k8 bs 0))) : BE bs wk wr w wz 1 yk yr u yz := by
 subst h1; subst h2; subst h3; subst h4
 exact if_pos (.inl rfl)
theorem BE.y {bs : List Bx} {wk wr : Int} {w : List Int} {wz : Int} {j : Nat} {yk yr : Int} {u : List Int} {yz xk xr : Int} {x : List Int} {xz : Int} (h : BE bs wk wr w wz j yk yr u yz) (h1 : xk = cE (kT bs j) wk 7) (h2 : xr = vG wr (kB (qE bs j) (k9 bs j))) (h3 : x = fC w (kW bs j) (List.length (kW bs j))) (h4 : xz = vG wz (kB (qD bs j) (k8 bs j))) (hc : mN wk wr wz xk xr xz yk yr yz w x u < 0) : BE bs wk wr w wz (j + 1) xk xr x xz := by
 subst h1; subst h2; subst h3; subst h4
 have h : beC bs ⟨wk, wr, w, wz⟩ j = ⟨yk, yr, u, yz⟩ := h
 exact if_pos (.inr (by rw [h]; exact hc))
theorem BE.n {bs : List Bx} {wk wr : Int} {w : List Int} {wz : Int} {j : Nat} {yk yr : Int} {u : List Int} {yz : Int} (h : BE bs wk wr w wz j yk yr u yz) (h0 : ¬ j = 0) (hc : ¬ mN wk wr wz (cE (kT bs j) wk 7) (vG wr (kB (qE bs j) (k9 bs j))) (vG wz (kB (qD bs j) (k8 bs j))) yk yr yz w (fC w (kW bs j) (List.length (kW bs j))) u < 0) : BE bs wk wr w wz (j + 1) yk yr u yz := by
 have h' : beC bs ⟨wk, wr, w, wz⟩ j = ⟨yk, yr, u, yz⟩ := h
 show beC bs ⟨wk, wr, w, wz⟩ (j + 1) = _
 rw [beC, if_neg fun e => e.elim h0 fun e1 => hc (by rw [h'] at e1; exact e1)]
 exact h'
def beL (bs : List Bx) (wk wr : Int) (w : List Int) (wz : Int) : Co := beC (kL bs) ⟨wk, wr, w, wz⟩ (List.length (kL bs))
def qZ (bs : List Bx) (wk wr : Int) (w : List Int) (wz : Int) : Int := (beL bs wk wr w wz).k
def qW (bs : List Bx) (wk wr : Int) (w : List Int) (wz : Int) : Int := (beL bs wk wr w wz).r
def l1 (bs : List Bx) (wk wr : Int) (w : List Int) (wz : Int) : List Int := (beL bs wk wr w wz).m
def qY (bs : List Bx) (wk wr : Int) (w : List Int) (wz : Int) : Int := (beL bs wk wr w wz).s
theorem BE.fin {bs : List Bx} {wk wr : Int} {w : List Int} {wz : Int} {j : Nat} {yk yr : Int} {u : List Int} {yz : Int} (h : BE (kL bs) wk wr w wz j yk yr u yz) (hj : j = List.length (kL bs)) : qZ bs wk wr w wz = yk ∧ qW bs wk wr w wz = yr ∧ l1 bs wk wr w wz = u ∧ qY bs wk wr w wz = yz := by
 subst hj
 have h' : beL bs wk wr w wz = ⟨yk, yr, u, yz⟩ := h
 unfold qZ qW l1 qY; rw [h']; exact ⟨rfl, rfl, rfl, rfl⟩
def CoW (c : Co) : Prop := (0 ≤ c.k ∧ c.k ≤ 7) ∧ (0 ≤ c.r ∧ c.r ≤ 2147483647) ∧ (0 ≤ c.s ∧ c.s ≤ 2147483647) ∧ List.length c.m ≤ 1000000
theorem v22 {b : Bx} (h : BxW b) (w : Co) : CoW (bxC b w) := ⟨tV _ _ _, lE h.1, lE h.2.1, u06 h.2.2.2.2.2 _⟩
theorem u5i {bs : List Bx} (h : BsW bs) (w : Co) : ∀ j, CoW (beC bs w j)
 | 0 => ⟨⟨Int.le_refl 0, (by decide : (0 : Int) ≤ 7)⟩, ⟨Int.le_refl 0, (by decide : (0 : Int) ≤ 2147483647)⟩, ⟨Int.le_refl 0, (by decide : (0 : Int) ≤ 2147483647)⟩, Nat.zero_le _⟩
 | j + 1 => by
  rw [beC]; split
  ·exact v22 (h.get j) w
  ·exact u5i h w j
theorem zR {bs : List Bx} (h : BsW bs) (wk wr : Int) (w : List Int) (wz : Int) : (0 ≤ qZ bs wk wr w wz ∧ qZ bs wk wr w wz ≤ 7) ∧ (0 ≤ qW bs wk wr w wz ∧ qW bs wk wr w wz ≤ 2147483647) ∧ (0 ≤ qY bs wk wr w wz ∧ qY bs wk wr w wz ≤ 2147483647) ∧ List.length (l1 bs wk wr w wz) ≤ 1000000 := u5i (eC h) _ _
end Go.Proofs.YtbicifcgghmhaaaGreat
