/- Merged texts. -/
import Derived.Test.YtbicifcgghmhaaaGreatZL10B
namespace Go.Proofs.YtbicifcgghmhaaaGreat
open Go.ChangeShapes Go.WideShapes Go.ChangeAt Go.RowKit
set_option linter.unusedVariables false
set_option linter.unusedSimpArgs false
/-! chapter 10: the best choice -/
theorem k2j (n : Int) : ∀ (s : List Sp) (o : Option Int), (∀ p ∈ s, dZ p) → (∀ v, o = some v → 0 ≤ v ∧ v ≤ 2147483647) → ∀ v, nrP n s o = some v → 0 ≤ v ∧ v ≤ 2147483647
 | [], o, _, h => h
 | p :: s, o, hs, h => by
  have hp := hs p (List.mem_cons_self ..)
  have hc : 0 ≤ iH n p ∧ iH n p ≤ 2147483647 := by
   unfold dZ at hp
   show 0 ≤ max p.1 (min p.2 n) ∧ max p.1 (min p.2 n) ≤ 2147483647
   omega
  refine k2j n s _ (fun q hq => hs q (List.mem_cons_of_mem _ hq)) ?_
  intro v hv
  cases o with
  | none => cases hv; exact hc
  | some u =>
   have hu := h u rfl
   dsimp only at hv
   split at hv
   ·cases hv; exact hc
   ·cases hv; exact hu
theorem lF {z : Int} {l : List Int} {n : Nat} (hl : l.length = n * 2) : 0 ≤ vJ z (kC l n) ∧ vJ z (kC l n) ≤ 2147483647 := by
 unfold vJ
 cases e : nrP z (qY (kC l n)) none with
 | none => exact ⟨Int.le_refl _, by decide⟩
 | some v => exact k2j z _ none (dE (uS hl)) (fun v h => by cases h) v e
def cG (b w : Int) : Nat → Int
 | 0 => 0
 | j + 1 => if n6 b (j + 1) = true ∧ (cG b w j = 0 ∨ c9 w ((j : Int) + 1) (cG b w j) < 0) then (j : Int) + 1 else cG b w j
theorem k4q {b w : Int} {j : Nat} {y x : Int} (h : cG b w j = y) (h1 : n6 b (j + 1) = true) (h2 : y = 0 ∨ c9 w ((j : Int) + 1) y < 0) (hx : x = (j : Int) + 1) : cG b w (j + 1) = x := by
 subst h; rw [hx]; exact if_pos ⟨h1, h2⟩
theorem k9x {b w : Int} {j : Nat} {y : Int} (h : cG b w j = y) (h1 : n6 b (j + 1) = false) : cG b w (j + 1) = y := by
 rw [← h]; exact if_neg fun e => by rw [h1] at e; cases e.1
theorem k9w {b w : Int} {j : Nat} {y : Int} (h : cG b w j = y) (h2 : ¬ y = 0) (h3 : ¬ c9 w ((j : Int) + 1) y < 0) : cG b w (j + 1) = y := by
 subst h; exact if_neg fun e => e.2.elim h2 h3
theorem tW (b w : Int) : ∀ j, 0 ≤ cG b w j ∧ cG b w j ≤ j
 | 0 => ⟨Int.le_refl _, Int.le_refl _⟩
 | j + 1 => by
  have := tW b w j
  rw [cG]; split <;> omega
def fC (w : List Int) (ms : List (List Int)) : Nat → List Int
 | 0 => []
 | j + 1 => if j = 0 ∨ c8 w (List.getD ms j []) (fC w ms j) < 0 then List.getD ms j [] else fC w ms j
theorem v1x {w : List Int} {ms : List (List Int)} {x : List Int} (hx : x = List.getD ms 0 []) : fC w ms 1 = x := by
 rw [hx]; exact if_pos (.inl rfl)
theorem u86 {w : List Int} {ms : List (List Int)} {j : Nat} {u x : List Int} (h : fC w ms j = u) (h2 : c8 w (List.getD ms j []) u < 0) (hx : x = List.getD ms j []) : fC w ms (j + 1) = x := by
 subst h; rw [hx]; exact if_pos (.inr h2)
theorem u87 {w : List Int} {ms : List (List Int)} {j : Nat} {u : List Int} (h : fC w ms j = u) (h1 : ¬ j = 0) (h2 : ¬ c8 w (List.getD ms j []) u < 0) : fC w ms (j + 1) = u := by
 subst h; exact if_neg fun e => e.elim h1 h2
theorem k9t {w : List Int} {ms : List (List Int)} (h : MsW ms) : ∀ j, List.length (fC w ms j) ≤ 1000000
 | 0 => Nat.zero_le _
 | j + 1 => by
  rw [fC]; split
  ·exact h.at j
  ·exact k9t h j
theorem tS {xs : List Bx} {i : Nat} (h : i < List.length (kM xs)) : 1 ≤ List.length (kX (kM xs) i) := by
 cases e : dA xs with
 | false => rw [u4x e] at h; exact absurd h (Nat.not_lt_zero _)
 | true =>
  rw [k9p e] at h ⊢
  have h1 := (of_decide_eq_true e).2 i h
  unfold vbE gO at h1
  rw [Bool.and_eq_true, Bool.and_eq_true, Bool.and_eq_true] at h1
  exact (of_decide_eq_true h1.2.2.1).1
end Go.Proofs.YtbicifcgghmhaaaGreat
namespace Go.Proofs.YtbicifcgghmhaaaGreat
open Go.ChangeShapes Go.WideShapes Go.ChangeAt Go.RowKit
set_option linter.unusedVariables false
set_option linter.unusedSimpArgs false
def bxC (b : Bx) (w : Co) : Co := ⟨cG b.k w.k 7, vJ w.r (kC b.r b.rn), fC w.m b.m b.m.length, vJ w.s (kC b.s b.sn)⟩
def beC (bs : List Bx) (w : Co) : Nat → Co
 | 0 => ⟨0, 0, [], 0⟩
 | j + 1 => if j = 0 ∨ coV w (bxC (vK bs j) w) (beC bs w j) < 0 then bxC (vK bs j) w else beC bs w j
def BE (bs : List Bx) (wk wr : Int) (w : List Int) (wz : Int) (i : Nat) (yk yr : Int) (u : List Int) (yz : Int) : Prop := beC bs ⟨wk, wr, w, wz⟩ i = ⟨yk, yr, u, yz⟩
theorem BE.first {bs : List Bx} {wk wr : Int} {w : List Int} {wz : Int} {yk yr : Int} {u : List Int} {yz : Int} (h1 : yk = cG (kU bs 0) wk 7) (h2 : yr = vJ wr (kC (qG bs 0) (qA bs 0))) (h3 : u = fC w (kX bs 0) (List.length (kX bs 0))) (h4 : yz = vJ wz (kC (qF bs 0) (k9 bs 0))) : BE bs wk wr w wz 1 yk yr u yz := by
 subst h1; subst h2; subst h3; subst h4
 exact if_pos (.inl rfl)
theorem BE.y {bs : List Bx} {wk wr : Int} {w : List Int} {wz : Int} {j : Nat} {yk yr : Int} {u : List Int} {yz xk xr : Int} {x : List Int} {xz : Int} (h : BE bs wk wr w wz j yk yr u yz) (h1 : xk = cG (kU bs j) wk 7) (h2 : xr = vJ wr (kC (qG bs j) (qA bs j))) (h3 : x = fC w (kX bs j) (List.length (kX bs j))) (h4 : xz = vJ wz (kC (qF bs j) (k9 bs j))) (hc : mP wk wr wz xk xr xz yk yr yz w x u < 0) : BE bs wk wr w wz (j + 1) xk xr x xz := by
 subst h1; subst h2; subst h3; subst h4
 have h : beC bs ⟨wk, wr, w, wz⟩ j = ⟨yk, yr, u, yz⟩ := h
 exact if_pos (.inr (by rw [h]; exact hc))
theorem BE.n {bs : List Bx} {wk wr : Int} {w : List Int} {wz : Int} {j : Nat} {yk yr : Int} {u : List Int} {yz : Int} (h : BE bs wk wr w wz j yk yr u yz) (h0 : ¬ j = 0) (hc : ¬ mP wk wr wz (cG (kU bs j) wk 7) (vJ wr (kC (qG bs j) (qA bs j))) (vJ wz (kC (qF bs j) (k9 bs j))) yk yr yz w (fC w (kX bs j) (List.length (kX bs j))) u < 0) : BE bs wk wr w wz (j + 1) yk yr u yz := by
 have h' : beC bs ⟨wk, wr, w, wz⟩ j = ⟨yk, yr, u, yz⟩ := h
 show beC bs ⟨wk, wr, w, wz⟩ (j + 1) = _
 rw [beC, if_neg fun e => e.elim h0 fun e1 => hc (by rw [h'] at e1; exact e1)]
 exact h'
def beL (bs : List Bx) (wk wr : Int) (w : List Int) (wz : Int) : Co := beC (kM bs) ⟨wk, wr, w, wz⟩ (List.length (kM bs))
def q5 (bs : List Bx) (wk wr : Int) (w : List Int) (wz : Int) : Int := (beL bs wk wr w wz).k
def qX (bs : List Bx) (wk wr : Int) (w : List Int) (wz : Int) : Int := (beL bs wk wr w wz).r
def l0 (bs : List Bx) (wk wr : Int) (w : List Int) (wz : Int) : List Int := (beL bs wk wr w wz).m
def qZ (bs : List Bx) (wk wr : Int) (w : List Int) (wz : Int) : Int := (beL bs wk wr w wz).s
theorem BE.fin {bs : List Bx} {wk wr : Int} {w : List Int} {wz : Int} {j : Nat} {yk yr : Int} {u : List Int} {yz : Int} (h : BE (kM bs) wk wr w wz j yk yr u yz) (hj : j = List.length (kM bs)) : q5 bs wk wr w wz = yk ∧ qX bs wk wr w wz = yr ∧ l0 bs wk wr w wz = u ∧ qZ bs wk wr w wz = yz := by
 subst hj
 have h' : beL bs wk wr w wz = ⟨yk, yr, u, yz⟩ := h
 unfold q5 qX l0 qZ; rw [h']; exact ⟨rfl, rfl, rfl, rfl⟩
def CoW (c : Co) : Prop := (0 ≤ c.k ∧ c.k ≤ 7) ∧ (0 ≤ c.r ∧ c.r ≤ 2147483647) ∧ (0 ≤ c.s ∧ c.s ≤ 2147483647) ∧ List.length c.m ≤ 1000000
theorem v1q {b : Bx} (h : BxW b) (w : Co) : CoW (bxC b w) := ⟨tW _ _ _, lF h.1, lF h.2.1, k9t h.2.2.2.2.2 _⟩
theorem u51 {bs : List Bx} (h : BsW bs) (w : Co) : ∀ j, CoW (beC bs w j)
 | 0 => ⟨⟨Int.le_refl 0, (by decide : (0 : Int) ≤ 7)⟩, ⟨Int.le_refl 0, (by decide : (0 : Int) ≤ 2147483647)⟩, ⟨Int.le_refl 0, (by decide : (0 : Int) ≤ 2147483647)⟩, Nat.zero_le _⟩
 | j + 1 => by
  rw [beC]; split
  ·exact v1q (h.get j) w
  ·exact u51 h w j
theorem zR {bs : List Bx} (h : BsW bs) (wk wr : Int) (w : List Int) (wz : Int) : (0 ≤ q5 bs wk wr w wz ∧ q5 bs wk wr w wz ≤ 7) ∧ (0 ≤ qX bs wk wr w wz ∧ qX bs wk wr w wz ≤ 2147483647) ∧ (0 ≤ qZ bs wk wr w wz ∧ qZ bs wk wr w wz ≤ 2147483647) ∧ List.length (l0 bs wk wr w wz) ≤ 1000000 := u51 (eF h) _ _
end Go.Proofs.YtbicifcgghmhaaaGreat
