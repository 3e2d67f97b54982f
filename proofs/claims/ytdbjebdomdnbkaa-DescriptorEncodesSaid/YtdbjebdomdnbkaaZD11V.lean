/- Merged texts. -/
import Derived.Test.YtdbjebdomdnbkaaZD11P
namespace Go.Proofs.Ytdbjebdomdnbkaa
open Go.ChangeShapes Go.WideShapes Go.ChangeAt Go.RowKit
set_option linter.unusedVariables false
set_option linter.unusedSimpArgs false
/-! chapter 11: a beginning is never a whole -/
def Mo (F G : RS → RS) : Prop := ∀ u, qA (F u) = 0 → qA u = 0 ∧ G u = F u
theorem Mo.comp {F G F' G' : RS → RS} (h : Mo F G) (h2 : Mo F' G') : Mo (fun u => F' (F u)) (fun u => G' (G u)) := fun u hq => by
  have h3 := h2 _ hq
  have h4 := h u h3.1
  exact ⟨h4.1, by show G' (G u) = F' (F u); rw [h4.2, h3.2]⟩
theorem Mo.it {F G : RS → RS} (h : Mo F G) : ∀ n, Mo (oC F n) (oC G n)
  | 0 => fun u hq => ⟨hq, rfl⟩
  | n + 1 => fun u hq => by
    by_cases h0 : qA u = 0
    · rw [mB h0] at hq ⊢
      rw [mB h0]
      have h3 := Mo.it h n _ hq
      have h4 := h u h3.1
      exact ⟨h0, by rw [h4.2]; exact h3.2⟩
    · rw [k0l h0] at hq; exact absurd hq h0
theorem dS (s : Nat) (p r : List Int) : Mo (kG s p) (kG s (p ++ r)) := fun u hq => by
  by_cases h : qA u = 0
  · by_cases h1 : kV u + s ≤ p.length
    · refine ⟨h, ?_⟩
      have h2 : u.q = 0 := h
      have h3 : u.a + s ≤ p.length := h1
      unfold kG
      rw [if_pos h2, if_pos h2, if_pos h3, if_pos (by rw [List.length_append]; omega)]
    · have := rM rfl h h1; omega
  · rw [t5 h] at hq; exact absurd hq h
theorem u18 {p r : List Int} {u : RS} (h : qA (kG 2 p u) = 0) : k9 (p ++ r) u = k9 p u := by
  have h0 := (dS 2 p r u h).1
  by_cases h1 : kV u + 2 ≤ p.length
  · have h2 : u.q = 0 := h0
    have h3 : u.a + 2 ≤ p.length := h1
    unfold k9
    rw [if_pos (show u.q = 0 ∧ u.a + 2 ≤ (p ++ r).length from ⟨h2, by rw [List.length_append]; omega⟩), if_pos (show u.q = 0 ∧ u.a + 2 ≤ p.length from ⟨h2, h3⟩)]
    have e0 : List.getD (p ++ r) (u.a + 0) 0 = List.getD p (u.a + 0) 0 := dB (by omega)
    have e1 : List.getD (p ++ r) (u.a + 1) 0 = List.getD p (u.a + 1) 0 := dB (by omega)
    unfold g16; rw [e0, e1]
  · have := rM rfl h0 h1; omega
theorem u4i (p r : List Int) : Mo (qX p) (qX (p ++ r)) := fun u hq => by
  by_cases h : qA u = 0
  · by_cases h1 : g9 p (kV u) = 0
    · refine ⟨h, ?_⟩
      have h2 := k2q rfl h1
      have h3 : u.q = 0 := h
      have h4 : g9 p u.a = 0 := h1
      by_cases h5 : kV u < p.length
      · have e0 : uS (p ++ r) u.a = uS p u.a := by
          have e1 : List.getD (p ++ r) u.a 0 = List.getD p u.a 0 := dB h5
          unfold uS; rw [e1]
        have h7 : uS p u.a ≤ 64 ∧ u.a + 1 + uS p u.a ≤ p.length := h2.2
        have h6 : g9 (p ++ r) u.a = 0 := k2p rfl (by rw [List.length_append]; have : u.a < p.length := h5; omega) (by rw [e0]; omega) (by rw [e0, List.length_append]; omega)
        unfold qX
        rw [if_pos h3, if_pos h3, if_pos h4, if_pos h6, e0]
      · omega
    · have h2 := lF h h1; omega
  · rw [(k2n h).1] at hq; exact absurd hq h
theorem k0j {F G : RS → RS} {p r : List Int} (h : Mo F G) : Mo (fun u => oC F (k9 p u) (kG 2 p u)) (fun u => oC G (k9 (p ++ r) u) (kG 2 (p ++ r) u)) := fun u hq => by
  have h1 := h.it (k9 p u) _ hq
  have h2 := dS 2 p r u h1.1
  exact ⟨h2.1, by show oC G (k9 (p ++ r) u) (kG 2 (p ++ r) u) = oC F (k9 p u) (kG 2 p u); rw [u18 h1.1, h2.2, h1.2]⟩
theorem k9x (p r : List Int) : Mo (yE p) (yE (p ++ r)) := k0j ((dS 4 p r).comp (dS 4 p r))
theorem u6b (p r : List Int) : Mo (hC p) (hC (p ++ r)) := k0j (dS 2 p r)
theorem u5i (p r : List Int) : Mo (aX p) (aX (p ++ r)) := k0j (u6b p r)
theorem u6c (p r : List Int) : Mo (oM p) (oM (p ++ r)) := k0j ((((dS 2 p r).comp (k9x p r)).comp (u5i p r)).comp (k9x p r))
theorem u69 (p r : List Int) : Mo (fA p) (fA (p ++ r)) :=
  (((((((dS 8 p r).comp (u4i p r)).comp (dS 2 p r)).comp (dS 2 p r)).comp (dS 4 p r)).comp (dS 2 p r)).comp (dS 2 p r)).comp (u6c p r)
theorem DeB.len {B : List Int} (h : DeB B) : 26 ≤ B.length ∧ B.length ≤ 20000 := by
  obtain ⟨id, nm, d1, d2, d3, d4, d5, bs, n, hD, rfl⟩ := h
  have h1 := hD.l; have h2 := hD.r.2
  rw [dL]; omega
theorem DeB.rd {B : List Int} (h : DeB B) (r : List Int) : fA (B ++ r) qG = ⟨B.length, 0⟩ := by
  obtain ⟨id, nm, d1, d2, d3, d4, d5, bs, n, hD, rfl⟩ := h
  exact (k01 hD r rfl).1
theorem DeB.val {B : List Int} (h : DeB B) : deV B = true := by
  obtain ⟨id, nm, d1, d2, d3, d4, d5, bs, n, hD, rfl⟩ := h
  have h1 := k01 (l := jK id nm d1 d2 d3 d4 d5 bs) hD [] (List.append_nil _).symm
  unfold deV
  rw [h1.2.2.1, h1.2.2.2.1, h1.2.2.2.2.1, h1.2.2.2.2.2.1, h1.2.2.2.2.2.2.1, h1.2.2.2.2.2.2.2.1, h1.2.2.2.2.2.2.2.2]
  exact hD.vd
theorem DeB.cut {B : List Int} (h : DeB B) {k : Nat} (hk : k < B.length) : ¬ (qA (fA (List.take k B) qG) = 0 ∧ kV (fA (List.take k B) qG) = k) := fun ⟨h1, h2⟩ => by
  have h3 := (u69 (List.take k B) (List.drop k B) qG h1).2
  rw [List.take_append_drop] at h3
  have h4 := h.rd []
  rw [List.append_nil] at h4
  rw [← h3, h4] at h2
  have h5 : B.length = k := h2
  omega
end Go.Proofs.Ytdbjebdomdnbkaa
namespace Go.Proofs.Ytdbjebdomdnbkaa
open Go.ChangeShapes Go.WideShapes Go.ChangeAt Go.RowKit
set_option linter.unusedVariables false
set_option linter.unusedSimpArgs false
/-! chapter 11: the reference's reader -/
set_option maxHeartbeats 4000000
set_option maxRecDepth 100000
abbrev RT := Nat × Bool
def jtS (g : RT → RT) : Nat → RT → RT
  | 0, w => w
  | n + 1, w => if w.2 = false then jtS g n (g w) else w
def jtV {α : Type} (g : RT → RT) (v : RT → List α) : Nat → RT → List α
  | 0, _ => []
  | n + 1, w => if w.2 = false then v w ++ jtV g v n (g w) else []
theorem k49 {g : RT → RT} {n : Nat} {w : RT} (h : w.2 = false) : jtS g (n + 1) w = jtS g n (g w) := if_pos h
theorem u60 {g : RT → RT} {n : Nat} {w : RT} (h : w.2 = true) : jtS g n w = w := by
  cases n with
  | zero => rfl
  | succ n => exact if_neg (by rw [h]; decide)
theorem u5z {α : Type} {g : RT → RT} {v : RT → List α} {n : Nat} {w : RT} (h : w.2 = false) : jtV g v (n + 1) w = v w ++ jtV g v n (g w) := if_pos h
def JtI {α : Type} (g : RT → RT) (v : RT → List α) (n0 : Nat) (w0 : RT) (k : Nat) (w : RT) (o : List α) : Prop := jtS g n0 w0 = jtS g k w ∧ jtV g v n0 w0 = o ++ jtV g v k w
theorem JtI.zero {α : Type} (g : RT → RT) (v : RT → List α) (n0 : Nat) (w0 : RT) : JtI g v n0 w0 n0 w0 [] := ⟨rfl, rfl⟩
theorem JtI.step {α : Type} {g : RT → RT} {v : RT → List α} {n0 : Nat} {w0 : RT} {k : Nat} {a : Nat} {o : List α} (h : JtI g v n0 w0 k (a, false) o) (hk : 0 < k) : JtI g v n0 w0 (k - 1) (g (a, false)) (o ++ v (a, false)) := by
  obtain ⟨k, rfl⟩ : ∃ j, k = j + 1 := ⟨k - 1, by omega⟩
  refine ⟨by rw [h.1, k49 rfl]; rfl, ?_⟩
  rw [h.2, u5z rfl, List.append_assoc]; rfl
def cM (a : Nat) : RS := ⟨a, 0⟩
def rG (s : Nat) (l : List Int) (w : RT) : RT := if w.1 + s ≤ l.length then (w.1 + s, w.2) else (w.1, true)
def zsF (l : List Int) (w : RT) : RT := rG 4 l (rG 4 l w)
def zsX (l : List Int) (w : RT) : List Int := [yG l (cM w.1), yG l (cM (rG 4 l w).1)]
def zsS (l : List Int) (w : RT) : RT := jtS (zsF l) (k9 l (cM w.1)) (rG 2 l w)
def zsV (l : List Int) (w : RT) : List Int := jtV (zsF l) (zsX l) (k9 l (cM w.1)) (rG 2 l w)
def zcX (l : List Int) (w : RT) : List Int := [((k9 l (cM w.1) : Nat) : Int)]
def zcS (l : List Int) (w : RT) : RT := jtS (rG 2 l) (k9 l (cM w.1)) (rG 2 l w)
def zcV (l : List Int) (w : RT) : List Int := jtV (rG 2 l) (zcX l) (k9 l (cM w.1)) (rG 2 l w)
def zmX (l : List Int) (w : RT) : List (List Int) := [zcV l w]
def zmS (l : List Int) (w : RT) : RT := jtS (zcS l) (k9 l (cM w.1)) (rG 2 l w)
def zmV (l : List Int) (w : RT) : List (List Int) := jtV (zcS l) (zmX l) (k9 l (cM w.1)) (rG 2 l w)
def zbF (l : List Int) (w : RT) : RT := zsS l (zmS l (zsS l (rG 2 l w)))
def zbX (l : List Int) (w : RT) : List Bx := [vX ((k9 l (cM w.1) : Nat) : Int) (zsV l (rG 2 l w)) (List.length (zsV l (rG 2 l w)) / 2) (zmV l (zsS l (rG 2 l w))) (zsV l (zmS l (zsS l (rG 2 l w)))) (List.length (zsV l (zmS l (zsS l (rG 2 l w)))) / 2)]
/-! both readers -/
structure Rl (F : RS → RS) (G : RT → RT) : Prop where
  g : ∀ a, (G (a, false)).2 = false → F (cM a) = cM (G (a, false)).1
  b : ∀ a, (G (a, false)).2 = true → ¬ qA (F (cM a)) = 0
  s : ∀ w, w.2 = true → (G w).2 = true
  e : ∀ u, ¬ qA u = 0 → F u = u
theorem u4s {w : RT} (h : w.2 = false) : w = (w.1, false) := by rw [← h]
theorem Rl.comp {F F' : RS → RS} {G G' : RT → RT} (h : Rl F G) (h2 : Rl F' G') : Rl (fun u => F' (F u)) (fun w => G' (G w)) where
  g a hq := by
    cases e : (G (a, false)).2 with
    | false =>
      have e1 := u4s e
      have e2 := h.g a e
      show F' (F (cM a)) = cM (G' (G (a, false))).1
      have hq' : (G' (G (a, false))).2 = false := hq
      rw [e1] at hq' ⊢
      rw [e2]; exact h2.g _ hq'
    | true => have := h2.s _ e; rw [show (G' (G (a, false))).2 = false from hq] at this; cases this
  b a hq := by
    show ¬ qA (F' (F (cM a))) = 0
    cases e : (G (a, false)).2 with
    | false =>
      have e1 := u4s e
      have e2 := h.g a e
      have hq' : (G' (G (a, false))).2 = true := hq
      rw [e1] at hq'
      rw [e2]; exact h2.b _ hq'
    | true =>
      have h3 := h.b a e
      rw [h2.e _ h3]; exact h3
  s w hw := h2.s _ (h.s w hw)
  e u hu := by show F' (F u) = u; rw [h.e u hu, h2.e u hu]
theorem Rl.it {F : RS → RS} {G : RT → RT} (h : Rl F G) : ∀ n, Rl (oC F n) (jtS G n)
  | 0 => ⟨fun a _ => rfl, fun a hq => (by cases hq), fun w hw => hw, fun u _ => rfl⟩
  | n + 1 => by
    have h1 := h.comp (Rl.it h n)
    refine ⟨fun a hq => ?_, fun a hq => ?_, fun w hw => ?_, fun u hu => k0l hu⟩
    · rw [k49 rfl] at hq ⊢; rw [mB (show qA (cM a) = 0 from rfl)]; exact h1.g a hq
    · rw [k49 rfl] at hq; rw [mB (show qA (cM a) = 0 from rfl)]; exact h1.b a hq
    · rw [u60 hw]; exact hw
/-! chapter 11: the reference's reader, told by place and flag -/
def jgA (s : Nat) (l : List Int) (a : Nat) (f : Bool) : Nat := (rG s l (a, f)).1
def jgB (s : Nat) (l : List Int) (a : Nat) (f : Bool) : Bool := (rG s l (a, f)).2
def ttV (l : List Int) (a : Nat) : List Int := if g9 l a = 0 then List.take (uS l a) (List.drop (a + 1) l) else []
def jsA (l : List Int) (a : Nat) (f : Bool) : Nat := (zsS l (a, f)).1
def jsB (l : List Int) (a : Nat) (f : Bool) : Bool := (zsS l (a, f)).2
def jsV (l : List Int) (a : Nat) (f : Bool) : List Int := zsV l (a, f)
def jsC (l : List Int) (a : Nat) (f : Bool) : Nat := List.length (zsV l (a, f)) / 2
def ZsI (l : List Int) (a : Nat) (f : Bool) (k b : Nat) (g : Bool) (o : List Int) : Prop := JtI (zsF l) (zsX l) (k9 l (cM a)) (rG 2 l (a, f)) k (b, g) o
theorem ZsI.zero (l : List Int) (a : Nat) (f : Bool) : ZsI l a f (k9 l (cM a)) (jgA 2 l a f) (jgB 2 l a f) [] := JtI.zero _ _ _ _
theorem ZsI.step {l : List Int} {a : Nat} {f : Bool} {k b : Nat} {o : List Int} (h : ZsI l a f k b false o) (hk : 0 < k) : ZsI l a f (k - 1) (jgA 4 l (jgA 4 l b false) (jgB 4 l b false)) (jgB 4 l (jgA 4 l b false) (jgB 4 l b false)) (o ++ [yG l (cM b), yG l (cM (jgA 4 l b false))]) := JtI.step h hk
def jcA (l : List Int) (a : Nat) (f : Bool) : Nat := (zcS l (a, f)).1
def jcB (l : List Int) (a : Nat) (f : Bool) : Bool := (zcS l (a, f)).2
def jcV (l : List Int) (a : Nat) (f : Bool) : List Int := zcV l (a, f)
def ZcI (l : List Int) (a : Nat) (f : Bool) (k b : Nat) (g : Bool) (o : List Int) : Prop := JtI (rG 2 l) (zcX l) (k9 l (cM a)) (rG 2 l (a, f)) k (b, g) o
theorem ZcI.zero (l : List Int) (a : Nat) (f : Bool) : ZcI l a f (k9 l (cM a)) (jgA 2 l a f) (jgB 2 l a f) [] := JtI.zero _ _ _ _
theorem ZcI.step {l : List Int} {a : Nat} {f : Bool} {k b : Nat} {o : List Int} (h : ZcI l a f k b false o) (hk : 0 < k) : ZcI l a f (k - 1) (jgA 2 l b false) (jgB 2 l b false) (o ++ [((k9 l (cM b) : Nat) : Int)]) := JtI.step h hk
def jmA (l : List Int) (a : Nat) (f : Bool) : Nat := (zmS l (a, f)).1
def jmB (l : List Int) (a : Nat) (f : Bool) : Bool := (zmS l (a, f)).2
def jmV (l : List Int) (a : Nat) (f : Bool) : List (List Int) := zmV l (a, f)
def ZmI (l : List Int) (a : Nat) (f : Bool) (k b : Nat) (g : Bool) (o : List (List Int)) : Prop := JtI (zcS l) (zmX l) (k9 l (cM a)) (rG 2 l (a, f)) k (b, g) o
theorem ZmI.zero (l : List Int) (a : Nat) (f : Bool) : ZmI l a f (k9 l (cM a)) (jgA 2 l a f) (jgB 2 l a f) [] := JtI.zero _ _ _ _
theorem ZmI.step {l : List Int} {a : Nat} {f : Bool} {k b : Nat} {o : List (List Int)} {A : Nat} {B : Bool} {q : List Int} (h : ZmI l a f k b false o) (hk : 0 < k) (h1 : jcA l b false = A) (h2 : jcB l b false = B) (h3 : jcV l b false = q) : ZmI l a f (k - 1) A B (o ++ [q]) := by
  subst h1; subst h2; subst h3; exact JtI.step h hk
def jbA (l : List Int) (a : Nat) (f : Bool) : Nat := (zbF l (a, f)).1
def jbB (l : List Int) (a : Nat) (f : Bool) : Bool := (zbF l (a, f)).2
def ZbI (l : List Int) (a : Nat) (f : Bool) (k b : Nat) (g : Bool) (o : List Bx) : Prop := JtI (zbF l) (zbX l) (k9 l (cM a)) (rG 2 l (a, f)) k (b, g) o
theorem ZbI.zero (l : List Int) (a : Nat) (f : Bool) : ZbI l a f (k9 l (cM a)) (jgA 2 l a f) (jgB 2 l a f) [] := JtI.zero _ _ _ _
def j1A (l : List Int) (a : Nat) (f : Bool) : Nat := jgA 2 l a f
def j1B (l : List Int) (a : Nat) (f : Bool) : Bool := jgB 2 l a f
def j2A (l : List Int) (a : Nat) (f : Bool) : Nat := jsA l (j1A l a f) (j1B l a f)
def j2B (l : List Int) (a : Nat) (f : Bool) : Bool := jsB l (j1A l a f) (j1B l a f)
def j3A (l : List Int) (a : Nat) (f : Bool) : Nat := jmA l (j2A l a f) (j2B l a f)
def j3B (l : List Int) (a : Nat) (f : Bool) : Bool := jmB l (j2A l a f) (j2B l a f)
def jyR (l : List Int) (a : Nat) (f : Bool) : List Int := jsV l (j1A l a f) (j1B l a f)
def jyN (l : List Int) (a : Nat) (f : Bool) : Nat := jsC l (j1A l a f) (j1B l a f)
def jyM (l : List Int) (a : Nat) (f : Bool) : List (List Int) := jmV l (j2A l a f) (j2B l a f)
def jyS (l : List Int) (a : Nat) (f : Bool) : List Int := jsV l (j3A l a f) (j3B l a f)
def jyT (l : List Int) (a : Nat) (f : Bool) : Nat := jsC l (j3A l a f) (j3B l a f)
theorem ZbI.step {l : List Int} {a : Nat} {f : Bool} {k b : Nat} {o : List Bx} (h : ZbI l a f k b false o) (hk : 0 < k) : ZbI l a f (k - 1) (jbA l b false) (jbB l b false) (o ++ [vX ((k9 l (cM b) : Nat) : Int) (jyR l b false) (jyN l b false) (jyM l b false) (jyS l b false) (jyT l b false)]) := JtI.step h hk
structure JOk (p : List Int) (a1 a2 a3 a4 a5 a6 a8 : Nat) (o : List Bx) : Prop where
  q : qA (fA p qG) = 0 ∧ kV (fA p qG) = a8
  i : aO p qG = aO p (cM 4)
  t : bC p (dz1 p qG) = ttV p a1
  n2 : k9 p (jX p qG) = k9 p (cM a2)
  n3 : k9 p (jW p qG) = k9 p (cM a3)
  n4 : yG p (jV p qG) = yG p (cM a4)
  n5 : k9 p (jU p qG) = k9 p (cM a5)
  n6 : k9 p (jT p qG) = k9 p (cM a6)
  b : vR p (cG p qG) = o
theorem JOk.v {p : List Int} {a1 a2 a3 a4 a5 a6 a8 : Nat} {o : List Bx} (h : JOk p a1 a2 a3 a4 a5 a6 a8 o) : deV p = yK (ttV p a1) ((k9 p (cM a2) : Nat) : Int) ((k9 p (cM a3) : Nat) : Int) (yG p (cM a4)) ((k9 p (cM a5) : Nat) : Int) ((k9 p (cM a6) : Nat) : Int) o := by
  unfold deV; rw [h.t, h.n2, h.n3, h.n4, h.n5, h.n6, h.b]
theorem lA {p : Prop} (h : p := by first | exact decide_eq_true (by omega) | exact decide_eq_false (by omega)) : p := h
theorem jF (x : Int) (hx : 0 ≤ x ∧ x ≤ 255) : Fun 50 [.c (.d (D.lit (.int .u8 x)))] (kF []) 0 (kS (D.lit (.bool (mY x)))) (kF []) 0 := by
  refine Fun.mk (n := 17) Try.func50 rfl rfl (Nat.le_of_ble_eq_true rfl) ?_
  intro cx hcx
  refine kI [.no] True [(0, kS (D.lit (.int .u8 x)))] [] 0 trivial ?_
  by_cases hx1 : ((97 : Int) ≤ x)
  · by_cases hx2 : (x ≤ 122)
    · refine zr [.no, .b true, .no, .no, .b true, .no, .no, .no, .no] [2] [] ((((97 : Int) ≤ x)) ∧ ((x ≤ 122))) [(2, bV true)] [] 0 ⟨zo, zo⟩ ?_
      refine AW.ret ?_
      exact kC (.inr rfl) [] (P := ((mY x) = true)) zk lA
    · refine zr [.no, .b true, .no, .no, .b false, .no, .no, .no, .b true, .no, .no, .b false, .no, .no, .no] [2] [] ((((97 : Int) ≤ x)) ∧ (¬ (x ≤ 122)) ∧ (((65 : Int) ≤ x)) ∧ (¬ (x ≤ 90))) [(2, bV false)] [] 0 ⟨zo, zo, zo, zo⟩ ?_
      refine AW.ret ?_
      exact kC (.inr rfl) [] (P := ((mY x) = false)) zk lA
  · by_cases hx3 : ((65 : Int) ≤ x)
    · by_cases hx4 : (x ≤ 90)
      · refine zr (.no :: .b false :: kJ 4 [.b true, .no, .no, .b true, .no, .no, .no]) [2] [] ((¬ ((97 : Int) ≤ x)) ∧ (((65 : Int) ≤ x)) ∧ ((x ≤ 90))) [(2, bV true)] [] 0 ⟨zo, zo, zo⟩ ?_
        refine AW.ret ?_
        exact kC (.inr rfl) [] (P := ((mY x) = true)) zk lA
      · refine zr (.no :: .b false :: kJ 4 [.b true, .no, .no, .b false, .no, .no, .no]) [2] [] ((¬ ((97 : Int) ≤ x)) ∧ (((65 : Int) ≤ x)) ∧ (¬ (x ≤ 90))) [(2, bV false)] [] 0 ⟨zo, zo, zo⟩ ?_
        refine AW.ret ?_
        exact kC (.inr rfl) [] (P := ((mY x) = false)) zk lA
    · refine zr (.no :: .b false :: kJ 4 (.b false :: kJ 4 [])) [2] [] ((¬ ((97 : Int) ≤ x)) ∧ (¬ ((65 : Int) ≤ x))) [(2, bV false)] [] 0 ⟨zo, zo⟩ ?_
      refine AW.ret ?_
      exact kC (.inr rfl) [] (P := ((mY x) = false)) zk lA
theorem iA {p : Prop} (h : p := by first | omega | assumption | simp) : p := h
theorem dZ {p : Prop} (h : p := by first | omega | with_reducible assumption | (simp only [kU, kT, pbL_len, qD, qB, List.length_append, List.length_cons, List.length_nil, List.length_take, List.length_drop, List.length_replicate, List.length_set] <;> omega) | rfl | assumption) : p := h
theorem j9 {p : Prop} (h : p := by first | rfl | omega | assumption | (simp; done) | (simp; omega)) : p := h
theorem j8 {p : Prop} (h : p := by first | omega | (show _ < _; simp; omega)) : p := h
theorem uL (l : List Int) (hy : Byt l) (hb : List.length l ≤ 9223372036854775807) : Fun 33 [.c (.d (D.lit (.string (strOfNums l))))] (kF []) 0 (kS (D.lit (.bool (uZ l)))) (kF []) 0 := by
  refine Fun.mk (n := 48) Try.func33 rfl rfl (Nat.le_of_ble_eq_true rfl) ?_
  intro cx hcx
  refine kI [.no] True [(0, kS (D.lit (.string (strOfNums l))))] [] 0 trivial ?_
  refine AW.seq ?_
  refine k8 [.no] True [(0, kS (D.lit (.string (strOfNums l)))), (3, iV 0)] trivial ?_
  refine AW.block ?_
  refine kX 0 hcx (fun (x : {x : Nat // match x with | k => (k ≤ List.length l) ∧ (∀ j, j < k → (oH (List.getD l j 0) = true ∧ (j = 0 → mY (List.getD l 0 0) = true)))}) => match x with | ⟨k, _⟩ => (⟨[(0, kS (D.lit (.string (strOfNums l)))), (3, uV k)], [], 0⟩ : ES)) (fun x => match x with | ⟨k, _⟩ => List.length l - k) ⟨(0 : Nat), ⟨iA, (fun j hj => absurd hj (Nat.not_lt_zero j))⟩⟩ [] (P := ((.string (strOfNums l) : Value) = .string (strOfNums l)) ∧ (kN 0)) zk ⟨rfl, rfl⟩ ?_
  rintro ⟨k, hinv0⟩
  obtain ⟨hk, ha⟩ : (k ≤ List.length l) ∧ (∀ j, j < k → (oH (List.getD l j 0) = true ∧ (j = 0 → mY (List.getD l 0 0) = true))) := hinv0
  refine qU (l := [(0, kS (D.lit (.string (strOfNums l)))), (3, uV k)]) (g := []) (nx := 0) rfl rfl rfl ?_
  refine AW.seq ?_
  by_cases hx1 : (((k : Nat) : Int) < (((List.length l) : Nat) : Int))
  · refine zr [.no, .no, .i (List.length l : Int), .b true] [0, 3, 8] [] (((ByteArray.size (strOfNums l) : Int) = ((List.length l : Int) : Int)) ∧ (((k : Int) < (List.length l : Int)))) [(0, kS (D.lit (.string (strOfNums l)))), (3, uV k), (8, bV true)] [] 0 ⟨(by rw [strOfNums_size]), zo⟩ ?_
    refine vD ?_
    refine AW.seq ?_
    refine AW.block ?_
    have hx2 : 0 ≤ (List.getD l k 0) ∧ (List.getD l k 0) ≤ 255 := Byt.at (kQ : Byt l) _ (by first | omega | (simp only [List.length_drop, List.length_take]; omega))
    refine kI [.no, .no, .i (List.getD l k 0), .no] (eC (strOfNums l) ((k : Int) : Int) = some ((List.getD l k 0) : Int)) [(0, kS (D.lit (.string (strOfNums l)))), (3, uV k), (4, kS (D.lit (.int .u8 (List.getD l k 0))))] [] 0 (by have h9 := gW (l := l) (Byt.at (kQ : Byt l)) (k := k) (by first | omega | (simp only [List.length_drop, List.length_take]; omega)); exact h9) ?_
    rcases Bool.eq_false_or_eq_true (mY (List.getD l k 0)) with hx3 | hx3
    · refine zr [.no, .call [] (bV true) [] 0 [] none, .no, .no, .no] [0, 3, 40] [] (Fun 50 [.c (.d (D.lit (.int .u8 (List.getD l k 0))))] (kF []) 0 (bV true) (kF []) 0) [(0, kS (D.lit (.string (strOfNums l)))), (3, uV k), (40, bV false)] [] 0 (by have h0 := (jF (List.getD l k 0) dZ); rw [hx3] at h0; exact h0) ?_
      refine yC ?_
      refine v7 [.no, .w, .no] (qJ ((k : Int) + 1)) [(0, kS (D.lit (.string (strOfNums l)))), (3, iV (↑k + 1))] [] 0 ⟨by omega, by omega⟩ ?_
      exact qE ⟨((k + 1) : Nat), ⟨iA, (fun j hj => (Nat.lt_succ_iff_lt_or_eq.1 hj).elim (ha j) (fun e9 => by subst e9; first | exact ⟨l7 (by assumption), fun h0 => by subst h0; assumption⟩ | exact ⟨xQ zo, fun h0 => by omega⟩))⟩⟩ [] (P := ((.string (strOfNums l) : Value) = .string (strOfNums l)) ∧ (q1S k)) zk ⟨rfl, j9⟩ (show List.length l - (k + 1) < List.length l - k from j8)
    · by_cases hx4 : (((k : Nat) : Int) = 0)
      · refine zr [.no, .call [] (bV false) [] 0 [] none, .no, .no, .no, .b true, .no, .no, .no] [0, 3, 40] [] ((Fun 50 [.c (.d (D.lit (.int .u8 (List.getD l k 0))))] (kF []) 0 (bV false) (kF []) 0) ∧ (((k : Int) = 0))) [(0, kS (D.lit (.string (strOfNums l)))), (3, uV k), (40, bV true)] [] 0 ⟨(by have h0 := (jF (List.getD l k 0) dZ); rw [hx3] at h0; exact h0), zo⟩ ?_
        refine zt ?_
        refine kI [.no] True [(2, bV false)] [] 0 trivial ?_
        refine AW.ret ?_
        exact kC (.inr rfl) [] (P := ((uZ l) = false)) zk (by first | exact bI zo | exact bJ (k := k) zo (xR (by assumption) zo) | (obtain rfl : k = 0 := zo; exact bK (by assumption)) | exact bH zo ((ha 0 zo).2 rfl) (fun j hj => (ha j zo).1))
      · by_cases hx5 : ((List.getD l k 0) < 48)
        · by_cases hx6 : ((List.getD l k 0) ≠ 45)
          · by_cases hx7 : ((List.getD l k 0) ≠ 46)
            · refine zr [.no, .call [] (bV false) [] 0 [] none, .no, .no, .no, .b false, .no, .no, .b true, .no, .no, .no, .no, .b true, .no, .no, .no, .b true, .no, .no, .no, .b true, .no, .no, .no] [0, 3, 40] [] ((Fun 50 [.c (.d (D.lit (.int .u8 (List.getD l k 0))))] (kF []) 0 (bV false) (kF []) 0) ∧ (¬ ((k : Int) = 0)) ∧ (((List.getD l k 0) < 48)) ∧ (((List.getD l k 0) ≠ 45)) ∧ (((List.getD l k 0) ≠ 46)) ∧ (((List.getD l k 0) ≠ 95))) [(0, kS (D.lit (.string (strOfNums l)))), (3, uV k), (40, bV true)] [] 0 ⟨(by have h0 := (jF (List.getD l k 0) dZ); rw [hx3] at h0; exact h0), zo, zo, zo, zo, zo⟩ ?_
              refine zt ?_
              refine kI [.no] True [(2, bV false)] [] 0 trivial ?_
              refine AW.ret ?_
              exact kC (.inr rfl) [] (P := ((uZ l) = false)) zk (by first | exact bI zo | exact bJ (k := k) zo (xR (by assumption) zo) | (obtain rfl : k = 0 := zo; exact bK (by assumption)) | exact bH zo ((ha 0 zo).2 rfl) (fun j hj => (ha j zo).1))
            · refine zr [.no, .call [] (bV false) [] 0 [] none, .no, .no, .no, .b false, .no, .no, .b true, .no, .no, .no, .no, .b true, .no, .no, .no, .b false, .no, .no, .no, .no, .no] [0, 3, 40] [] ((Fun 50 [.c (.d (D.lit (.int .u8 (List.getD l k 0))))] (kF []) 0 (bV false) (kF []) 0) ∧ (¬ ((k : Int) = 0)) ∧ (((List.getD l k 0) < 48)) ∧ (((List.getD l k 0) ≠ 45)) ∧ (¬ ((List.getD l k 0) ≠ 46))) [(0, kS (D.lit (.string (strOfNums l)))), (3, uV k), (40, bV false)] [] 0 ⟨(by have h0 := (jF (List.getD l k 0) dZ); rw [hx3] at h0; exact h0), zo, zo, zo, zo⟩ ?_
              refine yC ?_
              refine v7 [.no, .w, .no] (qJ ((k : Int) + 1)) [(0, kS (D.lit (.string (strOfNums l)))), (3, iV (↑k + 1))] [] 0 ⟨by omega, by omega⟩ ?_
              exact qE ⟨((k + 1) : Nat), ⟨iA, (fun j hj => (Nat.lt_succ_iff_lt_or_eq.1 hj).elim (ha j) (fun e9 => by subst e9; first | exact ⟨l7 (by assumption), fun h0 => by subst h0; assumption⟩ | exact ⟨xQ zo, fun h0 => by omega⟩))⟩⟩ [] (P := ((.string (strOfNums l) : Value) = .string (strOfNums l)) ∧ (q1S k)) zk ⟨rfl, j9⟩ (show List.length l - (k + 1) < List.length l - k from j8)
          · refine zr (.no :: .call [] (bV false) [] 0 [] none :: .no :: .no :: .no :: .b false :: .no :: .no :: .b true :: kJ 4 (.b false :: kJ 7 [])) [0, 3, 40] [] ((Fun 50 [.c (.d (D.lit (.int .u8 (List.getD l k 0))))] (kF []) 0 (bV false) (kF []) 0) ∧ (¬ ((k : Int) = 0)) ∧ (((List.getD l k 0) < 48)) ∧ (¬ ((List.getD l k 0) ≠ 45))) [(0, kS (D.lit (.string (strOfNums l)))), (3, uV k), (40, bV false)] [] 0 ⟨(by have h0 := (jF (List.getD l k 0) dZ); rw [hx3] at h0; exact h0), zo, zo, zo⟩ ?_
            refine yC ?_
            refine v7 [.no, .w, .no] (qJ ((k : Int) + 1)) [(0, kS (D.lit (.string (strOfNums l)))), (3, iV (↑k + 1))] [] 0 ⟨by omega, by omega⟩ ?_
            exact qE ⟨((k + 1) : Nat), ⟨iA, (fun j hj => (Nat.lt_succ_iff_lt_or_eq.1 hj).elim (ha j) (fun e9 => by subst e9; first | exact ⟨l7 (by assumption), fun h0 => by subst h0; assumption⟩ | exact ⟨xQ zo, fun h0 => by omega⟩))⟩⟩ [] (P := ((.string (strOfNums l) : Value) = .string (strOfNums l)) ∧ (q1S k)) zk ⟨rfl, j9⟩ (show List.length l - (k + 1) < List.length l - k from j8)
        · by_cases hx8 : ((57 : Int) < (List.getD l k 0))
          · by_cases hx9 : ((List.getD l k 0) ≠ 95)
            · refine zr [.no, .call [] (bV false) [] 0 [] none, .no, .no, .no, .b false, .no, .no, .b false, .no, .no, .b true, .no, .no, .no, .b true, .no, .no, .no, .b true, .no, .no, .no, .b true, .no, .no, .no] [0, 3, 40] [] ((Fun 50 [.c (.d (D.lit (.int .u8 (List.getD l k 0))))] (kF []) 0 (bV false) (kF []) 0) ∧ (¬ ((k : Int) = 0)) ∧ (¬ ((List.getD l k 0) < 48)) ∧ (((57 : Int) < (List.getD l k 0))) ∧ (((List.getD l k 0) ≠ 45)) ∧ (((List.getD l k 0) ≠ 46)) ∧ (((List.getD l k 0) ≠ 95))) [(0, kS (D.lit (.string (strOfNums l)))), (3, uV k), (40, bV true)] [] 0 ⟨(by have h0 := (jF (List.getD l k 0) dZ); rw [hx3] at h0; exact h0), zo, zo, zo, zo, zo, zo⟩ ?_
              refine zt ?_
              refine kI [.no] True [(2, bV false)] [] 0 trivial ?_
              refine AW.ret ?_
              exact kC (.inr rfl) [] (P := ((uZ l) = false)) zk (by first | exact bI zo | exact bJ (k := k) zo (xR (by assumption) zo) | (obtain rfl : k = 0 := zo; exact bK (by assumption)) | exact bH zo ((ha 0 zo).2 rfl) (fun j hj => (ha j zo).1))
            · refine zr [.no, .call [] (bV false) [] 0 [] none, .no, .no, .no, .b false, .no, .no, .b false, .no, .no, .b true, .no, .no, .no, .b true, .no, .no, .no, .b true, .no, .no, .no, .b false, .no, .no, .no] [0, 3, 40] [] ((Fun 50 [.c (.d (D.lit (.int .u8 (List.getD l k 0))))] (kF []) 0 (bV false) (kF []) 0) ∧ (¬ ((k : Int) = 0)) ∧ (¬ ((List.getD l k 0) < 48)) ∧ (((57 : Int) < (List.getD l k 0))) ∧ (((List.getD l k 0) ≠ 45)) ∧ (((List.getD l k 0) ≠ 46)) ∧ (¬ ((List.getD l k 0) ≠ 95))) [(0, kS (D.lit (.string (strOfNums l)))), (3, uV k), (40, bV false)] [] 0 ⟨(by have h0 := (jF (List.getD l k 0) dZ); rw [hx3] at h0; exact h0), zo, zo, zo, zo, zo, zo⟩ ?_
              refine yC ?_
              refine v7 [.no, .w, .no] (qJ ((k : Int) + 1)) [(0, kS (D.lit (.string (strOfNums l)))), (3, iV (↑k + 1))] [] 0 ⟨by omega, by omega⟩ ?_
              exact qE ⟨((k + 1) : Nat), ⟨iA, (fun j hj => (Nat.lt_succ_iff_lt_or_eq.1 hj).elim (ha j) (fun e9 => by subst e9; first | exact ⟨l7 (by assumption), fun h0 => by subst h0; assumption⟩ | exact ⟨xQ zo, fun h0 => by omega⟩))⟩⟩ [] (P := ((.string (strOfNums l) : Value) = .string (strOfNums l)) ∧ (q1S k)) zk ⟨rfl, j9⟩ (show List.length l - (k + 1) < List.length l - k from j8)
          · refine zr (.no :: .call [] (bV false) [] 0 [] none :: .no :: .no :: .no :: .b false :: .no :: .no :: .b false :: .no :: .no :: .b false :: kJ 9 []) [0, 3, 40] [] ((Fun 50 [.c (.d (D.lit (.int .u8 (List.getD l k 0))))] (kF []) 0 (bV false) (kF []) 0) ∧ (¬ ((k : Int) = 0)) ∧ (¬ ((List.getD l k 0) < 48)) ∧ (¬ ((57 : Int) < (List.getD l k 0)))) [(0, kS (D.lit (.string (strOfNums l)))), (3, uV k), (40, bV false)] [] 0 ⟨(by have h0 := (jF (List.getD l k 0) dZ); rw [hx3] at h0; exact h0), zo, zo, zo⟩ ?_
            refine yC ?_
            refine v7 [.no, .w, .no] (qJ ((k : Int) + 1)) [(0, kS (D.lit (.string (strOfNums l)))), (3, iV (↑k + 1))] [] 0 ⟨by omega, by omega⟩ ?_
            exact qE ⟨((k + 1) : Nat), ⟨iA, (fun j hj => (Nat.lt_succ_iff_lt_or_eq.1 hj).elim (ha j) (fun e9 => by subst e9; first | exact ⟨l7 (by assumption), fun h0 => by subst h0; assumption⟩ | exact ⟨xQ zo, fun h0 => by omega⟩))⟩⟩ [] (P := ((.string (strOfNums l) : Value) = .string (strOfNums l)) ∧ (q1S k)) zk ⟨rfl, j9⟩ (show List.length l - (k + 1) < List.length l - k from j8)
  · refine zr [.no, .no, .i (List.length l : Int), .b false] [0, 3, 8] [] (((ByteArray.size (strOfNums l) : Int) = ((List.length l : Int) : Int)) ∧ (¬ ((k : Int) < (List.length l : Int)))) [(0, kS (D.lit (.string (strOfNums l)))), (3, uV k), (8, bV false)] [] 0 ⟨(by rw [strOfNums_size]), zo⟩ ?_
    refine zf ?_
    refine AW.exit ?_
    by_cases hx10 : ((List.length l) = 0)
    · refine zr [.no, .b false, .no, .no, .no] [2] [] ((!(ByteArray.toList (strOfNums l) == ByteArray.toList (ByteArray.mk #[]))) = false) [(2, bV false)] [] 0 (by rw [show (ByteArray.toList (strOfNums l) == ByteArray.toList (ByteArray.mk #[])) = true from (k9v (by omega))]; rfl) ?_
      refine AW.ret ?_
      exact kC (.inr rfl) [] (P := ((uZ l) = false)) zk (by first | exact bI zo | exact bJ (k := k) zo (xR (by assumption) zo) | (obtain rfl : k = 0 := zo; exact bK (by assumption)) | exact bH zo ((ha 0 zo).2 rfl) (fun j hj => (ha j zo).1))
    · by_cases hx11 : ((((List.length l) : Nat) : Int) ≤ 64)
      · refine zr [.no, .b true, .no, .no, .i (List.length l : Int), .b true, .no, .no] [2] [] (((!(ByteArray.toList (strOfNums l) == ByteArray.toList (ByteArray.mk #[]))) = true) ∧ ((ByteArray.size (strOfNums l) : Int) = ((List.length l : Int) : Int)) ∧ (((List.length l : Int) ≤ 64))) [(2, bV true)] [] 0 ⟨(by rw [show (ByteArray.toList (strOfNums l) == ByteArray.toList (ByteArray.mk #[])) = false from (lL (by omega))]; rfl), (by rw [strOfNums_size]), zo⟩ ?_
        refine AW.ret ?_
        exact kC (.inr rfl) [] (P := ((uZ l) = true)) zk (by first | exact bI zo | exact bJ (k := k) zo (xR (by assumption) zo) | (obtain rfl : k = 0 := zo; exact bK (by assumption)) | exact bH zo ((ha 0 zo).2 rfl) (fun j hj => (ha j zo).1))
      · refine zr [.no, .b true, .no, .no, .i (List.length l : Int), .b false, .no, .no] [2] [] (((!(ByteArray.toList (strOfNums l) == ByteArray.toList (ByteArray.mk #[]))) = true) ∧ ((ByteArray.size (strOfNums l) : Int) = ((List.length l : Int) : Int)) ∧ (¬ ((List.length l : Int) ≤ 64))) [(2, bV false)] [] 0 ⟨(by rw [show (ByteArray.toList (strOfNums l) == ByteArray.toList (ByteArray.mk #[])) = false from (lL (by omega))]; rfl), (by rw [strOfNums_size]), zo⟩ ?_
        refine AW.ret ?_
        exact kC (.inr rfl) [] (P := ((uZ l) = false)) zk (by first | exact bI zo | exact bJ (k := k) zo (xR (by assumption) zo) | (obtain rfl : k = 0 := zo; exact bK (by assumption)) | exact bH zo ((ha 0 zo).2 rfl) (fun j hj => (ha j zo).1))
theorem uJ {p : Prop} (h : p := by first | exact u44 (by assumption) | exact u17 (by assumption) (by omega) (by assumption) | exact u45 (by assumption) | exact u43 (by omega)) : p := h
theorem sL (id : Int) (nm : List Int) (d1 d2 d3 d4 d5 : Int) (bs : List Bx) (n : Nat) (hy : Byt nm) (hl : List.length nm ≤ 1000000) (hn : List.length bs = n) (h1 : n ≤ 1000000) (hW : BsW bs) : Fun 11 [.agg [.d (D.lit (.int .u64 id)), .d (D.lit (.string (strOfNums nm))), iC d1, iC d2, iC d3, iC d4, iC d5, .d (D.sl (kR bs) n)]] (kF []) 0 (kS (D.lit (.bool (yK nm d1 d2 d3 d4 d5 bs)))) (kF []) 0 := by
  refine Fun.mk (n := 73) Try.func11 rfl rfl (Nat.le_of_ble_eq_true rfl) ?_
  intro cx hcx
  refine kI [.no, .no] True [(1, rV 0 0)] [(0, some (25, .ds [D.lit (.int .u64 id), D.lit (.string (strOfNums nm)), iD d1, iD d2, iD d3, iD d4, iD d5, D.sl (kR bs) n]))] 1 trivial ?_
  rcases Bool.eq_false_or_eq_true (uZ nm) with hx1 | hx1
  · by_cases hx2 : (d1 = 1)
    · by_cases hx3 : ((0 : Int) ≤ d2)
      · by_cases hx4 : (d2 ≤ 65535)
        · by_cases hx5 : ((0 : Int) ≤ d3)
          · by_cases hx6 : (d3 ≤ 1048576)
            · by_cases hx7 : ((0 : Int) ≤ d4)
              · by_cases hx8 : (d4 ≤ 2048)
                · by_cases hx9 : ((0 : Int) ≤ d5)
                  · by_cases hx10 : (d5 ≤ 4096)
                    · by_cases hx11 : ((1 : Int) ≤ ((n : Nat) : Int))
                      · by_cases hx12 : (((n : Nat) : Int) ≤ 8)
                        · rcases Bool.eq_false_or_eq_true (iI bs) with hx13 | hx13
                          · refine zr (.no :: .no :: .call [] (bV true) [] 0 [] none :: .no :: .no :: .no :: .b true :: kJ 6 (.b true :: kJ 4 (.b true :: kJ 4 (.b true :: kJ 4 (.b true :: kJ 4 (.b true :: kJ 4 (.b true :: kJ 4 (.b true :: kJ 4 (.b true :: kJ 5 (.b true :: kJ 5 (.b true :: kJ 4 [.call [] (bV true) [] 0 [] none, .no, .no]))))))))))) [2] [] ((Fun 33 [.c (.d (D.lit (.string (strOfNums nm))))] (kF []) 0 (bV true) (kF []) 0) ∧ ((d1 = 1)) ∧ (((0 : Int) ≤ d2)) ∧ ((d2 ≤ 65535)) ∧ (((0 : Int) ≤ d3)) ∧ ((d3 ≤ 1048576)) ∧ (((0 : Int) ≤ d4)) ∧ ((d4 ≤ 2048)) ∧ (((0 : Int) ≤ d5)) ∧ ((d5 ≤ 4096)) ∧ (((1 : Int) ≤ (n : Int))) ∧ (((n : Int) ≤ 8)) ∧ (Fun 34 [.c (.d (D.sl (kR bs) n))] (kF []) 0 (bV true) (kF []) 0)) [(2, bV true)] [] 1 ⟨(by have h0 := (uL nm (kQ : Byt nm) zo); rw [hx1] at h0; exact h0), zo, zo, zo, zo, zo, zo, zo, zo, zo, zo, zo, (by have h0 := (g6 bs n zo zo (kQ : BsW bs)); rw [hx13] at h0; exact h0)⟩ ?_
                            refine AW.ret ?_
                            exact kC (.inr rfl) [] (P := ((yK nm d1 d2 d3 d4 d5 bs) = true)) zk uJ
                          · refine zr (.no :: .no :: .call [] (bV true) [] 0 [] none :: .no :: .no :: .no :: .b true :: kJ 6 (.b true :: kJ 4 (.b true :: kJ 4 (.b true :: kJ 4 (.b true :: kJ 4 (.b true :: kJ 4 (.b true :: kJ 4 (.b true :: kJ 4 (.b true :: kJ 5 (.b true :: kJ 5 (.b true :: kJ 4 [.call [] (bV false) [] 0 [] none, .no, .no]))))))))))) [2] [] ((Fun 33 [.c (.d (D.lit (.string (strOfNums nm))))] (kF []) 0 (bV true) (kF []) 0) ∧ ((d1 = 1)) ∧ (((0 : Int) ≤ d2)) ∧ ((d2 ≤ 65535)) ∧ (((0 : Int) ≤ d3)) ∧ ((d3 ≤ 1048576)) ∧ (((0 : Int) ≤ d4)) ∧ ((d4 ≤ 2048)) ∧ (((0 : Int) ≤ d5)) ∧ ((d5 ≤ 4096)) ∧ (((1 : Int) ≤ (n : Int))) ∧ (((n : Int) ≤ 8)) ∧ (Fun 34 [.c (.d (D.sl (kR bs) n))] (kF []) 0 (bV false) (kF []) 0)) [(2, bV false)] [] 1 ⟨(by have h0 := (uL nm (kQ : Byt nm) zo); rw [hx1] at h0; exact h0), zo, zo, zo, zo, zo, zo, zo, zo, zo, zo, zo, (by have h0 := (g6 bs n zo zo (kQ : BsW bs)); rw [hx13] at h0; exact h0)⟩ ?_
                            refine AW.ret ?_
                            exact kC (.inr rfl) [] (P := ((yK nm d1 d2 d3 d4 d5 bs) = false)) zk uJ
                        · refine zr (.no :: .no :: .call [] (bV true) [] 0 [] none :: .no :: .no :: .no :: .b true :: kJ 6 (.b true :: kJ 4 (.b true :: kJ 4 (.b true :: kJ 4 (.b true :: kJ 4 (.b true :: kJ 4 (.b true :: kJ 4 (.b true :: kJ 4 (.b true :: kJ 5 (.b true :: kJ 5 (.b false :: kJ 4 []))))))))))) [2] [] ((Fun 33 [.c (.d (D.lit (.string (strOfNums nm))))] (kF []) 0 (bV true) (kF []) 0) ∧ ((d1 = 1)) ∧ (((0 : Int) ≤ d2)) ∧ ((d2 ≤ 65535)) ∧ (((0 : Int) ≤ d3)) ∧ ((d3 ≤ 1048576)) ∧ (((0 : Int) ≤ d4)) ∧ ((d4 ≤ 2048)) ∧ (((0 : Int) ≤ d5)) ∧ ((d5 ≤ 4096)) ∧ (((1 : Int) ≤ (n : Int))) ∧ (¬ ((n : Int) ≤ 8))) [(2, bV false)] [] 1 ⟨(by have h0 := (uL nm (kQ : Byt nm) zo); rw [hx1] at h0; exact h0), zo, zo, zo, zo, zo, zo, zo, zo, zo, zo, zo⟩ ?_
                          refine AW.ret ?_
                          exact kC (.inr rfl) [] (P := ((yK nm d1 d2 d3 d4 d5 bs) = false)) zk uJ
                      · refine zr (.no :: .no :: .call [] (bV true) [] 0 [] none :: .no :: .no :: .no :: .b true :: kJ 6 (.b true :: kJ 4 (.b true :: kJ 4 (.b true :: kJ 4 (.b true :: kJ 4 (.b true :: kJ 4 (.b true :: kJ 4 (.b true :: kJ 4 (.b true :: kJ 5 (.b false :: kJ 6 [])))))))))) [2] [] ((Fun 33 [.c (.d (D.lit (.string (strOfNums nm))))] (kF []) 0 (bV true) (kF []) 0) ∧ ((d1 = 1)) ∧ (((0 : Int) ≤ d2)) ∧ ((d2 ≤ 65535)) ∧ (((0 : Int) ≤ d3)) ∧ ((d3 ≤ 1048576)) ∧ (((0 : Int) ≤ d4)) ∧ ((d4 ≤ 2048)) ∧ (((0 : Int) ≤ d5)) ∧ ((d5 ≤ 4096)) ∧ (¬ ((1 : Int) ≤ (n : Int)))) [(2, bV false)] [] 1 ⟨(by have h0 := (uL nm (kQ : Byt nm) zo); rw [hx1] at h0; exact h0), zo, zo, zo, zo, zo, zo, zo, zo, zo, zo⟩ ?_
                        refine AW.ret ?_
                        exact kC (.inr rfl) [] (P := ((yK nm d1 d2 d3 d4 d5 bs) = false)) zk uJ
                    · refine zr (.no :: .no :: .call [] (bV true) [] 0 [] none :: .no :: .no :: .no :: .b true :: kJ 6 (.b true :: kJ 4 (.b true :: kJ 4 (.b true :: kJ 4 (.b true :: kJ 4 (.b true :: kJ 4 (.b true :: kJ 4 (.b true :: kJ 4 (.b false :: kJ 8 []))))))))) [2] [] ((Fun 33 [.c (.d (D.lit (.string (strOfNums nm))))] (kF []) 0 (bV true) (kF []) 0) ∧ ((d1 = 1)) ∧ (((0 : Int) ≤ d2)) ∧ ((d2 ≤ 65535)) ∧ (((0 : Int) ≤ d3)) ∧ ((d3 ≤ 1048576)) ∧ (((0 : Int) ≤ d4)) ∧ ((d4 ≤ 2048)) ∧ (((0 : Int) ≤ d5)) ∧ (¬ (d5 ≤ 4096))) [(2, bV false)] [] 1 ⟨(by have h0 := (uL nm (kQ : Byt nm) zo); rw [hx1] at h0; exact h0), zo, zo, zo, zo, zo, zo, zo, zo, zo⟩ ?_
                      refine AW.ret ?_
                      exact kC (.inr rfl) [] (P := ((yK nm d1 d2 d3 d4 d5 bs) = false)) zk uJ
                  · refine zr (.no :: .no :: .call [] (bV true) [] 0 [] none :: .no :: .no :: .no :: .b true :: kJ 6 (.b true :: kJ 4 (.b true :: kJ 4 (.b true :: kJ 4 (.b true :: kJ 4 (.b true :: kJ 4 (.b true :: kJ 4 (.b false :: kJ 10 [])))))))) [2] [] ((Fun 33 [.c (.d (D.lit (.string (strOfNums nm))))] (kF []) 0 (bV true) (kF []) 0) ∧ ((d1 = 1)) ∧ (((0 : Int) ≤ d2)) ∧ ((d2 ≤ 65535)) ∧ (((0 : Int) ≤ d3)) ∧ ((d3 ≤ 1048576)) ∧ (((0 : Int) ≤ d4)) ∧ ((d4 ≤ 2048)) ∧ (¬ ((0 : Int) ≤ d5))) [(2, bV false)] [] 1 ⟨(by have h0 := (uL nm (kQ : Byt nm) zo); rw [hx1] at h0; exact h0), zo, zo, zo, zo, zo, zo, zo, zo⟩ ?_
                    refine AW.ret ?_
                    exact kC (.inr rfl) [] (P := ((yK nm d1 d2 d3 d4 d5 bs) = false)) zk uJ
                · refine zr (.no :: .no :: .call [] (bV true) [] 0 [] none :: .no :: .no :: .no :: .b true :: kJ 6 (.b true :: kJ 4 (.b true :: kJ 4 (.b true :: kJ 4 (.b true :: kJ 4 (.b true :: kJ 4 (.b false :: kJ 12 []))))))) [2] [] ((Fun 33 [.c (.d (D.lit (.string (strOfNums nm))))] (kF []) 0 (bV true) (kF []) 0) ∧ ((d1 = 1)) ∧ (((0 : Int) ≤ d2)) ∧ ((d2 ≤ 65535)) ∧ (((0 : Int) ≤ d3)) ∧ ((d3 ≤ 1048576)) ∧ (((0 : Int) ≤ d4)) ∧ (¬ (d4 ≤ 2048))) [(2, bV false)] [] 1 ⟨(by have h0 := (uL nm (kQ : Byt nm) zo); rw [hx1] at h0; exact h0), zo, zo, zo, zo, zo, zo, zo⟩ ?_
                  refine AW.ret ?_
                  exact kC (.inr rfl) [] (P := ((yK nm d1 d2 d3 d4 d5 bs) = false)) zk uJ
              · refine zr (.no :: .no :: .call [] (bV true) [] 0 [] none :: .no :: .no :: .no :: .b true :: kJ 6 (.b true :: kJ 4 (.b true :: kJ 4 (.b true :: kJ 4 (.b true :: kJ 4 (.b false :: kJ 14 [])))))) [2] [] ((Fun 33 [.c (.d (D.lit (.string (strOfNums nm))))] (kF []) 0 (bV true) (kF []) 0) ∧ ((d1 = 1)) ∧ (((0 : Int) ≤ d2)) ∧ ((d2 ≤ 65535)) ∧ (((0 : Int) ≤ d3)) ∧ ((d3 ≤ 1048576)) ∧ (¬ ((0 : Int) ≤ d4))) [(2, bV false)] [] 1 ⟨(by have h0 := (uL nm (kQ : Byt nm) zo); rw [hx1] at h0; exact h0), zo, zo, zo, zo, zo, zo⟩ ?_
                refine AW.ret ?_
                exact kC (.inr rfl) [] (P := ((yK nm d1 d2 d3 d4 d5 bs) = false)) zk uJ
            · refine zr (.no :: .no :: .call [] (bV true) [] 0 [] none :: .no :: .no :: .no :: .b true :: kJ 6 (.b true :: kJ 4 (.b true :: kJ 4 (.b true :: kJ 4 (.b false :: kJ 16 []))))) [2] [] ((Fun 33 [.c (.d (D.lit (.string (strOfNums nm))))] (kF []) 0 (bV true) (kF []) 0) ∧ ((d1 = 1)) ∧ (((0 : Int) ≤ d2)) ∧ ((d2 ≤ 65535)) ∧ (((0 : Int) ≤ d3)) ∧ (¬ (d3 ≤ 1048576))) [(2, bV false)] [] 1 ⟨(by have h0 := (uL nm (kQ : Byt nm) zo); rw [hx1] at h0; exact h0), zo, zo, zo, zo, zo⟩ ?_
              refine AW.ret ?_
              exact kC (.inr rfl) [] (P := ((yK nm d1 d2 d3 d4 d5 bs) = false)) zk uJ
          · refine zr (.no :: .no :: .call [] (bV true) [] 0 [] none :: .no :: .no :: .no :: .b true :: kJ 6 (.b true :: kJ 4 (.b true :: kJ 4 (.b false :: kJ 18 [])))) [2] [] ((Fun 33 [.c (.d (D.lit (.string (strOfNums nm))))] (kF []) 0 (bV true) (kF []) 0) ∧ ((d1 = 1)) ∧ (((0 : Int) ≤ d2)) ∧ ((d2 ≤ 65535)) ∧ (¬ ((0 : Int) ≤ d3))) [(2, bV false)] [] 1 ⟨(by have h0 := (uL nm (kQ : Byt nm) zo); rw [hx1] at h0; exact h0), zo, zo, zo, zo⟩ ?_
            refine AW.ret ?_
            exact kC (.inr rfl) [] (P := ((yK nm d1 d2 d3 d4 d5 bs) = false)) zk uJ
        · refine zr (.no :: .no :: .call [] (bV true) [] 0 [] none :: .no :: .no :: .no :: .b true :: kJ 6 (.b true :: kJ 4 (.b false :: kJ 20 []))) [2] [] ((Fun 33 [.c (.d (D.lit (.string (strOfNums nm))))] (kF []) 0 (bV true) (kF []) 0) ∧ ((d1 = 1)) ∧ (((0 : Int) ≤ d2)) ∧ (¬ (d2 ≤ 65535))) [(2, bV false)] [] 1 ⟨(by have h0 := (uL nm (kQ : Byt nm) zo); rw [hx1] at h0; exact h0), zo, zo, zo⟩ ?_
          refine AW.ret ?_
          exact kC (.inr rfl) [] (P := ((yK nm d1 d2 d3 d4 d5 bs) = false)) zk uJ
      · refine zr (.no :: .no :: .call [] (bV true) [] 0 [] none :: .no :: .no :: .no :: .b true :: kJ 6 (.b false :: kJ 22 [])) [2] [] ((Fun 33 [.c (.d (D.lit (.string (strOfNums nm))))] (kF []) 0 (bV true) (kF []) 0) ∧ ((d1 = 1)) ∧ (¬ ((0 : Int) ≤ d2))) [(2, bV false)] [] 1 ⟨(by have h0 := (uL nm (kQ : Byt nm) zo); rw [hx1] at h0; exact h0), zo, zo⟩ ?_
        refine AW.ret ?_
        exact kC (.inr rfl) [] (P := ((yK nm d1 d2 d3 d4 d5 bs) = false)) zk uJ
    · by_cases hx14 : (d1 = 2)
      · by_cases hx15 : ((0 : Int) ≤ d2)
        · by_cases hx16 : (d2 ≤ 65535)
          · by_cases hx17 : ((0 : Int) ≤ d3)
            · by_cases hx18 : (d3 ≤ 1048576)
              · by_cases hx19 : ((0 : Int) ≤ d4)
                · by_cases hx20 : (d4 ≤ 2048)
                  · by_cases hx21 : ((0 : Int) ≤ d5)
                    · by_cases hx22 : (d5 ≤ 4096)
                      · by_cases hx23 : ((1 : Int) ≤ ((n : Nat) : Int))
                        · by_cases hx24 : (((n : Nat) : Int) ≤ 8)
                          · rcases Bool.eq_false_or_eq_true (iI bs) with hx25 | hx25
                            · refine zr (.no :: .no :: .call [] (bV true) [] 0 [] none :: .no :: .no :: .no :: .b false :: .no :: .no :: .no :: .b true :: kJ 5 (.b true :: kJ 4 (.b true :: kJ 4 (.b true :: kJ 4 (.b true :: kJ 4 (.b true :: kJ 4 (.b true :: kJ 4 (.b true :: kJ 4 (.b true :: kJ 5 (.b true :: kJ 5 (.b true :: kJ 4 [.call [] (bV true) [] 0 [] none, .no, .no]))))))))))) [2] [] ((Fun 33 [.c (.d (D.lit (.string (strOfNums nm))))] (kF []) 0 (bV true) (kF []) 0) ∧ (¬ (d1 = 1)) ∧ ((d1 = 2)) ∧ (((0 : Int) ≤ d2)) ∧ ((d2 ≤ 65535)) ∧ (((0 : Int) ≤ d3)) ∧ ((d3 ≤ 1048576)) ∧ (((0 : Int) ≤ d4)) ∧ ((d4 ≤ 2048)) ∧ (((0 : Int) ≤ d5)) ∧ ((d5 ≤ 4096)) ∧ (((1 : Int) ≤ (n : Int))) ∧ (((n : Int) ≤ 8)) ∧ (Fun 34 [.c (.d (D.sl (kR bs) n))] (kF []) 0 (bV true) (kF []) 0)) [(2, bV true)] [] 1 ⟨(by have h0 := (uL nm (kQ : Byt nm) zo); rw [hx1] at h0; exact h0), zo, zo, zo, zo, zo, zo, zo, zo, zo, zo, zo, zo, (by have h0 := (g6 bs n zo zo (kQ : BsW bs)); rw [hx25] at h0; exact h0)⟩ ?_
                              refine AW.ret ?_
                              exact kC (.inr rfl) [] (P := ((yK nm d1 d2 d3 d4 d5 bs) = true)) zk uJ
                            · refine zr (.no :: .no :: .call [] (bV true) [] 0 [] none :: .no :: .no :: .no :: .b false :: .no :: .no :: .no :: .b true :: kJ 5 (.b true :: kJ 4 (.b true :: kJ 4 (.b true :: kJ 4 (.b true :: kJ 4 (.b true :: kJ 4 (.b true :: kJ 4 (.b true :: kJ 4 (.b true :: kJ 5 (.b true :: kJ 5 (.b true :: kJ 4 [.call [] (bV false) [] 0 [] none, .no, .no]))))))))))) [2] [] ((Fun 33 [.c (.d (D.lit (.string (strOfNums nm))))] (kF []) 0 (bV true) (kF []) 0) ∧ (¬ (d1 = 1)) ∧ ((d1 = 2)) ∧ (((0 : Int) ≤ d2)) ∧ ((d2 ≤ 65535)) ∧ (((0 : Int) ≤ d3)) ∧ ((d3 ≤ 1048576)) ∧ (((0 : Int) ≤ d4)) ∧ ((d4 ≤ 2048)) ∧ (((0 : Int) ≤ d5)) ∧ ((d5 ≤ 4096)) ∧ (((1 : Int) ≤ (n : Int))) ∧ (((n : Int) ≤ 8)) ∧ (Fun 34 [.c (.d (D.sl (kR bs) n))] (kF []) 0 (bV false) (kF []) 0)) [(2, bV false)] [] 1 ⟨(by have h0 := (uL nm (kQ : Byt nm) zo); rw [hx1] at h0; exact h0), zo, zo, zo, zo, zo, zo, zo, zo, zo, zo, zo, zo, (by have h0 := (g6 bs n zo zo (kQ : BsW bs)); rw [hx25] at h0; exact h0)⟩ ?_
                              refine AW.ret ?_
                              exact kC (.inr rfl) [] (P := ((yK nm d1 d2 d3 d4 d5 bs) = false)) zk uJ
                          · refine zr (.no :: .no :: .call [] (bV true) [] 0 [] none :: .no :: .no :: .no :: .b false :: .no :: .no :: .no :: .b true :: kJ 5 (.b true :: kJ 4 (.b true :: kJ 4 (.b true :: kJ 4 (.b true :: kJ 4 (.b true :: kJ 4 (.b true :: kJ 4 (.b true :: kJ 4 (.b true :: kJ 5 (.b true :: kJ 5 (.b false :: kJ 4 []))))))))))) [2] [] ((Fun 33 [.c (.d (D.lit (.string (strOfNums nm))))] (kF []) 0 (bV true) (kF []) 0) ∧ (¬ (d1 = 1)) ∧ ((d1 = 2)) ∧ (((0 : Int) ≤ d2)) ∧ ((d2 ≤ 65535)) ∧ (((0 : Int) ≤ d3)) ∧ ((d3 ≤ 1048576)) ∧ (((0 : Int) ≤ d4)) ∧ ((d4 ≤ 2048)) ∧ (((0 : Int) ≤ d5)) ∧ ((d5 ≤ 4096)) ∧ (((1 : Int) ≤ (n : Int))) ∧ (¬ ((n : Int) ≤ 8))) [(2, bV false)] [] 1 ⟨(by have h0 := (uL nm (kQ : Byt nm) zo); rw [hx1] at h0; exact h0), zo, zo, zo, zo, zo, zo, zo, zo, zo, zo, zo, zo⟩ ?_
                            refine AW.ret ?_
                            exact kC (.inr rfl) [] (P := ((yK nm d1 d2 d3 d4 d5 bs) = false)) zk uJ
                        · refine zr (.no :: .no :: .call [] (bV true) [] 0 [] none :: .no :: .no :: .no :: .b false :: .no :: .no :: .no :: .b true :: kJ 5 (.b true :: kJ 4 (.b true :: kJ 4 (.b true :: kJ 4 (.b true :: kJ 4 (.b true :: kJ 4 (.b true :: kJ 4 (.b true :: kJ 4 (.b true :: kJ 5 (.b false :: kJ 6 [])))))))))) [2] [] ((Fun 33 [.c (.d (D.lit (.string (strOfNums nm))))] (kF []) 0 (bV true) (kF []) 0) ∧ (¬ (d1 = 1)) ∧ ((d1 = 2)) ∧ (((0 : Int) ≤ d2)) ∧ ((d2 ≤ 65535)) ∧ (((0 : Int) ≤ d3)) ∧ ((d3 ≤ 1048576)) ∧ (((0 : Int) ≤ d4)) ∧ ((d4 ≤ 2048)) ∧ (((0 : Int) ≤ d5)) ∧ ((d5 ≤ 4096)) ∧ (¬ ((1 : Int) ≤ (n : Int)))) [(2, bV false)] [] 1 ⟨(by have h0 := (uL nm (kQ : Byt nm) zo); rw [hx1] at h0; exact h0), zo, zo, zo, zo, zo, zo, zo, zo, zo, zo, zo⟩ ?_
                          refine AW.ret ?_
                          exact kC (.inr rfl) [] (P := ((yK nm d1 d2 d3 d4 d5 bs) = false)) zk uJ
                      · refine zr (.no :: .no :: .call [] (bV true) [] 0 [] none :: .no :: .no :: .no :: .b false :: .no :: .no :: .no :: .b true :: kJ 5 (.b true :: kJ 4 (.b true :: kJ 4 (.b true :: kJ 4 (.b true :: kJ 4 (.b true :: kJ 4 (.b true :: kJ 4 (.b true :: kJ 4 (.b false :: kJ 8 []))))))))) [2] [] ((Fun 33 [.c (.d (D.lit (.string (strOfNums nm))))] (kF []) 0 (bV true) (kF []) 0) ∧ (¬ (d1 = 1)) ∧ ((d1 = 2)) ∧ (((0 : Int) ≤ d2)) ∧ ((d2 ≤ 65535)) ∧ (((0 : Int) ≤ d3)) ∧ ((d3 ≤ 1048576)) ∧ (((0 : Int) ≤ d4)) ∧ ((d4 ≤ 2048)) ∧ (((0 : Int) ≤ d5)) ∧ (¬ (d5 ≤ 4096))) [(2, bV false)] [] 1 ⟨(by have h0 := (uL nm (kQ : Byt nm) zo); rw [hx1] at h0; exact h0), zo, zo, zo, zo, zo, zo, zo, zo, zo, zo⟩ ?_
                        refine AW.ret ?_
                        exact kC (.inr rfl) [] (P := ((yK nm d1 d2 d3 d4 d5 bs) = false)) zk uJ
                    · refine zr (.no :: .no :: .call [] (bV true) [] 0 [] none :: .no :: .no :: .no :: .b false :: .no :: .no :: .no :: .b true :: kJ 5 (.b true :: kJ 4 (.b true :: kJ 4 (.b true :: kJ 4 (.b true :: kJ 4 (.b true :: kJ 4 (.b true :: kJ 4 (.b false :: kJ 10 [])))))))) [2] [] ((Fun 33 [.c (.d (D.lit (.string (strOfNums nm))))] (kF []) 0 (bV true) (kF []) 0) ∧ (¬ (d1 = 1)) ∧ ((d1 = 2)) ∧ (((0 : Int) ≤ d2)) ∧ ((d2 ≤ 65535)) ∧ (((0 : Int) ≤ d3)) ∧ ((d3 ≤ 1048576)) ∧ (((0 : Int) ≤ d4)) ∧ ((d4 ≤ 2048)) ∧ (¬ ((0 : Int) ≤ d5))) [(2, bV false)] [] 1 ⟨(by have h0 := (uL nm (kQ : Byt nm) zo); rw [hx1] at h0; exact h0), zo, zo, zo, zo, zo, zo, zo, zo, zo⟩ ?_
                      refine AW.ret ?_
                      exact kC (.inr rfl) [] (P := ((yK nm d1 d2 d3 d4 d5 bs) = false)) zk uJ
                  · refine zr (.no :: .no :: .call [] (bV true) [] 0 [] none :: .no :: .no :: .no :: .b false :: .no :: .no :: .no :: .b true :: kJ 5 (.b true :: kJ 4 (.b true :: kJ 4 (.b true :: kJ 4 (.b true :: kJ 4 (.b true :: kJ 4 (.b false :: kJ 12 []))))))) [2] [] ((Fun 33 [.c (.d (D.lit (.string (strOfNums nm))))] (kF []) 0 (bV true) (kF []) 0) ∧ (¬ (d1 = 1)) ∧ ((d1 = 2)) ∧ (((0 : Int) ≤ d2)) ∧ ((d2 ≤ 65535)) ∧ (((0 : Int) ≤ d3)) ∧ ((d3 ≤ 1048576)) ∧ (((0 : Int) ≤ d4)) ∧ (¬ (d4 ≤ 2048))) [(2, bV false)] [] 1 ⟨(by have h0 := (uL nm (kQ : Byt nm) zo); rw [hx1] at h0; exact h0), zo, zo, zo, zo, zo, zo, zo, zo⟩ ?_
                    refine AW.ret ?_
                    exact kC (.inr rfl) [] (P := ((yK nm d1 d2 d3 d4 d5 bs) = false)) zk uJ
                · refine zr (.no :: .no :: .call [] (bV true) [] 0 [] none :: .no :: .no :: .no :: .b false :: .no :: .no :: .no :: .b true :: kJ 5 (.b true :: kJ 4 (.b true :: kJ 4 (.b true :: kJ 4 (.b true :: kJ 4 (.b false :: kJ 14 [])))))) [2] [] ((Fun 33 [.c (.d (D.lit (.string (strOfNums nm))))] (kF []) 0 (bV true) (kF []) 0) ∧ (¬ (d1 = 1)) ∧ ((d1 = 2)) ∧ (((0 : Int) ≤ d2)) ∧ ((d2 ≤ 65535)) ∧ (((0 : Int) ≤ d3)) ∧ ((d3 ≤ 1048576)) ∧ (¬ ((0 : Int) ≤ d4))) [(2, bV false)] [] 1 ⟨(by have h0 := (uL nm (kQ : Byt nm) zo); rw [hx1] at h0; exact h0), zo, zo, zo, zo, zo, zo, zo⟩ ?_
                  refine AW.ret ?_
                  exact kC (.inr rfl) [] (P := ((yK nm d1 d2 d3 d4 d5 bs) = false)) zk uJ
              · refine zr (.no :: .no :: .call [] (bV true) [] 0 [] none :: .no :: .no :: .no :: .b false :: .no :: .no :: .no :: .b true :: kJ 5 (.b true :: kJ 4 (.b true :: kJ 4 (.b true :: kJ 4 (.b false :: kJ 16 []))))) [2] [] ((Fun 33 [.c (.d (D.lit (.string (strOfNums nm))))] (kF []) 0 (bV true) (kF []) 0) ∧ (¬ (d1 = 1)) ∧ ((d1 = 2)) ∧ (((0 : Int) ≤ d2)) ∧ ((d2 ≤ 65535)) ∧ (((0 : Int) ≤ d3)) ∧ (¬ (d3 ≤ 1048576))) [(2, bV false)] [] 1 ⟨(by have h0 := (uL nm (kQ : Byt nm) zo); rw [hx1] at h0; exact h0), zo, zo, zo, zo, zo, zo⟩ ?_
                refine AW.ret ?_
                exact kC (.inr rfl) [] (P := ((yK nm d1 d2 d3 d4 d5 bs) = false)) zk uJ
            · refine zr (.no :: .no :: .call [] (bV true) [] 0 [] none :: .no :: .no :: .no :: .b false :: .no :: .no :: .no :: .b true :: kJ 5 (.b true :: kJ 4 (.b true :: kJ 4 (.b false :: kJ 18 [])))) [2] [] ((Fun 33 [.c (.d (D.lit (.string (strOfNums nm))))] (kF []) 0 (bV true) (kF []) 0) ∧ (¬ (d1 = 1)) ∧ ((d1 = 2)) ∧ (((0 : Int) ≤ d2)) ∧ ((d2 ≤ 65535)) ∧ (¬ ((0 : Int) ≤ d3))) [(2, bV false)] [] 1 ⟨(by have h0 := (uL nm (kQ : Byt nm) zo); rw [hx1] at h0; exact h0), zo, zo, zo, zo, zo⟩ ?_
              refine AW.ret ?_
              exact kC (.inr rfl) [] (P := ((yK nm d1 d2 d3 d4 d5 bs) = false)) zk uJ
          · refine zr (.no :: .no :: .call [] (bV true) [] 0 [] none :: .no :: .no :: .no :: .b false :: .no :: .no :: .no :: .b true :: kJ 5 (.b true :: kJ 4 (.b false :: kJ 20 []))) [2] [] ((Fun 33 [.c (.d (D.lit (.string (strOfNums nm))))] (kF []) 0 (bV true) (kF []) 0) ∧ (¬ (d1 = 1)) ∧ ((d1 = 2)) ∧ (((0 : Int) ≤ d2)) ∧ (¬ (d2 ≤ 65535))) [(2, bV false)] [] 1 ⟨(by have h0 := (uL nm (kQ : Byt nm) zo); rw [hx1] at h0; exact h0), zo, zo, zo, zo⟩ ?_
            refine AW.ret ?_
            exact kC (.inr rfl) [] (P := ((yK nm d1 d2 d3 d4 d5 bs) = false)) zk uJ
        · refine zr (.no :: .no :: .call [] (bV true) [] 0 [] none :: .no :: .no :: .no :: .b false :: .no :: .no :: .no :: .b true :: kJ 5 (.b false :: kJ 22 [])) [2] [] ((Fun 33 [.c (.d (D.lit (.string (strOfNums nm))))] (kF []) 0 (bV true) (kF []) 0) ∧ (¬ (d1 = 1)) ∧ ((d1 = 2)) ∧ (¬ ((0 : Int) ≤ d2))) [(2, bV false)] [] 1 ⟨(by have h0 := (uL nm (kQ : Byt nm) zo); rw [hx1] at h0; exact h0), zo, zo, zo⟩ ?_
          refine AW.ret ?_
          exact kC (.inr rfl) [] (P := ((yK nm d1 d2 d3 d4 d5 bs) = false)) zk uJ
      · refine zr (.no :: .no :: .call [] (bV true) [] 0 [] none :: .no :: .no :: .no :: .b false :: .no :: .no :: .no :: .b false :: kJ 25 []) [2] [] ((Fun 33 [.c (.d (D.lit (.string (strOfNums nm))))] (kF []) 0 (bV true) (kF []) 0) ∧ (¬ (d1 = 1)) ∧ (¬ (d1 = 2))) [(2, bV false)] [] 1 ⟨(by have h0 := (uL nm (kQ : Byt nm) zo); rw [hx1] at h0; exact h0), zo, zo⟩ ?_
        refine AW.ret ?_
        exact kC (.inr rfl) [] (P := ((yK nm d1 d2 d3 d4 d5 bs) = false)) zk uJ
  · refine zr (.no :: .no :: .call [] (bV false) [] 0 [] none :: kJ 25 []) [2] [] (Fun 33 [.c (.d (D.lit (.string (strOfNums nm))))] (kF []) 0 (bV false) (kF []) 0) [(2, bV false)] [] 1 (by have h0 := (uL nm (kQ : Byt nm) zo); rw [hx1] at h0; exact h0) ?_
    refine AW.ret ?_
    exact kC (.inr rfl) [] (P := ((yK nm d1 d2 d3 d4 d5 bs) = false)) zk uJ
end Go.Proofs.Ytdbjebdomdnbkaa
