/- The reader of the reference. No statement is proved here. -/
import Derived.Test.YtdbjebdomdnbkaaGreatZD11S
namespace Go.Proofs.YtdbjebdomdnbkaaGreat
open Go.ChangeShapes Go.WideShapes Go.ChangeAt Go.RowKit
open Bool renaming eq_false_or_eq_true → kb0
open Int renaming toNat → kb5
open List renaming append_nil → kd1, drop → ka5, drop_zero → kd7, getD → ka0, length → ka1, length_append → ka4, length_cons → kb3, length_drop → kb9, length_map → kc8, length_nil → kb6, length_replicate → kb8, length_reverse → kc6, length_set → kc4, length_take → kb4, take → ka2, take_of_length_le → kc3
open Nat renaming le_of_ble_eq_true → ka3, le_trans → ke8, mul_one → kd0, zero_mul → ki8
set_option linter.unusedVariables false
set_option linter.unusedSimpArgs false
/-! chapter 11: the reference's reader -/
set_option maxHeartbeats 4000000
set_option maxRecDepth 100000
abbrev RT := Nat × Bool
def s7 (g : RT → RT) : Nat → RT → RT
  | 0, w => w
  | n + 1, w => if w.2 = false then s7 g n (g w) else w
def wC {α : Type} (g : RT → RT) (v : RT → List α) : Nat → RT → List α
  | 0, _ => []
  | n + 1, w => if w.2 = false then v w ++ wC g v n (g w) else []
theorem s5 {g : RT → RT} {n : Nat} {w : RT} (h : w.2 = false) : s7 g (n + 1) w = s7 g n (g w) := if_pos h
theorem s6 {g : RT → RT} {n : Nat} {w : RT} (h : w.2 = true) : s7 g n w = w := by
  cases n with
  | zero => rfl
  | succ n => exact if_neg (by rw [h]; decide)
theorem k04 {α : Type} {g : RT → RT} {v : RT → List α} {n : Nat} {w : RT} (h : w.2 = false) : wC g v (n + 1) w = v w ++ wC g v n (g w) := if_pos h
theorem k3x {α : Type} {g : RT → RT} {v : RT → List α} {n : Nat} {w : RT} (h : w.2 = true) : wC g v n w = [] := by
  cases n with
  | zero => rfl
  | succ n => exact if_neg (by rw [h]; decide)
theorem pB {g : RT → RT} {m : Nat} (hf : ∀ w, w.1 ≤ m → (g w).1 ≤ m) : ∀ (n : Nat) (w : RT), w.1 ≤ m → (s7 g n w).1 ≤ m
  | 0, w, h => h
  | n + 1, w, h => by
    cases hq : w.2 with
    | false => rw [s5 hq]; exact pB hf n _ (hf w h)
    | true => rw [s6 hq]; exact h
theorem i7 {α : Type} {g : RT → RT} {v : RT → List α} {s : Nat} (hv : ∀ w, (v w).length = s) : ∀ (n : Nat) (w : RT), ∃ c, c ≤ n ∧ (wC g v n w).length = c * s
  | 0, w => ⟨0, Nat.le_refl _, by rw [ki8]; rfl⟩
  | n + 1, w => by
    cases hq : w.2 with
    | false =>
      obtain ⟨c, h1, h2⟩ := i7 (g := g) hv n (g w)
      exact ⟨c + 1, by omega, by rw [k04 hq, ka4, hv, h2, Nat.succ_mul]; omega⟩
    | true => exact ⟨0, by omega, by rw [k3x hq, ki8]; rfl⟩
theorem k05 {α : Type} {g : RT → RT} {v : RT → List α} {p : α → Prop} (hv : ∀ w, ∀ x ∈ v w, p x) : ∀ (n : Nat) (w : RT), ∀ x ∈ wC g v n w, p x
  | 0, w, x, h => by cases h
  | n + 1, w, x, h => by
    cases hq : w.2 with
    | false =>
      rw [k04 hq] at h
      rcases List.mem_append.1 h with h | h
      · exact hv w x h
      · exact k05 hv n (g w) x h
    | true => rw [k3x hq] at h; cases h
def JtI {α : Type} (g : RT → RT) (v : RT → List α) (n0 : Nat) (w0 : RT) (k : Nat) (w : RT) (o : List α) : Prop := s7 g n0 w0 = s7 g k w ∧ wC g v n0 w0 = o ++ wC g v k w
theorem JtI.zero {α : Type} (g : RT → RT) (v : RT → List α) (n0 : Nat) (w0 : RT) : JtI g v n0 w0 n0 w0 [] := ⟨rfl, rfl⟩
theorem JtI.step {α : Type} {g : RT → RT} {v : RT → List α} {n0 : Nat} {w0 : RT} {k : Nat} {a : Nat} {o : List α} (h : JtI g v n0 w0 k (a, false) o) (hk : 0 < k) : JtI g v n0 w0 (k - 1) (g (a, false)) (o ++ v (a, false)) := by
  obtain ⟨k, rfl⟩ : ∃ j, k = j + 1 := ⟨k - 1, by omega⟩
  refine ⟨by rw [h.1, s5 rfl]; rfl, ?_⟩
  rw [h.2, k04 rfl, List.append_assoc]; rfl
theorem gK {α : Type} {g : RT → RT} {v : RT → List α} {n0 : Nat} {w0 : RT} {k : Nat} {w : RT} {o : List α} (h : JtI g v n0 w0 k w o) (hk : k = 0) : s7 g n0 w0 = w ∧ wC g v n0 w0 = o := by
  subst hk
  exact ⟨h.1, by rw [h.2]; exact kd1 _⟩
theorem gJ {α : Type} {g : RT → RT} {v : RT → List α} {n0 : Nat} {w0 : RT} {k a : Nat} {o : List α} (h : JtI g v n0 w0 k (a, true) o) : s7 g n0 w0 = (a, true) ∧ wC g v n0 w0 = o :=
  ⟨by rw [h.1, s6 rfl], by rw [h.2, k3x rfl, kd1]⟩
def kO (a : Nat) : RS := ⟨a, 0⟩
def rG (s : Nat) (l : List Int) (w : RT) : RT := if w.1 + s ≤ l.length then (w.1 + s, w.2) else (w.1, true)
def zsF (l : List Int) (w : RT) : RT := rG 4 l (rG 4 l w)
def zsX (l : List Int) (w : RT) : List Int := [qU l (kO w.1), qU l (kO (rG 4 l w).1)]
def t9 (l : List Int) (w : RT) : RT := s7 (zsF l) (kK l (kO w.1)) (rG 2 l w)
def zsV (l : List Int) (w : RT) : List Int := wC (zsF l) (zsX l) (kK l (kO w.1)) (rG 2 l w)
def zcX (l : List Int) (w : RT) : List Int := [((kK l (kO w.1) : Nat) : Int)]
def zcS (l : List Int) (w : RT) : RT := s7 (rG 2 l) (kK l (kO w.1)) (rG 2 l w)
def zcV (l : List Int) (w : RT) : List Int := wC (rG 2 l) (zcX l) (kK l (kO w.1)) (rG 2 l w)
def zmX (l : List Int) (w : RT) : List (List Int) := [zcV l w]
def zmS (l : List Int) (w : RT) : RT := s7 (zcS l) (kK l (kO w.1)) (rG 2 l w)
def zmV (l : List Int) (w : RT) : List (List Int) := wC (zcS l) (zmX l) (kK l (kO w.1)) (rG 2 l w)
def zbF (l : List Int) (w : RT) : RT := t9 l (zmS l (t9 l (rG 2 l w)))
def zbX (l : List Int) (w : RT) : List Bx := [aQ ((kK l (kO w.1) : Nat) : Int) (zsV l (rG 2 l w)) (ka1 (zsV l (rG 2 l w)) / 2) (zmV l (t9 l (rG 2 l w))) (zsV l (zmS l (t9 l (rG 2 l w)))) (ka1 (zsV l (zmS l (t9 l (rG 2 l w)))) / 2)]
def zbS (l : List Int) (w : RT) : RT := s7 (zbF l) (kK l (kO w.1)) (rG 2 l w)
def zbV (l : List Int) (w : RT) : List Bx := wC (zbF l) (zbX l) (kK l (kO w.1)) (rG 2 l w)
def rX (l : List Int) (w : RT) : RT := if vC l w.1 = 0 then (w.1 + 1 + uI l w.1, w.2) else (w.1, true)
/-! both readers -/
structure Rl (F : RS → RS) (G : RT → RT) : Prop where
  g : ∀ a, (G (a, false)).2 = false → F (kO a) = kO (G (a, false)).1
  b : ∀ a, (G (a, false)).2 = true → ¬ qC (F (kO a)) = 0
  s : ∀ w, w.2 = true → (G w).2 = true
  e : ∀ u, ¬ qC u = 0 → F u = u
theorem wQ {w : RT} (h : w.2 = false) : w = (w.1, false) := by rw [← h]
theorem Rl.comp {F F' : RS → RS} {G G' : RT → RT} (h : Rl F G) (h2 : Rl F' G') : Rl (fun u => F' (F u)) (fun w => G' (G w)) where
  g a hq := by
    cases e : (G (a, false)).2 with
    | false =>
      have e1 := wQ e
      have e2 := h.g a e
      show F' (F (kO a)) = kO (G' (G (a, false))).1
      have hq' : (G' (G (a, false))).2 = false := hq
      rw [e1] at hq' ⊢
      rw [e2]; exact h2.g _ hq'
    | true => have := h2.s _ e; rw [show (G' (G (a, false))).2 = false from hq] at this; cases this
  b a hq := by
    show ¬ qC (F' (F (kO a))) = 0
    cases e : (G (a, false)).2 with
    | false =>
      have e1 := wQ e
      have e2 := h.g a e
      have hq' : (G' (G (a, false))).2 = true := hq
      rw [e1] at hq'
      rw [e2]; exact h2.b _ hq'
    | true =>
      have h3 := h.b a e
      rw [h2.e _ h3]; exact h3
  s w hw := h2.s _ (h.s w hw)
  e u hu := by show F' (F u) = u; rw [h.e u hu, h2.e u hu]
theorem Rl.it {F : RS → RS} {G : RT → RT} (h : Rl F G) : ∀ n, Rl (mI F n) (s7 G n)
  | 0 => ⟨fun a _ => rfl, fun a hq => (by cases hq), fun w hw => hw, fun u _ => rfl⟩
  | n + 1 => by
    have h1 := h.comp (Rl.it h n)
    refine ⟨fun a hq => ?_, fun a hq => ?_, fun w hw => ?_, fun u hu => k0a hu⟩
    · rw [s5 rfl] at hq ⊢; rw [lH (show qC (kO a) = 0 from rfl)]; exact h1.g a hq
    · rw [s5 rfl] at hq; rw [lH (show qC (kO a) = 0 from rfl)]; exact h1.b a hq
    · rw [s6 hw]; exact hw
theorem k09 {α : Type} {F : RS → RS} {G : RT → RT} {v : RS → List α} {x : RT → List α} (h : Rl F G) (hv : ∀ a, (G (a, false)).2 = false → v (kO a) = x (a, false)) : ∀ n a, (s7 G n (a, false)).2 = false → wD F v n (kO a) = wC G x n (a, false)
  | 0, a, _ => rfl
  | n + 1, a, hq => by
    rw [s5 rfl] at hq
    cases e : (G (a, false)).2 with
    | false =>
      rw [s8 (show qC (kO a) = 0 from rfl), k04 rfl, hv a e, h.g a e]
      have e1 := wQ e
      rw [e1] at hq
      rw [k09 h hv n _ hq, ← e1]
    | true => rw [s6 e] at hq; rw [e] at hq; cases hq
theorem vL (s : Nat) (l : List Int) : Rl (kE s l) (rG s l) where
  g a hq := by
    unfold rG at hq ⊢
    by_cases h : a + s ≤ l.length
    · rw [if_pos (show (a, false).1 + s ≤ _ from h)]; unfold kE kO; rw [if_pos rfl, if_pos (show a + s ≤ _ from h)]
    · rw [if_neg (show ¬ (a, false).1 + s ≤ _ from h)] at hq; cases hq
  b a hq := by
    unfold rG at hq
    by_cases h : a + s ≤ l.length
    · rw [if_pos (show (a, false).1 + s ≤ _ from h)] at hq; cases hq
    · have := mJ (s := s) (u := kO a) rfl rfl h; rw [this.2]; decide
  s w hw := by unfold rG; split; exact hw; rfl
  e u hu := pG hu
theorem u1y (l : List Int) : Rl (uA l) (rX l) where
  g a hq := by
    unfold rX at hq ⊢
    by_cases h : vC l a = 0
    · rw [if_pos (show vC l (a, false).1 = 0 from h)]; unfold uA kO; rw [if_pos rfl, if_pos h]
    · rw [if_neg (show ¬ vC l (a, false).1 = 0 from h)] at hq; cases hq
  b a hq := by
    unfold rX at hq
    by_cases h : vC l a = 0
    · rw [if_pos (show vC l (a, false).1 = 0 from h)] at hq; cases hq
    · have := iQ (u := kO a) rfl h; rw [this.2.1]; exact h
  s w hw := by unfold rX; split; exact hw; rfl
  e u hu := (k0s hu).1
theorem k7j {F : RS → RS} {G : RT → RT} {l : List Int} (h : Rl F G) : Rl (fun u => mI F (kK l u) (kE 2 l u)) (fun w => s7 G (kK l (kO w.1)) (rG 2 l w)) where
  g a hq := ((vL 2 l).comp (h.it (kK l (kO a)))).g a hq
  b a hq := ((vL 2 l).comp (h.it (kK l (kO a)))).b a hq
  s w hw := ((vL 2 l).comp (h.it (kK l (kO w.1)))).s w hw
  e u hu := ((vL 2 l).comp (h.it (kK l u))).e u hu
theorem k7i {α : Type} {F : RS → RS} {G : RT → RT} {l : List Int} {v : RS → List α} {x : RT → List α} (h : Rl F G) (hv : ∀ a, (G (a, false)).2 = false → v (kO a) = x (a, false)) (a : Nat) (hq : (s7 G (kK l (kO a)) (rG 2 l (a, false))).2 = false) : wD F v (kK l (kO a)) (kE 2 l (kO a)) = wC G x (kK l (kO a)) (rG 2 l (a, false)) := by
  cases e : (rG 2 l (a, false)).2 with
  | false =>
    have e1 := wQ e
    rw [(vL 2 l).g a e]
    rw [e1] at hq
    rw [k09 h hv _ _ hq, ← e1]
  | true => rw [s6 e] at hq; rw [e] at hq; cases hq
theorem k2j (l : List Int) : Rl (yD l) (t9 l) := k7j ((vL 4 l).comp (vL 4 l))
theorem u58 (l : List Int) (a : Nat) (hq : (t9 l (a, false)).2 = false) : eX l (kO a) = zsV l (a, false) := k7i ((vL 4 l).comp (vL 4 l)) (fun b hb => by
  show [qU l (kO b), qU l (kE 4 l (kO b))] = [qU l (kO b), qU l (kO (rG 4 l (b, false)).1)]
  cases e : (rG 4 l (b, false)).2 with
  | false => rw [(vL 4 l).g b e]
  | true => have := (vL 4 l).s _ e; rw [show (rG 4 l (rG 4 l (b, false))).2 = false from hb] at this; cases this) a hq
theorem u59 (l : List Int) : Rl (fZ l) (zcS l) := k7j (vL 2 l)
theorem u8d (l : List Int) (a : Nat) (hq : (zcS l (a, false)).2 = false) : eH l (kO a) = zcV l (a, false) := k7i (vL 2 l) (fun b _ => rfl) a hq
theorem u1z (l : List Int) : Rl (aW l) (zmS l) := k7j (u59 l)
theorem u8c (l : List Int) (a : Nat) (hq : (zmS l (a, false)).2 = false) : dD l (kO a) = zmV l (a, false) := k7i (u59 l) (fun b hb => by
  show [eH l (kO b)] = [zcV l (b, false)]
  rw [u8d l b hb]) a hq
theorem u5a (l : List Int) : Rl (dbF l) (zbF l) := (((vL 2 l).comp (k2j l)).comp (u1z l)).comp (k2j l)
theorem eO {F : RS → RS} {G : RT → RT} (h : Rl F G) {w : RT} (hq : (G w).2 = false) : w.2 = false := by
  cases e : w.2 with
  | false => rfl
  | true => have := h.s w e; rw [hq] at this; cases this
theorem u8e (l : List Int) (a : Nat) (hq : (zbS l (a, false)).2 = false) : vD l (kO a) = zbV l (a, false) := k7i (u5a l) (fun b hb => by
  have h3 : (zmS l (t9 l (rG 2 l (b, false)))).2 = false := eO (k2j l) hb
  have h2 : (t9 l (rG 2 l (b, false))).2 = false := eO (u1z l) h3
  have h1 : (rG 2 l (b, false)).2 = false := eO (k2j l) h2
  have e1 := (vL 2 l).g b h1
  have w1 := wQ h1
  have h2' : (t9 l ((rG 2 l (b, false)).1, false)).2 = false := by rw [← w1]; exact h2
  have e2 := (k2j l).g _ h2'
  have v2 := u58 l _ h2'
  rw [← w1] at e2 v2
  have w2 := wQ h2
  have h3' : (zmS l ((t9 l (rG 2 l (b, false))).1, false)).2 = false := by rw [← w2]; exact h3
  have e3 := (u1z l).g _ h3'
  have v3 := u8c l _ h3'
  rw [← w2] at e3 v3
  have w3 := wQ h3
  have h4' : (t9 l ((zmS l (t9 l (rG 2 l (b, false)))).1, false)).2 = false := by rw [← w3]; exact hb
  have v4 := u58 l _ h4'
  rw [← w3] at v4
  unfold dbX zbX bP
  rw [e1, e2, e3, v2, v3, v4]) a hq
theorem u0e (l : List Int) : Rl (mM l) (zbS l) := k7j (u5a l)
/-! chapter 11: the reference's reader, told by place and flag -/
def qO (s : Nat) (l : List Int) (a : Nat) (f : Bool) : Nat := (rG s l (a, f)).1
def qW (s : Nat) (l : List Int) (a : Nat) (f : Bool) : Bool := (rG s l (a, f)).2
theorem k87 {s m : Nat} {l : List Int} {a : Nat} {f : Bool} (hm : l.length = m) (h : a + s ≤ m) : qO s l a f = a + s ∧ qW s l a f = f := by
  subst hm; unfold qO qW rG; rw [if_pos (show (a, f).1 + s ≤ _ from h)]; exact ⟨rfl, rfl⟩
theorem k88 {s m : Nat} {l : List Int} {a : Nat} {f : Bool} (hm : l.length = m) (h : ¬ a + s ≤ m) : qO s l a f = a ∧ qW s l a f = true := by
  subst hm; unfold qO qW rG; rw [if_neg (show ¬ (a, f).1 + s ≤ _ from h)]; exact ⟨rfl, rfl⟩
theorem iJ {s m : Nat} {l : List Int} (hm : l.length = m) (w : RT) (h : w.1 ≤ m) : (rG s l w).1 ≤ m := by
  subst hm; unfold rG; split
  · assumption
  · exact h
theorem aG {s m : Nat} {l : List Int} {a : Nat} (f : Bool) (hm : l.length = m) (h : a ≤ m) : qO s l a f ≤ m := iJ hm (a, f) h
theorem u4w {m : Nat} {l : List Int} {a : Nat} (hm : l.length = m) (hy : Byt l) (h1 : a + 2 ≤ m) : ((kK l (kO a) : Nat) : Int) = g16 l a := k9z hm hy rfl h1
theorem u4v {m : Nat} {l : List Int} {a : Nat} (hm : l.length = m) (h1 : a + 4 ≤ m) : qU l (kO a) = g32 l a := k9x hm rfl h1
theorem u4u {m : Nat} {l : List Int} {a : Nat} (hm : l.length = m) (h1 : a + 8 ≤ m) : uW l (kO a) = g64 l a := k9v hm rfl h1
theorem mV {x : D} {a b : Int} {c d : Bool} (h : a = b) (h2 : c = d) : ([x, iD a, D.lit (.bool c)] : List D) = [x, iD b, D.lit (.bool d)] := by rw [h, h2]
def cK (a t : Nat) (q : Int) : Nat := if q = 0 then t else a
def eK (f : Bool) (q : Int) : Bool := if q = 0 then f else true
theorem gZ {a t m : Nat} (q : Int) (ha : a ≤ m) (ht : t ≤ m) : cK a t q ≤ m := by unfold cK; split <;> assumption
def wG (s : Nat) (l : List Int) (a : Nat) : Nat := if a + s ≤ l.length then a + s else 0
def pH (s : Nat) (l : List Int) (a : Nat) : Int := if a + s ≤ l.length then 0 else 4
theorem u2v {s m : Nat} {l : List Int} {a : Nat} (hm : l.length = m) : wG s l a ≤ m := by subst hm; unfold wG; split <;> omega
theorem k45 {s m : Nat} {l : List Int} {a : Nat} (hm : l.length = m) (h : a + s ≤ m) : wG s l a = a + s ∧ pH s l a = 0 := by subst hm; exact ⟨if_pos h, if_pos h⟩
theorem k46 {s m : Nat} {l : List Int} {a : Nat} (hm : l.length = m) (h : ¬ a + s ≤ m) : wG s l a = 0 ∧ pH s l a = 4 := by subst hm; exact ⟨if_neg h, if_neg h⟩
def lX (l : List Int) (a : Nat) : Nat := if vC l a = 0 then a + 1 + uI l a else 0
def y7 (l : List Int) (a : Nat) : List Int := if vC l a = 0 then ka2 (uI l a) (ka5 (a + 1) l) else []
theorem u1r {m : Nat} {l : List Int} {a : Nat} (hm : l.length = m) : lX l a ≤ m := by
  unfold lX; split
  · rename_i h; exact (r8 hm h).2.2
  · exact Nat.zero_le _
theorem k7d (l : List Int) (a : Nat) : ka1 (y7 l a) ≤ 64 := by
  unfold y7; split
  · rename_i h; have := r8 rfl h; rw [kb4]; omega
  · exact Nat.zero_le _
theorem zJ {l : List Int} (hy : Byt l) (a : Nat) : Byt (y7 l a) := by
  unfold y7; split
  · exact (hy.drop _).take _
  · exact Byt.nil
def cT (l : List Int) (a : Nat) (f : Bool) : Nat := (t9 l (a, f)).1
def eT (l : List Int) (a : Nat) (f : Bool) : Bool := (t9 l (a, f)).2
def iX (l : List Int) (a : Nat) (f : Bool) : List Int := zsV l (a, f)
def aR (l : List Int) (a : Nat) (f : Bool) : Nat := ka1 (zsV l (a, f)) / 2
def ZsI (l : List Int) (a : Nat) (f : Bool) (k b : Nat) (g : Bool) (o : List Int) : Prop := JtI (zsF l) (zsX l) (kK l (kO a)) (rG 2 l (a, f)) k (b, g) o
theorem ZsI.zero (l : List Int) (a : Nat) (f : Bool) : ZsI l a f (kK l (kO a)) (qO 2 l a f) (qW 2 l a f) [] := JtI.zero _ _ _ _
theorem ZsI.step {l : List Int} {a : Nat} {f : Bool} {k b : Nat} {o : List Int} (h : ZsI l a f k b false o) (hk : 0 < k) : ZsI l a f (k - 1) (qO 4 l (qO 4 l b false) (qW 4 l b false)) (qW 4 l (qO 4 l b false) (qW 4 l b false)) (o ++ [qU l (kO b), qU l (kO (qO 4 l b false))]) := JtI.step h hk
theorem k6e {l : List Int} {a : Nat} {f : Bool} {k b : Nat} {g : Bool} {o : List Int} (h : ZsI l a f k b g o) (hk : k = 0) : cT l a f = b ∧ eT l a f = g ∧ iX l a f = o := by
  have h1 := gK h hk
  exact ⟨congrArg Prod.fst h1.1, congrArg Prod.snd h1.1, h1.2⟩
theorem k6d {l : List Int} {a : Nat} {f : Bool} {k b : Nat} {o : List Int} (h : ZsI l a f k b true o) : cT l a f = b ∧ eT l a f = true ∧ iX l a f = o := by
  have h1 := gJ h
  exact ⟨congrArg Prod.fst h1.1, congrArg Prod.snd h1.1, h1.2⟩
theorem u6b {l : List Int} {a : Nat} {f : Bool} {o : List Int} {i : Nat} (h : iX l a f = o) (ho : ka1 o = i * 2) : aR l a f = i := by
  unfold aR; rw [show zsV l (a, f) = o from h, ho]; omega
theorem wH {m : Nat} {l : List Int} (hm : l.length = m) (w : RT) (h : w.1 ≤ m) : (t9 l w).1 ≤ m := pB (fun v hv => iJ hm _ (iJ hm v hv)) _ _ (iJ hm w h)
theorem xI {m : Nat} {l : List Int} {a : Nat} (f : Bool) (hm : l.length = m) (h : a ≤ m) : cT l a f ≤ m := wH hm (a, f) h
theorem k72 {l : List Int} (hy : Byt l) (w : RT) : ka1 (zsV l w) = ka1 (zsV l w) / 2 * 2 ∧ ka1 (zsV l w) / 2 ≤ 65535 := by
  obtain ⟨c, h1, h2⟩ := i7 (g := zsF l) (v := zsX l) (s := 2) (fun _ => rfl) (kK l (kO w.1)) (rG 2 l w)
  have h3 := qY hy (kO w.1)
  have h4 : ka1 (zsV l w) = c * 2 := h2
  omega
theorem bW {l : List Int} (hy : Byt l) (a : Nat) (f : Bool) : ka1 (iX l a f) = aR l a f * 2 ∧ aR l a f ≤ 65535 := k72 hy (a, f)
def jcA (l : List Int) (a : Nat) (f : Bool) : Nat := (zcS l (a, f)).1
def jcB (l : List Int) (a : Nat) (f : Bool) : Bool := (zcS l (a, f)).2
def jcV (l : List Int) (a : Nat) (f : Bool) : List Int := zcV l (a, f)
def ZcI (l : List Int) (a : Nat) (f : Bool) (k b : Nat) (g : Bool) (o : List Int) : Prop := JtI (rG 2 l) (zcX l) (kK l (kO a)) (rG 2 l (a, f)) k (b, g) o
theorem ZcI.zero (l : List Int) (a : Nat) (f : Bool) : ZcI l a f (kK l (kO a)) (qO 2 l a f) (qW 2 l a f) [] := JtI.zero _ _ _ _
theorem ZcI.step {l : List Int} {a : Nat} {f : Bool} {k b : Nat} {o : List Int} (h : ZcI l a f k b false o) (hk : 0 < k) : ZcI l a f (k - 1) (qO 2 l b false) (qW 2 l b false) (o ++ [((kK l (kO b) : Nat) : Int)]) := JtI.step h hk
theorem k6i {l : List Int} {a : Nat} {f : Bool} {k b : Nat} {g : Bool} {o : List Int} (h : ZcI l a f k b g o) (hk : k = 0) : jcA l a f = b ∧ jcB l a f = g ∧ jcV l a f = o := by
  have h1 := gK h hk
  exact ⟨congrArg Prod.fst h1.1, congrArg Prod.snd h1.1, h1.2⟩
theorem k6h {l : List Int} {a : Nat} {f : Bool} {k b : Nat} {o : List Int} (h : ZcI l a f k b true o) : jcA l a f = b ∧ jcB l a f = true ∧ jcV l a f = o := by
  have h1 := gJ h
  exact ⟨congrArg Prod.fst h1.1, congrArg Prod.snd h1.1, h1.2⟩
theorem u1i {m : Nat} {l : List Int} (hm : l.length = m) (w : RT) (h : w.1 ≤ m) : (zcS l w).1 ≤ m := pB (fun v hv => iJ hm v hv) _ _ (iJ hm w h)
theorem k73 {l : List Int} (hy : Byt l) (w : RT) : ka1 (zcV l w) ≤ 65535 := by
  obtain ⟨c, h1, h2⟩ := i7 (g := rG 2 l) (v := zcX l) (s := 1) (fun _ => rfl) (kK l (kO w.1)) (rG 2 l w)
  have h3 := qY hy (kO w.1)
  have h4 : ka1 (zcV l w) = c * 1 := h2
  omega
def jmA (l : List Int) (a : Nat) (f : Bool) : Nat := (zmS l (a, f)).1
def jmB (l : List Int) (a : Nat) (f : Bool) : Bool := (zmS l (a, f)).2
def jmV (l : List Int) (a : Nat) (f : Bool) : List (List Int) := zmV l (a, f)
def ZmI (l : List Int) (a : Nat) (f : Bool) (k b : Nat) (g : Bool) (o : List (List Int)) : Prop := JtI (zcS l) (zmX l) (kK l (kO a)) (rG 2 l (a, f)) k (b, g) o
theorem ZmI.zero (l : List Int) (a : Nat) (f : Bool) : ZmI l a f (kK l (kO a)) (qO 2 l a f) (qW 2 l a f) [] := JtI.zero _ _ _ _
theorem ZmI.step {l : List Int} {a : Nat} {f : Bool} {k b : Nat} {o : List (List Int)} {A : Nat} {B : Bool} {q : List Int} (h : ZmI l a f k b false o) (hk : 0 < k) (h1 : jcA l b false = A) (h2 : jcB l b false = B) (h3 : jcV l b false = q) : ZmI l a f (k - 1) A B (o ++ [q]) := by
  subst h1; subst h2; subst h3; exact JtI.step h hk
theorem k6g {l : List Int} {a : Nat} {f : Bool} {k b : Nat} {g : Bool} {o : List (List Int)} (h : ZmI l a f k b g o) (hk : k = 0) : jmA l a f = b ∧ jmB l a f = g ∧ jmV l a f = o := by
  have h1 := gK h hk
  exact ⟨congrArg Prod.fst h1.1, congrArg Prod.snd h1.1, h1.2⟩
theorem k6f {l : List Int} {a : Nat} {f : Bool} {k b : Nat} {o : List (List Int)} (h : ZmI l a f k b true o) : jmA l a f = b ∧ jmB l a f = true ∧ jmV l a f = o := by
  have h1 := gJ h
  exact ⟨congrArg Prod.fst h1.1, congrArg Prod.snd h1.1, h1.2⟩
theorem u1h {m : Nat} {l : List Int} (hm : l.length = m) (w : RT) (h : w.1 ≤ m) : (zmS l w).1 ≤ m := pB (fun v hv => u1i hm v hv) _ _ (iJ hm w h)
theorem k86 {l : List Int} (hy : Byt l) (a : Nat) (f : Bool) : ka1 (jmV l a f) ≤ 65535 := by
  obtain ⟨c, h1, h2⟩ := i7 (g := zcS l) (v := zmX l) (s := 1) (fun _ => rfl) (kK l (kO a)) (rG 2 l (a, f))
  have h3 := qY hy (kO a)
  have h4 : ka1 (jmV l a f) = c * 1 := h2
  omega
theorem u6c {l : List Int} (hy : Byt l) (a : Nat) (f : Bool) : MsW (jmV l a f) := k05 (p := fun x => ka1 x ≤ 1000000) (fun w x hx => by
  rw [List.mem_singleton.1 hx]; have := k73 hy w; omega) _ _
def jbA (l : List Int) (a : Nat) (f : Bool) : Nat := (zbF l (a, f)).1
def jbB (l : List Int) (a : Nat) (f : Bool) : Bool := (zbF l (a, f)).2
theorem u1j {m : Nat} {l : List Int} (hm : l.length = m) (w : RT) (h : w.1 ≤ m) : (zbF l w).1 ≤ m := wH hm _ (u1h hm _ (wH hm _ (iJ hm w h)))
theorem u2q {m : Nat} {l : List Int} {a : Nat} (f : Bool) (hm : l.length = m) (h : a ≤ m) : jbA l a f ≤ m := u1j hm (a, f) h
def jxA (l : List Int) (a : Nat) (f : Bool) : Nat := (zbS l (a, f)).1
def jxB (l : List Int) (a : Nat) (f : Bool) : Bool := (zbS l (a, f)).2
def jxV (l : List Int) (a : Nat) (f : Bool) : List Bx := zbV l (a, f)
def ZbI (l : List Int) (a : Nat) (f : Bool) (k b : Nat) (g : Bool) (o : List Bx) : Prop := JtI (zbF l) (zbX l) (kK l (kO a)) (rG 2 l (a, f)) k (b, g) o
theorem ZbI.zero (l : List Int) (a : Nat) (f : Bool) : ZbI l a f (kK l (kO a)) (qO 2 l a f) (qW 2 l a f) [] := JtI.zero _ _ _ _
def j1A (l : List Int) (a : Nat) (f : Bool) : Nat := qO 2 l a f
def j1B (l : List Int) (a : Nat) (f : Bool) : Bool := qW 2 l a f
def j2A (l : List Int) (a : Nat) (f : Bool) : Nat := cT l (j1A l a f) (j1B l a f)
def j2B (l : List Int) (a : Nat) (f : Bool) : Bool := eT l (j1A l a f) (j1B l a f)
def j3A (l : List Int) (a : Nat) (f : Bool) : Nat := jmA l (j2A l a f) (j2B l a f)
def j3B (l : List Int) (a : Nat) (f : Bool) : Bool := jmB l (j2A l a f) (j2B l a f)
def jyR (l : List Int) (a : Nat) (f : Bool) : List Int := iX l (j1A l a f) (j1B l a f)
def jyN (l : List Int) (a : Nat) (f : Bool) : Nat := aR l (j1A l a f) (j1B l a f)
def lE (l : List Int) (a : Nat) (f : Bool) : List (List Int) := jmV l (j2A l a f) (j2B l a f)
def xH (l : List Int) (a : Nat) (f : Bool) : List Int := iX l (j3A l a f) (j3B l a f)
def xG (l : List Int) (a : Nat) (f : Bool) : Nat := aR l (j3A l a f) (j3B l a f)
theorem ZbI.step {l : List Int} {a : Nat} {f : Bool} {k b : Nat} {o : List Bx} (h : ZbI l a f k b false o) (hk : 0 < k) : ZbI l a f (k - 1) (jbA l b false) (jbB l b false) (o ++ [aQ ((kK l (kO b) : Nat) : Int) (jyR l b false) (jyN l b false) (lE l b false) (xH l b false) (xG l b false)]) := JtI.step h hk
theorem lR {l : List Int} {a : Nat} {f : Bool} {k b : Nat} {g : Bool} {o : List Bx} (h : ZbI l a f k b g o) (hk : k = 0) : jxA l a f = b ∧ jxB l a f = g ∧ jxV l a f = o := by
  have h1 := gK h hk
  exact ⟨congrArg Prod.fst h1.1, congrArg Prod.snd h1.1, h1.2⟩
theorem k6j {l : List Int} {a : Nat} {f : Bool} {k b : Nat} {o : List Bx} (h : ZbI l a f k b true o) : jxA l a f = b ∧ jxB l a f = true ∧ jxV l a f = o := by
  have h1 := gJ h
  exact ⟨congrArg Prod.fst h1.1, congrArg Prod.snd h1.1, h1.2⟩
theorem u8t {l : List Int} (hy : Byt l) (a : Nat) (f : Bool) : BxW (aQ ((kK l (kO a) : Nat) : Int) (jyR l a f) (jyN l a f) (lE l a f) (xH l a f) (xG l a f)) := by
  have h1 := bW hy (j1A l a f) (j1B l a f); have h2 := bW hy (j3A l a f) (j3B l a f); have h3 := k86 hy (j2A l a f) (j2B l a f)
  exact ⟨h1.1, h2.1, ke8 h1.2 (by omega), ke8 h2.2 (by omega), ke8 h3 (by omega), u6c hy _ _⟩
/-! both readers, a whole descriptor -/
theorem u8p {s a : Nat} {l : List Int} {f : Bool} {b : Nat} {g : Bool} (e : cK a (wG s l a) (pH s l a) = b) (h : eK f (pH s l a) = g) : rG s l (a, f) = (b, g) := by
  subst e; subst h
  unfold rG cK eK wG pH
  by_cases h : a + s ≤ l.length
  · rw [if_pos (show (a, f).1 + s ≤ _ from h), if_pos h, if_pos h, if_pos rfl, if_pos rfl]
  · rw [if_neg (show ¬ (a, f).1 + s ≤ _ from h), if_neg h, if_neg (by decide), if_neg (by decide)]
theorem u8o {a : Nat} {l : List Int} {f : Bool} {b : Nat} {g : Bool} (e : cK a (lX l a) (vC l a) = b) (h : eK f (vC l a) = g) : rX l (a, f) = (b, g) := by
  subst e; subst h
  unfold rX cK eK lX
  by_cases h : vC l a = 0
  · rw [if_pos (show vC l (a, f).1 = 0 from h), if_pos h, if_pos h, if_pos h]
  · rw [if_neg (show ¬ vC l (a, f).1 = 0 from h), if_neg h, if_neg h]
theorem k3k {s a : Nat} {l : List Int} {f : Bool} {b : Nat} {g : Bool} (e : qO s l a f = b) (h : qW s l a f = g) : rG s l (a, f) = (b, g) := by subst e; subst h; rfl
theorem u7p (l : List Int) (a : Nat) : aP l (kO a) = y7 l a := by
  unfold aP y7
  by_cases h : vC l a = 0
  · rw [if_pos h, if_pos ⟨rfl, h⟩]; rfl
  · rw [if_neg h, if_neg fun e => h e.2]
theorem k06 {p : List Int} {a1 a2 a3 a4 a5 a6 a7 a8 : Nat} {f1 f2 f3 f4 f5 f6 f7 f8 : Bool} (e1 : cK 4 (wG 8 p 4) (pH 8 p 4) = a1) (g1 : eK false (pH 8 p 4) = f1) (e2 : cK a1 (lX p a1) (vC p a1) = a2) (g2 : eK f1 (vC p a1) = f2) (e3 : qO 2 p a2 f2 = a3) (g3 : qW 2 p a2 f2 = f3) (e4 : qO 2 p a3 f3 = a4) (g4 : qW 2 p a3 f3 = f4) (e5 : qO 4 p a4 f4 = a5) (g5 : qW 4 p a4 f4 = f5) (e6 : qO 2 p a5 f5 = a6) (g6 : qW 2 p a5 f5 = f6) (e7 : qO 2 p a6 f6 = a7) (g7 : qW 2 p a6 f6 = f7) (e8 : jxA p a7 f7 = a8) (g8 : jxB p a7 f7 = f8) :
    (f8 = true → ¬ qC (cP p qE) = 0) ∧ (f8 = false → qC (cP p qE) = 0 ∧ kT (cP p qE) = a8 ∧ uW p qE = uW p (kO 4) ∧ aP p (dz1 p qE) = y7 p a1 ∧ kK p (gR p qE) = kK p (kO a2) ∧ kK p (gQ p qE) = kK p (kO a3) ∧ qU p (gP p qE) = qU p (kO a4) ∧ kK p (gO p qE) = kK p (kO a5) ∧ kK p (gN p qE) = kK p (kO a6) ∧ vD p (bJ p qE) = jxV p a7 f7) := by
  have w1 := u8p e1 g1
  have w2 := u8o e2 g2
  have w3 := k3k e3 g3
  have w4 := k3k e4 g4
  have w5 := k3k e5 g5
  have w6 := k3k e6 g6
  have w7 := k3k e7 g7
  have w8 : zbS p (a7, f7) = (a8, f8) := by subst e8; subst g8; rfl
  have r := (((((((vL 8 p).comp (u1y p)).comp (vL 2 p)).comp (vL 2 p)).comp (vL 4 p)).comp (vL 2 p)).comp (vL 2 p)).comp (u0e p)
  have c : zbS p (rG 2 p (rG 2 p (rG 4 p (rG 2 p (rG 2 p (rX p (rG 8 p (4, false)))))))) = (a8, f8) := by rw [w1, w2, w3, w4, w5, w6, w7, w8]
  have q8 : f8 = false → f7 = false := fun h => by
    have := eO (u0e p) (w := (a7, f7)) (by rw [w8]; exact h); exact this
  have q7 : f7 = false → f6 = false := fun h => eO (vL 2 p) (w := (a6, f6)) (by rw [w7]; exact h)
  have q6 : f6 = false → f5 = false := fun h => eO (vL 2 p) (w := (a5, f5)) (by rw [w6]; exact h)
  have q5 : f5 = false → f4 = false := fun h => eO (vL 4 p) (w := (a4, f4)) (by rw [w5]; exact h)
  have q4 : f4 = false → f3 = false := fun h => eO (vL 2 p) (w := (a3, f3)) (by rw [w4]; exact h)
  have q3 : f3 = false → f2 = false := fun h => eO (vL 2 p) (w := (a2, f2)) (by rw [w3]; exact h)
  have q2 : f2 = false → f1 = false := fun h => eO (u1y p) (w := (a1, f1)) (by rw [w2]; exact h)
  refine ⟨fun h => ?_, fun h => ?_⟩
  · exact r.b 4 (by show (zbS p (rG 2 p (rG 2 p (rG 4 p (rG 2 p (rG 2 p (rX p (rG 8 p (4, false))))))))).2 = true; rw [c]; exact h)
  · have r1 : cP p qE = kO a8 := by
      have := r.g 4 (by show (zbS p (rG 2 p (rG 2 p (rG 4 p (rG 2 p (rG 2 p (rX p (rG 8 p (4, false))))))))).2 = false; rw [c]; exact h)
      have c2 : (zbS p (rG 2 p (rG 2 p (rG 4 p (rG 2 p (rG 2 p (rX p (rG 8 p (4, false))))))))).1 = a8 := by rw [c]
      rw [← c2]; exact this
    have h7 := q8 h; have h6 := q7 h7; have h5 := q6 h6; have h4 := q5 h5; have h3 := q4 h4; have h2 := q3 h3; have h1 := q2 h2
    subst h1; subst h2; subst h3; subst h4; subst h5; subst h6; subst h7; subst h
    have d1 : dz1 p qE = kO a1 := by have := (vL 8 p).g 4 (by rw [w1]); rw [w1] at this; exact this
    have d2 : gR p qE = kO a2 := by unfold gR; rw [d1]; have := (u1y p).g a1 (by rw [w2]); rw [w2] at this; exact this
    have d3 : gQ p qE = kO a3 := by unfold gQ; rw [d2]; have := (vL 2 p).g a2 (by rw [w3]); rw [w3] at this; exact this
    have d4 : gP p qE = kO a4 := by unfold gP; rw [d3]; have := (vL 2 p).g a3 (by rw [w4]); rw [w4] at this; exact this
    have d5 : gO p qE = kO a5 := by unfold gO; rw [d4]; have := (vL 4 p).g a4 (by rw [w5]); rw [w5] at this; exact this
    have d6 : gN p qE = kO a6 := by unfold gN; rw [d5]; have := (vL 2 p).g a5 (by rw [w6]); rw [w6] at this; exact this
    have d7 : bJ p qE = kO a7 := by unfold bJ; rw [d6]; have := (vL 2 p).g a6 (by rw [w7]); rw [w7] at this; exact this
    rw [r1, d1, d2, d3, d4, d5, d6, d7]
    refine ⟨rfl, rfl, rfl, u7p p a1, rfl, rfl, rfl, rfl, rfl, ?_⟩
    exact u8e p a7 (by rw [w8])
theorem u6d {l : List Int} {a b i : Nat} {f g : Bool} {o : List (List Int)} (h1 : jmA l (j2A l a f) (j2B l a f) = b) (h4 : jmB l (j2A l a f) (j2B l a f) = g) (h2 : jmV l (j2A l a f) (j2B l a f) = o) (h3 : ka1 o = i) : jbA l a f = cT l b g ∧ jbB l a f = eT l b g ∧ xH l a f = iX l b g ∧ xG l a f = aR l b g ∧ lE l a f = o ∧ ka1 (lE l a f) = i := by
  subst h1; subst h4; subst h2; subst h3; exact ⟨rfl, rfl, rfl, rfl, rfl, rfl⟩
structure JOk (p : List Int) (a1 a2 a3 a4 a5 a6 a8 : Nat) (o : List Bx) : Prop where
  q : qC (cP p qE) = 0 ∧ kT (cP p qE) = a8
  i : uW p qE = uW p (kO 4)
  t : aP p (dz1 p qE) = y7 p a1
  n2 : kK p (gR p qE) = kK p (kO a2)
  n3 : kK p (gQ p qE) = kK p (kO a3)
  n4 : qU p (gP p qE) = qU p (kO a4)
  n5 : kK p (gO p qE) = kK p (kO a5)
  n6 : kK p (gN p qE) = kK p (kO a6)
  b : vD p (bJ p qE) = o
theorem u2r {p : List Int} {a1 a2 a3 a4 a5 a6 a8 : Nat} {o q : List Bx} (h : qC (cP p qE) = 0 ∧ kT (cP p qE) = a8 ∧ uW p qE = uW p (kO 4) ∧ aP p (dz1 p qE) = y7 p a1 ∧ kK p (gR p qE) = kK p (kO a2) ∧ kK p (gQ p qE) = kK p (kO a3) ∧ qU p (gP p qE) = qU p (kO a4) ∧ kK p (gO p qE) = kK p (kO a5) ∧ kK p (gN p qE) = kK p (kO a6) ∧ vD p (bJ p qE) = o) (h2 : o = q) : JOk p a1 a2 a3 a4 a5 a6 a8 q := by
  subst h2
  obtain ⟨h1, h2, h3, h4, h5, h6, h7, h8, h9, h10⟩ := h
  exact ⟨⟨h1, h2⟩, h3, h4, h5, h6, h7, h8, h9, h10⟩
theorem JOk.v {p : List Int} {a1 a2 a3 a4 a5 a6 a8 : Nat} {o : List Bx} (h : JOk p a1 a2 a3 a4 a5 a6 a8 o) : deV p = vS (y7 p a1) ((kK p (kO a2) : Nat) : Int) ((kK p (kO a3) : Nat) : Int) (qU p (kO a4)) ((kK p (kO a5) : Nat) : Int) ((kK p (kO a6) : Nat) : Int) o := by
  unfold deV; rw [h.t, h.n2, h.n3, h.n4, h.n5, h.n6, h.b]
theorem k28 {l : List Int} {m : Nat} (h : ¬ m < 8) : ka2 4 (ka2 (m - 4) l) = ka2 4 l := by rw [List.take_take, show min 4 (m - 4) = 4 by omega]
theorem u8y {l p : List Int} {m M : Nat} (hm : l.length = m) (hM : m - 4 = M) (hp : ka2 (m - 4) l = p) (h : ¬ m < 8) (h1 : ¬ g32 l M = kI p) : qR l = 6 := by subst hM; subst hp; exact u3k hm h h1
theorem u8x {l p : List Int} {m M : Nat} (hm : l.length = m) (hM : m - 4 = M) (hp : ka2 (m - 4) l = p) (h : ¬ m < 8) (h1 : g32 l M = kI p) (h2 : ¬ ka2 4 p = [83, 78, 68, 49]) : qR l = 5 := by subst hM; subst hp; rw [k28 h] at h2; exact u6t hm h h1 h2
theorem u6o {l p : List Int} {m M : Nat} (hm : l.length = m) (hM : m - 4 = M) (hp : ka2 (m - 4) l = p) (h : ¬ m < 8) (h1 : g32 l M = kI p) (h2 : ka2 4 p = [83, 78, 68, 49]) (h3 : ¬ qC (cP p qE) = 0) : qR l = 5 := by subst hM; subst hp; rw [k28 h] at h2; exact k95 hm h h1 h2 fun e => h3 e.1
theorem u8w {l p : List Int} {m M a1 a2 a3 a4 a5 a6 a8 : Nat} {o : List Bx} (hm : l.length = m) (hM : m - 4 = M) (hp : ka2 (m - 4) l = p) (h : ¬ m < 8) (h1 : g32 l M = kI p) (h2 : ka2 4 p = [83, 78, 68, 49]) (J : JOk p a1 a2 a3 a4 a5 a6 a8 o) (h3 : ¬ a8 = M) : qR l = 5 := by
  subst hM; subst hp; rw [k28 h] at h2
  exact k95 hm h h1 h2 fun e => h3 (by rw [← J.q.2]; exact e.2)
theorem u8v {l p : List Int} {m M a1 a2 a3 a4 a5 a6 a8 : Nat} {o : List Bx} (hm : l.length = m) (hM : m - 4 = M) (hp : ka2 (m - 4) l = p) (h : ¬ m < 8) (h1 : g32 l M = kI p) (h2 : ka2 4 p = [83, 78, 68, 49]) (J : JOk p a1 a2 a3 a4 a5 a6 a8 o) (h3 : a8 = M) (h4 : vS (y7 p a1) ((kK p (kO a2) : Nat) : Int) ((kK p (kO a3) : Nat) : Int) (qU p (kO a4)) ((kK p (kO a5) : Nat) : Int) ((kK p (kO a6) : Nat) : Int) o = false) : qR l = 1 := by
  rw [← J.v] at h4
  subst hM; subst hp; rw [k28 h] at h2
  exact u6r hm h h1 h2 ⟨J.q.1, by rw [J.q.2]; exact h3⟩ h4
theorem u8u {l p : List Int} {m M a1 a2 a3 a4 a5 a6 a8 : Nat} {o : List Bx} (hm : l.length = m) (hM : m - 4 = M) (hp : ka2 (m - 4) l = p) (h : ¬ m < 8) (h1 : g32 l M = kI p) (h2 : ka2 4 p = [83, 78, 68, 49]) (J : JOk p a1 a2 a3 a4 a5 a6 a8 o) (h3 : a8 = M) (h4 : vS (y7 p a1) ((kK p (kO a2) : Nat) : Int) ((kK p (kO a3) : Nat) : Int) (qU p (kO a4)) ((kK p (kO a5) : Nat) : Int) ((kK p (kO a6) : Nat) : Int) o = true) : qR l = 0 ∧ yK l = uW p (kO 4) ∧ uX l = y7 p a1 ∧ yP l = ((kK p (kO a2) : Nat) : Int) ∧ yO l = ((kK p (kO a3) : Nat) : Int) ∧ yN l = qU p (kO a4) ∧ yM l = ((kK p (kO a5) : Nat) : Int) ∧ yL l = ((kK p (kO a6) : Nat) : Int) ∧ qK l = o := by
  rw [← J.v] at h4
  have h0 : qR l = 0 := by
    subst hM; subst hp; rw [k28 h] at h2
    exact u6q hm h h1 h2 ⟨J.q.1, by rw [J.q.2]; exact h3⟩ h4
  obtain ⟨b1, b2, b3, b4, b5, b6, b7, b8⟩ := u6p hm hp h0
  exact ⟨h0, b1.trans J.i, b2.trans J.t, by rw [b3, J.n2], by rw [b4, J.n3], b5.trans J.n4, by rw [b6, J.n5], by rw [b7, J.n6], b8.trans J.b⟩
theorem iG (l : List Int) (m a : Nat) (f : Bool) (t : Nat) (q : Int) (hm : ka1 l = m) (hb : m ≤ 1000000) (hy : Byt l) (ha : a ≤ m) (ht : t ≤ m) : Fun 29 [.c (.ptr 0 0), iE ((t : Nat) : Int), iE q] (kD [(0, some (66, .ds [D.sl (dI .u8 l) m, iD ((a : Nat) : Int), D.lit (.bool (f))]))]) 1 (.tup []) (kD [(0, some (66, .ds [D.sl (dI .u8 l) m, iD (((cK a t q) : Nat) : Int), D.lit (.bool (eK f q))]))]) 1 := by
  refine Fun.mk (n := 15) Tryz.func29 rfl rfl (ka3 rfl) ?_
  intro cx hcx
  by_cases hx1 : (q ≠ 0)
  · refine zr [.no, .b true] [0, 1, 7] [0] ((q ≠ 0)) [(0, rV 0 0), (1, uV t), (7, bV true)] [(0, some (66, .ds [db l m, uD a, D.lit (.bool (f))]))] 1 zo ?_
    refine zt ?_
    refine aC (kJ 4 []) True [] [(0, some (66, .ds [db l m, uD a, D.lit (.bool true)]))] 1 trivial ?_
    have hz1 : cK a t q = a := if_neg (by omega); have hzb : eK f q = true := if_neg (by omega)
    exact kB (.inl rfl) [] (P := (([db l m, uD (cK a t q), D.lit (.bool (eK f q))] : List D) = [db l m, uD a, D.lit (.bool true)])) zk (by exact mV zo (by assumption))
  · refine zr [.no, .b false] [0, 1, 7] [0] (¬ (q ≠ 0)) [(0, rV 0 0), (1, uV t), (7, bV false)] [(0, some (66, .ds [db l m, uD a, D.lit (.bool (f))]))] 1 zo ?_
    refine zf ?_
    refine aC (kJ 5 []) True [] [(0, some (66, .ds [db l m, uD t, D.lit (.bool (f))]))] 1 trivial ?_
    have hz1 : cK a t q = t := if_pos (by omega); have hzb : eK f q = f := if_pos (by omega)
    exact kB (.inl rfl) [] (P := (([db l m, uD (cK a t q), D.lit (.bool (eK f q))] : List D) = [db l m, uD t, D.lit (.bool (f))])) zk (by exact mV zo (by assumption))
theorem k9i (l : List Int) (m a : Nat) (hm : ka1 l = m) (hb : m ≤ 1000000) (hy : Byt l) (ha : a ≤ m) : Fun 28 [.c (.d (D.sl (dI .u8 l) m)), iE ((a : Nat) : Int)] (kD []) 0 (.tup [.c (.d (D.lit (.int .u64 (uW l (kO a))))), iE (((wG 8 l a) : Nat) : Int), iE (pH 8 l a)]) (kD []) 0 := by
  by_cases h : a + 8 ≤ m
  · have h1 := W_rGet64 l m a hm hb hy h
    rw [← u4u hm h] at h1
    rw [(k45 hm h).1, (k45 hm h).2]; exact h1
  · have h1 := W_rGet64_s l m a hm hb hy ha (by omega)
    rw [(k46 hm h).1, (k46 hm h).2, k9w hm (by show ¬ a + 8 ≤ m; omega)]; exact h1
theorem k9h (l : List Int) (m a : Nat) (hm : ka1 l = m) (hb : m ≤ 1000000) (hy : Byt l) (ha : a + 1 ≤ m) : Fun 54 [.c (.d (D.sl (dI .u8 l) m)), iE ((a : Nat) : Int), iE 1] (kD []) 0 (.tup [.c (.d (D.lit (.int .u64 (ka0 l a 0)))), iE (((a + 1) : Nat) : Int), iE 0]) (kD []) 0 := by
  refine Fun.mk (n := 45) Tryz.func54 rfl rfl (ka3 rfl) ?_
  intro cx hcx
  refine kG [.no, .no, .no] True [(0, sV .u8 l m), (1, uV a), (2, iV 1)] [] 0 trivial ?_
  refine AW.seq ?_
  refine kV (.no :: .b false :: kJ 4 [.b false, .no]) ((¬ ((a : Int) < 0)) ∧ (¬ ((m : Int) < (a : Int)))) [(0, sV .u8 l m), (1, uV a), (2, iV 1), (18, bV false)] ⟨zo, zo⟩ ?_
  refine uM ?_
  refine AW.seq ?_
  refine kV [.no, .no, .no, .w, .no, .b false] ((qB ((m : Int) - (a : Int))) ∧ (¬ (((m : Int) - (a : Int)) < 1))) [(0, sV .u8 l m), (1, uV a), (2, iV 1), (24, bV false)] ⟨⟨by omega, by omega⟩, zo⟩ ?_
  refine uM ?_
  refine kV [.no] True [(0, sV .u8 l m), (1, uV a), (2, iV 1), (9, kP (D.lit (.int .u64 0)))] trivial ?_
  refine AW.seq ?_
  refine kV [.no, .w, .no] (qB (0 : Int)) [(0, sV .u8 l m), (1, uV a), (2, iV 1), (9, kP (D.lit (.int .u64 0))), (10, iV 0)] ⟨by omega, by omega⟩ ?_
  refine AW.block ?_
  refine AW.rounds 2 ?_
  refine AWr.s ?_
  refine AW.seq ?_
  refine kG [.no, .b true] (((0 : Int) ≤ 0)) [(0, sV .u8 l m), (1, uV a), (2, iV 1), (9, kP (D.lit (.int .u64 0))), (10, iV 0), (28, bV true)] [] 0 zo ?_
  refine u1 ?_
  refine AW.seq ?_
  refine AW.block ?_
  have hx1 : 0 ≤ (ka0 l (a + 0) 0) ∧ (ka0 l (a + 0) 0) ≤ 255 := (kL : Byt l).at _ zo
  refine uG [.no, .n 8, .no, .no, .no, .w, .n (a + 0), .d (D.lit (.int .u8 (ka0 l (a + 0) 0))), .w, .i (ka0 l (a + 0) 0), .no] ((kM 8) ∧ ((8 : Nat) ≤ 64) ∧ (0 ≤ (0 : Int) ∧ (0 : Int) ≤ 18446744073709551615) ∧ (qB ((a : Int) + 0)) ∧ ((((a : Int) + 0) : Int) = (((a + 0) : Nat) : Int)) ∧ ((a + 0) < m) ∧ ((ka5 (a + 0) (dI .u8 l))[0]? = some (D.lit (.int .u8 (ka0 l (a + 0) 0)))) ∧ (0 ≤ (ka0 l (a + 0) 0) ∧ (ka0 l (a + 0) 0) ≤ 18446744073709551615) ∧ (qJ .or .u64 0 (ka0 l (a + 0) 0) = (ka0 l (a + 0) 0))) [(0, sV .u8 l m), (1, uV a), (2, iV 1), (9, kP (D.lit (.int .u64 (ka0 l (a + 0) 0)))), (10, iV 0)] ⟨rfl, zo, ⟨by omega, by omega⟩, ⟨by omega, by omega⟩, (by rfl), zo, (qN _ _ _ zo), ⟨by omega, by omega⟩, (or_zU (.inr (.inl ⟨rfl, rfl⟩)) zo).1⟩ ?_
  refine uG [.no, .w, .no] (qB ((-1) : Int)) [(0, sV .u8 l m), (1, uV a), (2, iV 1), (9, kP (D.lit (.int .u64 (ka0 l (a + 0) 0)))), (10, iV (-1))] ⟨by omega, by omega⟩ ?_
  refine AWr.s ?_
  refine AW.seq ?_
  refine kG [.no, .b false] (¬ ((0 : Int) ≤ (-1))) [(0, sV .u8 l m), (1, uV a), (2, iV 1), (9, kP (D.lit (.int .u64 (ka0 l (a + 0) 0)))), (10, iV (-1)), (28, bV false)] [] 0 zo ?_
  refine zf ?_
  refine AW.exit ?_
  refine kG [.no, .no, .no, .w, .no, .no, .no] (qB ((a : Int) + 1)) [(6, kP (D.lit (.int .u64 (ka0 l (a + 0) 0)))), (7, iV (↑a + 1)), (8, iV 0)] [] 0 ⟨by omega, by omega⟩ ?_
  refine AW.ret ?_
  exact kB (.inr rfl) [] (P := (((ka0 l a 0) : Int) = (ka0 l (a + 0) 0)) ∧ (q1S a) ∧ (kM 0)) zk ⟨(by rfl), zo, rfl⟩
theorem k1u (l : List Int) (m a : Nat) (hm : ka1 l = m) (hb : m ≤ 1000000) (hy : Byt l) (ha2 : a ≤ m) (ha : m < a + 1) : Fun 54 [.c (.d (D.sl (dI .u8 l) m)), iE ((a : Nat) : Int), iE 1] (kD []) 0 (.tup [.c (.d (D.lit (.int .u64 0))), iE 0, iE 4]) (kD []) 0 := by
  refine Fun.mk (n := 45) Tryz.func54 rfl rfl (ka3 rfl) ?_
  intro cx hcx
  refine kG [.no, .no, .no] True [(0, sV .u8 l m), (1, uV a), (2, iV 1)] [] 0 trivial ?_
  refine AW.seq ?_
  refine kV (.no :: .b false :: kJ 4 [.b false, .no]) ((¬ ((a : Int) < 0)) ∧ (¬ ((m : Int) < (a : Int)))) [(0, sV .u8 l m), (1, uV a), (2, iV 1), (18, bV false)] ⟨zo, zo⟩ ?_
  refine uM ?_
  refine AW.seq ?_
  refine kV [.no, .no, .no, .w, .no, .b true] ((qB ((m : Int) - (a : Int))) ∧ ((((m : Int) - (a : Int)) < 1))) [(0, sV .u8 l m), (1, uV a), (2, iV 1), (24, bV true)] ⟨⟨by omega, by omega⟩, zo⟩ ?_
  refine zt ?_
  refine kV [.no, .no, .no] True [(6, kP (D.lit (.int .u64 0))), (7, iV 0), (8, iV 4)] trivial ?_
  refine AW.ret ?_
  exact kB (.inr rfl) [] (P := (kM 0) ∧ (kM 0) ∧ (kM 4)) zk ⟨rfl, rfl, rfl⟩
theorem nQ {p : Prop} (h : p := by (simp only [c9, bY, uK, kd0, ki8, kd7, List.nil_append, kd1]; done)) : p := h
theorem u3 {p : Prop} (h : p := by (simp only [qA, k8, pbL_len, qP, qI, uF, ka4, kb3, kb6, kb4, kb9, kb8, kc4, kc8, kc6, kd0] <;> omega)) : p := h
theorem k1w (l : List Int) (m a : Nat) (hm : ka1 l = m) (hb : m ≤ 1000000) (hy : Byt l) (ha : a ≤ m) : Fun 30 [.c (.d (D.sl (dI .u8 l) m)), iE ((a : Nat) : Int)] (kD []) 0 (.tup [.c (.d (D.lit (.string (strOfNums (y7 l a))))), iE (((lX l a) : Nat) : Int), iE (vC l a)]) (kD []) 0 := by
  refine Fun.mk (n := 44) Tryz.func30 rfl rfl (ka3 rfl) ?_
  intro cx hcx
  refine kG [.no, .no, .no] True [(0, sV .u8 l m), (1, uV a)] [] 0 trivial ?_
  by_cases hx1 : ((a + 1) ≤ m)
  · have hx2 : (((0 : Int) ≤ (ka0 l a 0)) ∧ ((ka0 l a 0) ≤ 255)) := ((kL : Byt l).at _ zo)
    have hx3 : ((ka0 l a 0) = (((uI l a) : Nat) : Int)) := (zH (kL : Byt l) zo)
    refine kG (.no :: .no :: .call [] (.tup [.c (.d (D.lit (.int .u64 (ka0 l a 0)))), uE (a + 1), iE 0]) [] 0 [] none :: kJ 7 []) _ [(0, sV .u8 l m), (7, kP (D.lit (.int .u64 (ka0 l a 0)))), (8, uV (a + 1)), (9, iV 0)] [] 0 (k9h l m a zo zo (kL : Byt l) zo) ?_
    refine AW.seq ?_
    refine AW.block ?_
    refine kV [.no, .b false, .no] (¬ ((0 : Int) ≠ 0)) [(0, sV .u8 l m), (7, kP (D.lit (.int .u64 (ka0 l a 0)))), (8, uV (a + 1)), (9, iV 0), (17, bV false)] zo ?_
    refine zf ?_
    by_cases hx4 : ((64 : Int) < (ka0 l a 0))
    · refine zr [.no, .b true, .no] [0, 7, 8, 21] [] (((64 : Int) < (ka0 l a 0))) [(0, sV .u8 l m), (7, kP (D.lit (.int .u64 (ka0 l a 0)))), (8, uV (a + 1)), (21, bV true)] [] 0 zo ?_
      refine zt ?_
      refine kG [.no, .no, .no] True [(4, kP (D.lit ((.string (ByteArray.mk #[]))))), (5, iV 0), (6, iV 3)] [] 0 trivial ?_
      have hze : vC l a = 3 := (u04 hm (by omega) (by omega))
      have hza : lX l a = 0 := if_neg (by omega)
      have hzv : y7 l a = [] := if_neg (by omega)
      refine AW.ret ?_
      exact kB (.inr rfl) [] (P := ((.string (strOfNums (y7 l a)) : Value) = .string (ByteArray.mk #[])) ∧ (((lX l a : Int) : Int) = 0) ∧ (((vC l a) : Int) = 3)) zk ⟨(congrArg (fun x9 => Value.string (strOfNums x9)) (show (y7 l a) = ([] : List Int) from (by (rw [hzv]; done)))), zo, zo⟩
    · refine zr [.no, .b false, .no] [0, 7, 8, 21] [] (¬ ((64 : Int) < (ka0 l a 0))) [(0, sV .u8 l m), (7, kP (D.lit (.int .u64 (ka0 l a 0)))), (8, uV (a + 1)), (21, bV false)] [] 0 zo ?_
      refine zf ?_
      by_cases hx5 : ((((m : Nat) : Int) - (((a + 1) : Nat) : Int)) < (ka0 l a 0))
      · refine zr [.no, .no, .no, .w, .w, .no, .b true, .no] [0, 7, 8, 24] [] ((qB ((m : Int) - (((a + 1) : Nat) : Int))) ∧ (0 ≤ ((m : Int) - (((a + 1) : Nat) : Int)) ∧ ((m : Int) - (((a + 1) : Nat) : Int)) ≤ 18446744073709551615) ∧ ((((m : Int) - (((a + 1) : Nat) : Int)) < (ka0 l a 0)))) [(0, sV .u8 l m), (7, kP (D.lit (.int .u64 (ka0 l a 0)))), (8, uV (a + 1)), (24, bV true)] [] 0 ⟨⟨by omega, by omega⟩, ⟨by omega, by omega⟩, zo⟩ ?_
        refine zt ?_
        refine kG [.no, .no, .no] True [(4, kP (D.lit ((.string (ByteArray.mk #[]))))), (5, iV 0), (6, iV 4)] [] 0 trivial ?_
        have hze : vC l a = 4 := (u03 hm (by omega) (by omega) (by omega))
        have hza : lX l a = 0 := if_neg (by omega)
        have hzv : y7 l a = [] := if_neg (by omega)
        refine AW.ret ?_
        exact kB (.inr rfl) [] (P := ((.string (strOfNums (y7 l a)) : Value) = .string (ByteArray.mk #[])) ∧ (((lX l a : Int) : Int) = 0) ∧ (((vC l a) : Int) = 4)) zk ⟨(congrArg (fun x9 => Value.string (strOfNums x9)) (show (y7 l a) = ([] : List Int) from (by (rw [hzv]; done)))), zo, zo⟩
      · refine zr [.no, .no, .no, .w, .w, .no, .b false, .no] [0, 7, 8, 24] [] ((qB ((m : Int) - (((a + 1) : Nat) : Int))) ∧ (0 ≤ ((m : Int) - (((a + 1) : Nat) : Int)) ∧ ((m : Int) - (((a + 1) : Nat) : Int)) ≤ 18446744073709551615) ∧ (¬ (((m : Int) - (((a + 1) : Nat) : Int)) < (ka0 l a 0)))) [(0, sV .u8 l m), (7, kP (D.lit (.int .u64 (ka0 l a 0)))), (8, uV (a + 1)), (24, bV false)] [] 0 ⟨⟨by omega, by omega⟩, ⟨by omega, by omega⟩, zo⟩ ?_
        refine uM ?_
        refine kG (kJ 4 [.w, .w, .sls (a + 1) ((a + 1) + (kb5 (ka0 l a 0))) (uI l a) (dI .u8 (ka2 (uI l a) (ka5 (a + 1) l))), .st none (ka2 (uI l a) (ka5 (a + 1) l)), .no, .no, .w, .w, .no, .no, .no]) ((qB (ka0 l a 0)) ∧ (qB ((((a + 1) : Nat) : Int) + (ka0 l a 0))) ∧ (kM (((a + 1) : Nat) : Int)) ∧ ((((((a + 1) : Nat) : Int) + (ka0 l a 0)) : Int) = ((((a + 1) + (kb5 (ka0 l a 0))) : Nat) : Int)) ∧ ((a + 1) ≤ ((a + 1) + (kb5 (ka0 l a 0)))) ∧ (((a + 1) + (kb5 (ka0 l a 0))) ≤ m) ∧ (((a + 1) + (kb5 (ka0 l a 0))) - (a + 1) = (uI l a)) ∧ (ka2 ((uI l a) * 1) (ka5 ((a + 1) * 1) (dI .u8 l)) = (dI .u8 (ka2 (uI l a) (ka5 (a + 1) l)))) ∧ ((dI .u8 (ka2 (uI l a) (ka5 (a + 1) l))).length = (uI l a) * 1) ∧ (kY (dI .u8 (ka2 (uI l a) (ka5 (a + 1) l)))) ∧ (qB (ka0 l a 0)) ∧ (qB ((((a + 1) : Nat) : Int) + (ka0 l a 0)))) [(4, kP (D.lit (.string (strOfNums (ka2 (uI l a) (ka5 (a + 1) l)))))), (5, iV ((((a + 1) : Nat) : Int) + (ka0 l a 0))), (6, iV 0)] [] 0 ⟨⟨by omega, by omega⟩, ⟨by omega, by omega⟩, rfl, zo, zo, zo, zo, nQ, u3, rfl, ⟨by omega, by omega⟩, ⟨by omega, by omega⟩⟩ ?_
        have hze : vC l a = 0 := (zI hm (by omega) (by omega) (by omega))
        have hza : lX l a = a + 1 + uI l a := if_pos (by omega)
        have hzv : y7 l a = ka2 (uI l a) (ka5 (a + 1) l) := if_pos (by omega)
        refine AW.ret ?_
        exact kB (.inr rfl) [] (P := ((.string (strOfNums (y7 l a)) : Value) = .string (strOfNums (ka2 (uI l a) (ka5 (a + 1) l)))) ∧ (((lX l a : Int) : Int) = ((((a + 1) : Nat) : Int) + (ka0 l a 0))) ∧ (((vC l a) : Int) = 0)) zk ⟨(congrArg (fun x9 => Value.string (strOfNums x9)) (show (y7 l a) = (ka2 (uI l a) (ka5 (a + 1) l)) from (by (rw [hzv]; done)))), zo, zo⟩
  · refine zr (.no :: .no :: .call [] (.tup [.c (.d (D.lit (.int .u64 0))), iE 0, iE 4]) [] 0 [] none :: kJ 7 []) [0, 7, 8, 9] [] _ [(0, sV .u8 l m), (7, kP (D.lit (.int .u64 0))), (8, iV 0), (9, iV 4)] [] 0 (k1u l m a zo zo (kL : Byt l) zo zo) ?_
    refine AW.seq ?_
    refine AW.block ?_
    refine kG [.no, .b true, .no] (((4 : Int) ≠ 0)) [(0, sV .u8 l m), (7, kP (D.lit (.int .u64 0))), (8, iV 0), (9, iV 4), (17, bV true)] [] 0 zo ?_
    refine zt ?_
    refine kV (kJ 4 []) True [(4, kP (D.lit ((.string (ByteArray.mk #[]))))), (5, iV 0), (6, iV 4)] trivial ?_
    have hze : vC l a = 4 := (u02 hm (by omega))
    have hza : lX l a = 0 := if_neg (by omega)
    have hzv : y7 l a = [] := if_neg (by omega)
    refine AW.ret ?_
    exact kB (.inr rfl) [] (P := ((.string (strOfNums (y7 l a)) : Value) = .string (ByteArray.mk #[])) ∧ (((lX l a : Int) : Int) = 0) ∧ (((vC l a) : Int) = 4)) zk ⟨(congrArg (fun x9 => Value.string (strOfNums x9)) (show (y7 l a) = ([] : List Int) from (by (rw [hzv]; done)))), zo, zo⟩
theorem aJ (l : List Int) (m a : Nat) (f : Bool) (hm : ka1 l = m) (hb : m ≤ 1000000) (hy : Byt l) (ha : a ≤ m) : Fun 31 [.c (.ptr 0 0)] (kD [(0, some (66, .ds [D.sl (dI .u8 l) m, iD ((a : Nat) : Int), D.lit (.bool (f))]))]) 1 (iV (((kK l (kO a)) : Nat) : Int)) (kD [(0, some (66, .ds [D.sl (dI .u8 l) m, iD (((qO 2 l a f) : Nat) : Int), D.lit (.bool (qW 2 l a f))]))]) 1 := by
  refine Fun.mk (n := 25) Tryz.func31 rfl rfl (ka3 rfl) ?_
  intro cx hcx
  refine kG [.no] True [(0, rV 0 0)] [(0, some (66, .ds [db l m, uD a, D.lit (.bool (f))]))] 1 trivial ?_
  by_cases hx1 : ((a + 2) ≤ m)
  · have hx2 : (((0 : Int) ≤ (g16 l a)) ∧ ((g16 l a) ≤ 65535)) := g16_rng (kL : Byt l) zo
    refine kG (kJ 8 (.call [] (.tup [.c (.d (D.lit (.int .u16 (g16 l a)))), uE (a + 2), iE 0]) [] 0 [] none :: kJ 7 [])) _ [(0, rV 0 0), (3, kP (D.lit (.int .u16 (g16 l a)))), (4, uV (a + 2)), (5, iV 0)] [(0, some (66, .ds [db l m, uD a, D.lit (.bool (f))]))] 1 (W_rGet16 l m a zo zo (kL : Byt l) zo) ?_
    have hx3 : ((cK a (a + 2) 0) ≤ m) := (gZ (0 : Int) (zo) (zo))
    refine kG [.no, .no, .no, .call [0] (.tup []) [(0, some (66, .ds [db l m, uD (cK a (a + 2) 0), D.lit (.bool (eK f 0))]))] 1 [] none] _ [(3, kP (D.lit (.int .u16 (g16 l a))))] [(0, some (66, .ds [db l m, uD (cK a (a + 2) 0), D.lit (.bool (eK f 0))]))] 1 (iG l m a f (a + 2) 0 zo zo (kL : Byt l) zo zo) ?_
    refine kV [.no, .w, .no] (qB (g16 l a)) [(2, iV (g16 l a))] ⟨by omega, by omega⟩ ?_
    have hx4 : qO 2 l a f = a + 2 := (k87 (f := f) hm zo).1
    have hzb : eK f 0 = qW 2 l a f := by rw [(k87 (f := f) hm (by omega)).2]; rfl
    have hx5 : cK a (a + 2) 0 = a + 2 := (if_pos rfl)
    have hx6 : ((kK l (kO a) : Nat) : Int) = g16 l a := (u4w hm hy zo)
    refine AW.ret ?_
    exact kB (.inr rfl) [] (P := (((kK l (kO a) : Int) : Int) = (g16 l a)) ∧ (([db l m, uD (qO 2 l a f), D.lit (.bool (qW 2 l a f))] : List D) = [db l m, uD (cK a (a + 2) 0), D.lit (.bool (eK f 0))])) zk ⟨zo, (by exact mV zo (Eq.symm (by assumption)))⟩
  · refine zr (kJ 8 (.call [] (.tup [.c (.d (D.lit (.int .u16 0))), iE 0, iE 4]) [] 0 [] none :: kJ 7 [])) [0, 3, 4, 5] [0] _ [(0, rV 0 0), (3, kP (D.lit (.int .u16 0))), (4, iV 0), (5, iV 4)] [(0, some (66, .ds [db l m, uD a, D.lit (.bool (f))]))] 1 (W_rGet16_s l m a zo zo (kL : Byt l) zo zo) ?_
    have hx7 : ((cK a 0 4) ≤ m) := (gZ (4 : Int) (zo) (zo))
    refine kG [.no, .no, .no, .call [0] (.tup []) [(0, some (66, .ds [db l m, uD (cK a 0 4), D.lit (.bool (eK f 4))]))] 1 [] none] _ [(3, kP (D.lit (.int .u16 0)))] [(0, some (66, .ds [db l m, uD (cK a 0 4), D.lit (.bool (eK f 4))]))] 1 (iG l m a f 0 4 zo zo (kL : Byt l) zo zo) ?_
    refine kV [.no, .w, .no] (qB (0 : Int)) [(2, iV 0)] ⟨by omega, by omega⟩ ?_
    have hx8 : qO 2 l a f = a := (k88 (f := f) hm zo).1
    have hzb : eK f 4 = qW 2 l a f := by rw [(k88 (f := f) hm (by omega)).2]; rfl
    have hx9 : cK a 0 4 = a := (if_neg (by decide))
    have hx10 : ((kK l (kO a) : Nat) : Int) = 0 := (by rw [u00 hm (by show ¬ a + 2 ≤ m; omega)]; rfl)
    refine AW.ret ?_
    exact kB (.inr rfl) [] (P := (((kK l (kO a) : Int) : Int) = 0) ∧ (([db l m, uD (qO 2 l a f), D.lit (.bool (qW 2 l a f))] : List D) = [db l m, uD (cK a 0 4), D.lit (.bool (eK f 4))])) zk ⟨zo, (by exact mV zo (Eq.symm (by assumption)))⟩
theorem rI (l : List Int) (m a : Nat) (f : Bool) (hm : ka1 l = m) (hb : m ≤ 1000000) (hy : Byt l) (ha : a ≤ m) : Fun 32 [.c (.ptr 0 0)] (kD [(0, some (66, .ds [D.sl (dI .u8 l) m, iD ((a : Nat) : Int), D.lit (.bool (f))]))]) 1 (iV (qU l (kO a))) (kD [(0, some (66, .ds [D.sl (dI .u8 l) m, iD (((qO 4 l a f) : Nat) : Int), D.lit (.bool (qW 4 l a f))]))]) 1 := by
  refine Fun.mk (n := 25) Tryz.func32 rfl rfl (ka3 rfl) ?_
  intro cx hcx
  refine kG [.no] True [(0, rV 0 0)] [(0, some (66, .ds [db l m, uD a, D.lit (.bool (f))]))] 1 trivial ?_
  by_cases hx1 : ((a + 4) ≤ m)
  · have hx2 : (((0 : Int) ≤ (g32 l a)) ∧ ((g32 l a) ≤ 4294967295)) := g32_rng (kL : Byt l) zo
    refine kG (kJ 8 (.call [] (.tup [.c (.d (D.lit (.int .u32 (g32 l a)))), uE (a + 4), iE 0]) [] 0 [] none :: kJ 7 [])) _ [(0, rV 0 0), (3, kP (D.lit (.int .u32 (g32 l a)))), (4, uV (a + 4)), (5, iV 0)] [(0, some (66, .ds [db l m, uD a, D.lit (.bool (f))]))] 1 (W_rGet32 l m a zo zo (kL : Byt l) zo) ?_
    have hx3 : ((cK a (a + 4) 0) ≤ m) := (gZ (0 : Int) (zo) (zo))
    refine kG [.no, .no, .no, .call [0] (.tup []) [(0, some (66, .ds [db l m, uD (cK a (a + 4) 0), D.lit (.bool (eK f 0))]))] 1 [] none] _ [(3, kP (D.lit (.int .u32 (g32 l a))))] [(0, some (66, .ds [db l m, uD (cK a (a + 4) 0), D.lit (.bool (eK f 0))]))] 1 (iG l m a f (a + 4) 0 zo zo (kL : Byt l) zo zo) ?_
    refine kV [.no, .w, .no] (qB (g32 l a)) [(2, iV (g32 l a))] ⟨by omega, by omega⟩ ?_
    have hx4 : qO 4 l a f = a + 4 := (k87 (f := f) hm zo).1
    have hzb : eK f 0 = qW 4 l a f := by rw [(k87 (f := f) hm (by omega)).2]; rfl
    have hx5 : cK a (a + 4) 0 = a + 4 := (if_pos rfl)
    have hx6 : qU l (kO a) = g32 l a := (u4v hm zo)
    refine AW.ret ?_
    exact kB (.inr rfl) [] (P := (((qU l (kO a)) : Int) = (g32 l a)) ∧ (([db l m, uD (qO 4 l a f), D.lit (.bool (qW 4 l a f))] : List D) = [db l m, uD (cK a (a + 4) 0), D.lit (.bool (eK f 0))])) zk ⟨zo, (by exact mV zo (Eq.symm (by assumption)))⟩
  · refine zr (kJ 8 (.call [] (.tup [.c (.d (D.lit (.int .u32 0))), iE 0, iE 4]) [] 0 [] none :: kJ 7 [])) [0, 3, 4, 5] [0] _ [(0, rV 0 0), (3, kP (D.lit (.int .u32 0))), (4, iV 0), (5, iV 4)] [(0, some (66, .ds [db l m, uD a, D.lit (.bool (f))]))] 1 (W_rGet32_s l m a zo zo (kL : Byt l) zo zo) ?_
    have hx7 : ((cK a 0 4) ≤ m) := (gZ (4 : Int) (zo) (zo))
    refine kG [.no, .no, .no, .call [0] (.tup []) [(0, some (66, .ds [db l m, uD (cK a 0 4), D.lit (.bool (eK f 4))]))] 1 [] none] _ [(3, kP (D.lit (.int .u32 0)))] [(0, some (66, .ds [db l m, uD (cK a 0 4), D.lit (.bool (eK f 4))]))] 1 (iG l m a f 0 4 zo zo (kL : Byt l) zo zo) ?_
    refine kV [.no, .w, .no] (qB (0 : Int)) [(2, iV 0)] ⟨by omega, by omega⟩ ?_
    have hx8 : qO 4 l a f = a := (k88 (f := f) hm zo).1
    have hzb : eK f 4 = qW 4 l a f := by rw [(k88 (f := f) hm (by omega)).2]; rfl
    have hx9 : cK a 0 4 = a := (if_neg (by decide))
    have hx10 : qU l (kO a) = 0 := (by rw [k9y hm (by show ¬ a + 4 ≤ m; omega)])
    refine AW.ret ?_
    exact kB (.inr rfl) [] (P := (((qU l (kO a)) : Int) = 0) ∧ (([db l m, uD (qO 4 l a f), D.lit (.bool (qW 4 l a f))] : List D) = [db l m, uD (cK a 0 4), D.lit (.bool (eK f 4))])) zk ⟨zo, (by exact mV zo (Eq.symm (by assumption)))⟩
theorem gS {p : Prop} (h : p := by rw [kd7, kc3 (by (simp only [qA, k8, pbL_len, qP, qI, uF, ka4, kb3, kb6, kb4, kb9, kb8, kc4, kc8, kc6, kd0] <;> omega))]) : p := h
theorem jG {p : Prop} (h : p := by (simp only [qA, k8, pbL_len, qP, qI, ka4, kb3, kb6] <;> omega)) : p := h
abbrev zN (l : List Int) (m : Nat) (b : Nat) : BC := .ds [D.sl (dI .u8 l) m, iD (((qO 4 l (qO 4 l b false) (qW 4 l b false)) : Nat) : Int), D.lit (.bool (qW 4 l (qO 4 l b false) (qW 4 l b false)))]
theorem k6u (l : List Int) (m a : Nat) (f : Bool) (hm : ka1 l = m) (hb : m ≤ 1000000) (hy : Byt l) (ha : a ≤ m) : Fun 56 [.c (.ptr 0 0)] (kD [(0, some (66, .ds [D.sl (dI .u8 l) m, iD ((a : Nat) : Int), D.lit (.bool (f))]))]) 1 (.e (.agg [.d (D.sl (dI .i64 (iX l a f)) (aR l a f))])) (kD [(0, some (66, .ds [D.sl (dI .u8 l) m, iD (((cT l a f) : Nat) : Int), D.lit (.bool (eT l a f))]))]) 1 := by
  refine Fun.mk (n := 31) Tryz.func56 rfl rfl (ka3 rfl) ?_
  intro cx hcx
  refine kG [.no] True [(0, rV 0 0), (2, rV 1 0)] [(0, some (66, .ds [db l m, uD a, D.lit (.bool (f))])), (1, some (50, .ds [k9]))] 2 trivial ?_
  refine kG [.no] True [(0, rV 0 0), (2, rV 1 0), (3, rV 2 0)] [(0, some (66, .ds [db l m, uD a, D.lit (.bool (f))])), (1, some (50, .ds [k9])), (2, some (50, .ds [k9]))] 3 trivial ?_
  refine AW.seq ?_
  have hx1 : ((qO 2 l a f) ≤ m) := (aG f (zo) (zo))
  have hx2 : ((kK l (kO a)) ≤ 65535) := (qY (kL : Byt l) _)
  refine kG [.no, .call [0] (uV (kK l (kO a))) [(0, some (66, .ds [db l m, uD (qO 2 l a f), D.lit (.bool (qW 2 l a f))]))] 1 [] none, .no] _ [(0, rV 0 0), (2, rV 1 0), (3, rV 2 0), (4, uV (kK l (kO a)))] [(0, some (66, .ds [db l m, uD (qO 2 l a f), D.lit (.bool (qW 2 l a f))])), (1, some (50, .ds [k9])), (2, some (50, .ds [k9]))] 3 (aJ l m a f zo zo (kL : Byt l) zo) ?_
  refine AW.block ?_
  refine cQ 2 0 2 90 (cs' := [.own 3 0 0 2 true]) rfl rfl rfl ?_
  refine kU 1 hcx (fun (x : {x : Nat × Nat × Nat × Bool × List Int // match x with | (k, i, b, g, o) => (ZsI l a f k b g o) ∧ (ka1 o = i * 2 ∧ i + k ≤ 65535) ∧ (b ≤ m)}) => match x with | ⟨(k, i, b, g, o), _⟩ => (⟨[(0, rV 0 0), (2, rV 1 0), (3, rV 2 0), (4, uV k)], [(0, some (66, .ds [db l m, uD b, D.lit (.bool (g))])), (1, some (50, .ds [k9])), (2, some (50, .cs [.own 4 0 i 2 true])), (4, some (90, .ds (dI .i64 o)))], 5⟩ : ES)) (fun x => match x with | ⟨(k, i, b, g, o), _⟩ => k) ⟨(((kK l (kO a)) : Nat), (0 : Nat), ((qO 2 l a f) : Nat), ((qW 2 l a f) : Bool), (([] : List Int) : List Int)), ⟨(ZsI.zero l a f), ⟨rfl, by omega⟩, zo⟩⟩ [(4, 3)] (P := (kQ 0) ∧ (kQ 0) ∧ (kQ 0) ∧ (kM (kK l (kO a) : Int)) ∧ (([db l m, uD (qO 2 l a f), D.lit (.bool ((qW 2 l a f)))] : List D) = [db l m, uD (qO 2 l a f), D.lit (.bool (qW 2 l a f))]) ∧ (kY [k9]) ∧ (kQ 0) ∧ (kQ 0) ∧ (((dI .i64 ([] : List Int)) : List D) = ([] : List D))) zk ⟨rfl, rfl, rfl, rfl, (by rfl), rfl, rfl, rfl, (by rfl)⟩ ?_
  rintro ⟨⟨k, i, b, g, o⟩, hinv0⟩
  obtain ⟨hI, hoo, hwb⟩ : (ZsI l a f k b g o) ∧ (ka1 o = i * 2 ∧ i + k ≤ 65535) ∧ (b ≤ m) := hinv0
  refine qV (l := [(0, rV 0 0), (2, rV 1 0), (3, rV 2 0), (4, uV k)]) (g := [(0, some (66, .ds [db l m, uD b, D.lit (.bool (g))])), (1, some (50, .ds [k9])), (2, some (50, .cs [.own 4 0 i 2 true])), (4, some (90, .ds (dI .i64 o)))]) (nx := 5) rfl rfl rfl ?_
  refine AW.seq ?_
  by_cases hx3 : ((0 : Int) < ((k : Nat) : Int))
  · rcases kb0 (g) with hx4 | hx4
    · subst hx4
      refine kG (.no :: .b true :: kJ 7 []) (((0 : Int) < (k : Int))) [(0, rV 0 0), (2, rV 1 0), (3, rV 2 0), (4, uV k), (16, bV false)] [(0, some (66, .ds [db l m, uD b, D.lit (.bool true)])), (1, some (50, .ds [k9])), (2, some (50, .cs [.own 4 0 i 2 true])), (4, some (90, .ds (dI .i64 o)))] 5 zo ?_
      refine zf ?_
      refine AW.exit ?_
      refine kG [.no, .no] True [(2, rV 1 0)] [(0, some (66, .ds [db l m, uD b, D.lit (.bool true)])), (1, some (50, .cs [.own 4 0 i 2 true])), (4, some (90, .ds (dI .i64 o)))] 5 trivial ?_
      refine AW.freeze 4 (l' := [(2, rV 1 0)]) (g' := [(0, some (66, .ds [db l m, uD b, D.lit (.bool true)])), (1, some (50, .ds [dl o i]))]) rfl (FzS.cons rfl (.same _) FzS.nil) (qF rfl rfl (FzG.to (bc := .cs [.own 4 0 i 2 true]) rfl (by rfl) (FzL.cons (@FzC.own 4 ((dI .i64 o) : List D) 0 i 2 true ((dI .i64 o) : List D) gS u3) FzL.nil) FzG.nil)) ?_
      obtain ⟨hz1, hz4, hz2⟩ := k6d hI
      have hz3 : aR l a f = i := u6b hz2 (by omega)
      refine AW.ret ?_
      exact kB (.inr rfl) [] (P := (((dI .i64 (iX l a f)) : List D) = (dI .i64 o)) ∧ (((aR l a f) : Nat) = i) ∧ (([db l m, uD (cT l a f), D.lit (.bool (eT l a f))] : List D) = [db l m, uD b, D.lit (.bool true)])) zk ⟨(by (rw [hz2]; done)), (by exact hz3), (by (rw [hz1, hz4]; done))⟩
    · subst hx4
      refine kG (.no :: .b true :: kJ 7 []) (((0 : Int) < (k : Int))) [(0, rV 0 0), (2, rV 1 0), (3, rV 2 0), (4, uV k), (16, bV true)] [(0, some (66, .ds [db l m, uD b, D.lit (.bool false)])), (1, some (50, .ds [k9])), (2, some (50, .cs [.own 4 0 i 2 true])), (4, some (90, .ds (dI .i64 o)))] 5 zo ?_
      refine u1 ?_
      refine AW.seq ?_
      refine AW.block ?_
      have hx5 : ((qO 4 l b false) ≤ m) := (aG false (zo) (zo))
      have hx6 : (((0 : Int) ≤ (qU l (kO b))) ∧ ((qU l (kO b)) ≤ 4294967295)) := (d9 (kL : Byt l) _)
      refine kG [.no, .call [0] (iV (qU l (kO b))) [(0, some (66, .ds [db l m, uD (qO 4 l b false), D.lit (.bool (qW 4 l b false))]))] 1 [] none, .no] _ [(0, rV 0 0), (2, rV 1 0), (3, rV 2 0), (4, uV k), (5, iV (qU l (kO b)))] [(0, some (66, .ds [db l m, uD (qO 4 l b false), D.lit (.bool (qW 4 l b false))])), (1, some (50, .ds [k9])), (2, some (50, .cs [.own 4 0 i 2 true])), (4, some (90, .ds (dI .i64 o)))] 5 (rI l m b false zo zo (kL : Byt l) zo) ?_
      have hx7 : ((qO 4 l (qO 4 l b false) (qW 4 l b false)) ≤ m) := (aG (qW 4 l b false) (zo) (zo))
      have hx8 : (((0 : Int) ≤ (qU l (kO (qO 4 l b false)))) ∧ ((qU l (kO (qO 4 l b false))) ≤ 4294967295)) := (d9 (kL : Byt l) _)
      refine aC (kJ 4 [.call [0] (iV (qU l (kO (qO 4 l b false)))) [(0, some (66, (zN l m b)))] 1 [] none, .no, .no, .ap none (i + 1) (dI .i64 (o ++ ([(qU l (kO b)), (qU l (kO (qO 4 l b false)))] : List Int))), .no, .no]) ((_) ∧ ([iD (qU l (kO b)), iD (qU l (kO (qO 4 l b false)))].length = 1 * 2) ∧ (((dI .i64 o) : List D).length = i * 2) ∧ ((i + 1) * 16 ≤ 140737488355328) ∧ (i + 1 = (i + 1)) ∧ (((dI .i64 o) : List D) ++ [iD (qU l (kO b)), iD (qU l (kO (qO 4 l b false)))] = (dI .i64 (o ++ ([(qU l (kO b)), (qU l (kO (qO 4 l b false)))] : List Int))))) [(0, rV 0 0), (2, rV 1 0), (3, rV 2 0), (4, uV k)] [(0, some (66, (zN l m b))), (1, some (50, .ds [k9])), (2, some (50, .cs [.own 6 0 (i + 1) 2 true])), (6, some (90, .ds (dI .i64 (o ++ ([(qU l (kO b)), (qU l (kO (qO 4 l b false)))] : List Int)))))] 7 ⟨(rI l m (qO 4 l b false) (qW 4 l b false) zo zo (kL : Byt l) zo), u3, u3, zo, zo, (uK .i64 o ([(qU l (kO b)), (qU l (kO (qO 4 l b false)))] : List Int))⟩ ?_
      refine uG [.no, .w, .no] (qB ((k : Int) - 1)) [(0, rV 0 0), (2, rV 1 0), (3, rV 2 0), (4, iV (↑k - 1))] ⟨by omega, by omega⟩ ?_
      exact qH ⟨(((k - 1) : Nat), ((i + 1) : Nat), ((qO 4 l (qO 4 l b false) (qW 4 l b false)) : Nat), ((qW 4 l (qO 4 l b false) (qW 4 l b false)) : Bool), ((o ++ ([(qU l (kO b)), (qU l (kO (qO 4 l b false)))] : List Int)) : List Int)), ⟨(ZsI.step hI zo), jG, zo⟩⟩ [(4, 6)] (P := (kQ 0) ∧ (kQ 0) ∧ (kQ 0) ∧ (((((k - 1) : Nat) : Int) : Int) = ((k : Int) - 1)) ∧ (([db l m, uD (qO 4 l (qO 4 l b false) (qW 4 l b false)), D.lit (.bool ((qW 4 l (qO 4 l b false) (qW 4 l b false))))] : List D) = [db l m, uD (qO 4 l (qO 4 l b false) (qW 4 l b false)), D.lit (.bool (qW 4 l (qO 4 l b false) (qW 4 l b false)))]) ∧ (kY [k9]) ∧ (kQ 0) ∧ (kQ (i + 1)) ∧ (kY (dI .i64 (o ++ ([(qU l (kO b)), (qU l (kO (qO 4 l b false)))] : List Int))))) zk ⟨rfl, rfl, rfl, zo, (by rfl), rfl, rfl, rfl, rfl⟩ (show (k - 1) < k from zo)
  · refine zr [.no, .b false, .no, .no] [0, 2, 3, 4, 16] [0, 1, 2, 4] (¬ ((0 : Int) < (k : Int))) [(0, rV 0 0), (2, rV 1 0), (3, rV 2 0), (4, uV k), (16, bV false)] [(0, some (66, .ds [db l m, uD b, D.lit (.bool (g))])), (1, some (50, .ds [k9])), (2, some (50, .cs [.own 4 0 i 2 true])), (4, some (90, .ds (dI .i64 o)))] 5 zo ?_
    refine zf ?_
    refine AW.exit ?_
    refine kG [.no, .no] True [(2, rV 1 0)] [(0, some (66, .ds [db l m, uD b, D.lit (.bool (g))])), (1, some (50, .cs [.own 4 0 i 2 true])), (4, some (90, .ds (dI .i64 o)))] 5 trivial ?_
    refine AW.freeze 4 (l' := [(2, rV 1 0)]) (g' := [(0, some (66, .ds [db l m, uD b, D.lit (.bool (g))])), (1, some (50, .ds [dl o i]))]) rfl (FzS.cons rfl (.same _) FzS.nil) (qF rfl rfl (FzG.to (bc := .cs [.own 4 0 i 2 true]) rfl (by rfl) (FzL.cons (@FzC.own 4 ((dI .i64 o) : List D) 0 i 2 true ((dI .i64 o) : List D) gS u3) FzL.nil) FzG.nil)) ?_
    obtain ⟨hz1, hz4, hz2⟩ := k6e hI zo
    have hz3 : aR l a f = i := u6b hz2 (by omega)
    refine AW.ret ?_
    exact kB (.inr rfl) [] (P := (((dI .i64 (iX l a f)) : List D) = (dI .i64 o)) ∧ (((aR l a f) : Nat) = i) ∧ (([db l m, uD (cT l a f), D.lit (.bool (eT l a f))] : List D) = [db l m, uD b, D.lit (.bool (g))])) zk ⟨(by (rw [hz2]; done)), (by exact hz3), (by (rw [hz1, hz4]; done))⟩
abbrev uO (l : List Int) (a : Nat) (f : Bool) := iX l (qO 2 l a f) (qW 2 l a f)
theorem nR {p : Prop} (h : p := by rw [kd7, kd0, kc3 (by (simp only [qA, k8, pbL_len, qP, qI, uF, ka4, kb3, kb6, kb4, kb9, kb8, kc4, kc8, kc6, kd0] <;> omega))]) : p := h
abbrev yX (l : List Int) (a : Nat) (f : Bool) (i : Nat) : BC := .cs [iC (((kK l (kO a)) : Nat) : Int), .d (D.sl (dI .i64 (uO l a f)) (aR l (qO 2 l a f) (qW 2 l a f))), .own 4 0 i 1 true, .d (D.lit (.slice none 0 0))]
abbrev uN : BC := .ds [iD 0, D.lit (.slice none 0 0), D.lit (.slice none 0 0), D.lit (.slice none 0 0)]
abbrev zM (l : List Int) (a : Nat) (f : Bool) (i : Nat) : BC := .cs [iC (((kK l (kO a)) : Nat) : Int), .d (D.sl (dI .i64 (uO l a f)) (aR l (qO 2 l a f) (qW 2 l a f))), .own 8 0 (i + 1) 1 true, .d (D.lit (.slice none 0 0))]
theorem u7d (l : List Int) (m a : Nat) (f : Bool) (hm : ka1 l = m) (hb : m ≤ 1000000) (hy : Byt l) (ha : a ≤ m) : Fun 33 [.c (.ptr 0 0)] (kD [(0, some (66, .ds [D.sl (dI .u8 l) m, iD ((a : Nat) : Int), D.lit (.bool (f))]))]) 1 (.e (.agg [iC (((kK l (kO a)) : Nat) : Int), .d (D.sl (dI .i64 (jyR l a f)) (jyN l a f)), .d (D.sl (kW (lE l a f)) (ka1 (lE l a f))), .d (D.sl (dI .i64 (xH l a f)) (xG l a f))])) (kD [(0, some (66, .ds [D.sl (dI .u8 l) m, iD (((jbA l a f) : Nat) : Int), D.lit (.bool (jbB l a f))]))]) 1 := by
  refine Fun.mk (n := 54) Tryz.func33 rfl rfl (ka3 rfl) ?_
  intro cx hcx
  refine kG [.no] True [(0, rV 0 0), (2, rV 1 0)] [(0, some (66, .ds [db l m, uD a, D.lit (.bool (f))])), (1, some (53, uN))] 2 trivial ?_
  have hx1 : ((qO 2 l a f) ≤ m) := (aG f (zo) (zo))
  have hx2 : ((kK l (kO a)) ≤ 65535) := (qY (kL : Byt l) _)
  refine kG [.no, .call [0] (uV (kK l (kO a))) [(0, some (66, .ds [db l m, uD (qO 2 l a f), D.lit (.bool (qW 2 l a f))]))] 1 [] none, .no, .no, .no] _ [(0, rV 0 0), (2, rV 1 0), (3, rV 2 0)] [(0, some (66, .ds [db l m, uD (qO 2 l a f), D.lit (.bool (qW 2 l a f))])), (1, some (53, uN)), (2, some (53, .ds [uD (kK l (kO a)), k9, k9, k9]))] 3 (aJ l m a f zo zo (kL : Byt l) zo) ?_
  have hx3 : ((cT l (qO 2 l a f) (qW 2 l a f)) ≤ m) := (xI (qW 2 l a f) (zo) (zo))
  have hx4 : ((ka1 (uO l a f)) = ((aR l (qO 2 l a f) (qW 2 l a f)) * 2)) := (bW (kL : Byt l) (qO 2 l a f) (qW 2 l a f)).1
  have hx5 : ((aR l (qO 2 l a f) (qW 2 l a f)) ≤ 65535) := (bW (kL : Byt l) (qO 2 l a f) (qW 2 l a f)).2
  refine kG [.no, .call [0] (.e (.agg [.d (dl (uO l a f) (aR l (qO 2 l a f) (qW 2 l a f)))])) [(0, some (66, .ds [db l m, uD (cT l (qO 2 l a f) (qW 2 l a f)), D.lit (.bool (eT l (qO 2 l a f) (qW 2 l a f)))]))] 1 [] none, .no, .no] _ [(0, rV 0 0), (2, rV 1 0), (3, rV 2 0)] [(0, some (66, .ds [db l m, uD (cT l (qO 2 l a f) (qW 2 l a f)), D.lit (.bool (eT l (qO 2 l a f) (qW 2 l a f)))])), (1, some (53, uN)), (2, some (53, .ds [uD (kK l (kO a)), dl (uO l a f) (aR l (qO 2 l a f) (qW 2 l a f)), k9, k9]))] 3 (k6u l m (qO 2 l a f) (qW 2 l a f) zo zo (kL : Byt l) zo) ?_
  refine AW.seq ?_
  have hx6 : ((qO 2 l (cT l (qO 2 l a f) (qW 2 l a f)) (eT l (qO 2 l a f) (qW 2 l a f))) ≤ m) := (aG (eT l (qO 2 l a f) (qW 2 l a f)) (zo) (zo))
  have hx7 : ((kK l (kO (cT l (qO 2 l a f) (qW 2 l a f)))) ≤ 65535) := (qY (kL : Byt l) _)
  refine kG [.no, .call [0] (iV (kK l (kO (cT l (qO 2 l a f) (qW 2 l a f))) : Int)) [(0, some (66, .ds [db l m, uD (qO 2 l (cT l (qO 2 l a f) (qW 2 l a f)) (eT l (qO 2 l a f) (qW 2 l a f))), D.lit (.bool (qW 2 l (cT l (qO 2 l a f) (qW 2 l a f)) (eT l (qO 2 l a f) (qW 2 l a f))))]))] 1 [] none, .no] _ [(0, rV 0 0), (2, rV 1 0), (3, rV 2 0), (4, iV (kK l (kO (cT l (qO 2 l a f) (qW 2 l a f))) : Int))] [(0, some (66, .ds [db l m, uD (qO 2 l (cT l (qO 2 l a f) (qW 2 l a f)) (eT l (qO 2 l a f) (qW 2 l a f))), D.lit (.bool (qW 2 l (cT l (qO 2 l a f) (qW 2 l a f)) (eT l (qO 2 l a f) (qW 2 l a f))))])), (1, some (53, uN)), (2, some (53, .ds [uD (kK l (kO a)), dl (uO l a f) (aR l (qO 2 l a f) (qW 2 l a f)), k9, k9]))] 3 (aJ l m (cT l (qO 2 l a f) (qW 2 l a f)) (eT l (qO 2 l a f) (qW 2 l a f)) zo zo (kL : Byt l) zo) ?_
  refine AW.block ?_
  refine cQ 2 2 1 55 (cs' := [uC (kK l (kO a)), .d (dl (uO l a f) (aR l (qO 2 l a f) (qW 2 l a f))), .own 3 0 0 1 true, .d (k9)]) rfl rfl rfl ?_
  refine kU 1 hcx (fun (x : {x : Nat × Nat × Nat × Bool × List (List Int) // match x with | (k, i, b, g, o) => (ZmI l (j2A l a f) (j2B l a f) k b g o) ∧ (ka1 o = i * 1 ∧ i + k ≤ 65535) ∧ (b ≤ m) ∧ (MsW o)}) => match x with | ⟨(k, i, b, g, o), _⟩ => (⟨[(0, rV 0 0), (2, rV 1 0), (3, rV 2 0), (4, uV k)], [(0, some (66, .ds [db l m, uD b, D.lit (.bool (g))])), (1, some (53, uN)), (2, some (53, (yX l a f i))), (4, some (55, .ds (kW o)))], 5⟩ : ES)) (fun x => match x with | ⟨(k, i, b, g, o), _⟩ => k) ⟨(((kK l (kO (cT l (qO 2 l a f) (qW 2 l a f)))) : Nat), (0 : Nat), ((qO 2 l (cT l (qO 2 l a f) (qW 2 l a f)) (eT l (qO 2 l a f) (qW 2 l a f))) : Nat), ((qW 2 l (cT l (qO 2 l a f) (qW 2 l a f)) (eT l (qO 2 l a f) (qW 2 l a f))) : Bool), (([] : List (List Int)) : List (List Int))), ⟨(ZmI.zero l (j2A l a f) (j2B l a f)), ⟨rfl, by omega⟩, zo, MsW.nil⟩⟩ [(4, 3)] (P := (kQ 0) ∧ (kQ 0) ∧ (kQ 0) ∧ (kM (kK l (kO (cT l (qO 2 l a f) (qW 2 l a f))) : Int)) ∧ (([db l m, uD (qO 2 l (cT l (qO 2 l a f) (qW 2 l a f)) (eT l (qO 2 l a f) (qW 2 l a f))), D.lit (.bool ((qW 2 l (cT l (qO 2 l a f) (qW 2 l a f)) (eT l (qO 2 l a f) (qW 2 l a f)))))] : List D) = [db l m, uD (qO 2 l (cT l (qO 2 l a f) (qW 2 l a f)) (eT l (qO 2 l a f) (qW 2 l a f))), D.lit (.bool (qW 2 l (cT l (qO 2 l a f) (qW 2 l a f)) (eT l (qO 2 l a f) (qW 2 l a f))))]) ∧ (kY [iD 0, k9, k9, k9]) ∧ (kM (kK l (kO a) : Int)) ∧ (kY (dI .i64 (uO l a f))) ∧ (kQ (aR l (qO 2 l a f) (qW 2 l a f))) ∧ (kQ 0) ∧ (kQ 0) ∧ ((.slice none 0 0 : Value) = .slice none 0 0) ∧ (((kW ([] : List (List Int))) : List D) = ([] : List D))) zk ⟨rfl, rfl, rfl, rfl, (by rfl), rfl, rfl, rfl, rfl, rfl, rfl, rfl, (by rfl)⟩ ?_
  rintro ⟨⟨k, i, b, g, o⟩, hinv0⟩
  obtain ⟨hI, hoo, hwb, hBo⟩ : (ZmI l (j2A l a f) (j2B l a f) k b g o) ∧ (ka1 o = i * 1 ∧ i + k ≤ 65535) ∧ (b ≤ m) ∧ (MsW o) := hinv0
  refine qV (l := [(0, rV 0 0), (2, rV 1 0), (3, rV 2 0), (4, uV k)]) (g := [(0, some (66, .ds [db l m, uD b, D.lit (.bool (g))])), (1, some (53, uN)), (2, some (53, (yX l a f i))), (4, some (55, .ds (kW o)))]) (nx := 5) rfl rfl rfl ?_
  refine AW.seq ?_
  by_cases hx8 : ((0 : Int) < ((k : Nat) : Int))
  · rcases kb0 (g) with hx9 | hx9
    · subst hx9
      refine kG (.no :: .b true :: kJ 7 []) (((0 : Int) < (k : Int))) [(0, rV 0 0), (2, rV 1 0), (3, rV 2 0), (4, uV k), (23, bV false)] [(0, some (66, .ds [db l m, uD b, D.lit (.bool true)])), (1, some (53, uN)), (2, some (53, (yX l a f i))), (4, some (55, .ds (kW o)))] 5 zo ?_
      refine zf ?_
      refine AW.exit ?_
      obtain ⟨hm1, hm4, hm2⟩ := k6f hI
      obtain ⟨hz1, hz4, hz5, hz6, hz2, hz3⟩ := u6d hm1 hm4 hm2 (show ka1 o = i by omega)
      have hx10 : ((cT l b true) ≤ m) := (xI true (zo) (zo))
      have hx11 : ((ka1 (iX l b true)) = ((aR l b true) * 2)) := (bW (kL : Byt l) b true).1
      have hx12 : ((aR l b true) ≤ 65535) := (bW (kL : Byt l) b true).2
      refine kG [.no, .call [0] (.e (.agg [.d (dl (iX l b true) (aR l b true))])) [(0, some (66, .ds [db l m, uD (cT l b true), D.lit (.bool (eT l b true))]))] 1 [] none, .no, .no] _ [(2, rV 1 0), (3, rV 2 0)] [(0, some (66, .ds [db l m, uD (cT l b true), D.lit (.bool (eT l b true))])), (1, some (53, uN)), (2, some (53, .cs [uC (kK l (kO a)), .d (dl (uO l a f) (aR l (qO 2 l a f) (qW 2 l a f))), .own 4 0 i 1 true, .d (dl (iX l b true) (aR l b true))])), (4, some (55, .ds (kW o)))] 5 (k6u l m b true zo zo (kL : Byt l) zo) ?_
      refine kG [.no, .no] True [(2, rV 1 0)] [(0, some (66, .ds [db l m, uD (cT l b true), D.lit (.bool (eT l b true))])), (1, some (53, .cs [uC (kK l (kO a)), .d (dl (uO l a f) (aR l (qO 2 l a f) (qW 2 l a f))), .own 4 0 i 1 true, .d (dl (iX l b true) (aR l b true))])), (4, some (55, .ds (kW o)))] 5 trivial ?_
      refine AW.freeze 4 (l' := [(2, rV 1 0)]) (g' := [(0, some (66, .ds [db l m, uD (cT l b true), D.lit (.bool (eT l b true))])), (1, some (53, .ds [uD (kK l (kO a)), dl (uO l a f) (aR l (qO 2 l a f) (qW 2 l a f)), D.sl (kW o) i, dl (iX l b true) (aR l b true)]))]) rfl (FzS.cons rfl (.same _) FzS.nil) (qF rfl rfl (FzG.to (bc := .cs [uC (kK l (kO a)), .d (dl (uO l a f) (aR l (qO 2 l a f) (qW 2 l a f))), .own 4 0 i 1 true, .d (dl (iX l b true) (aR l b true))]) rfl (by rfl) (FzL.cons (.same _) (FzL.cons (.same _) (FzL.cons (@FzC.own 4 ((kW o) : List D) 0 i 1 true ((kW o) : List D) nR u3) (FzL.cons (.same _) FzL.nil)))) FzG.nil)) ?_
      refine AW.ret ?_
      exact kB (.inr rfl) [] (P := (kM (kK l (kO a) : Int)) ∧ (((dI .i64 (jyR l a f)) : List D) = (dI .i64 (uO l a f))) ∧ (((jyN l a f) : Nat) = (aR l (qO 2 l a f) (qW 2 l a f))) ∧ (((kW (lE l a f)) : List D) = (kW o)) ∧ (((ka1 (lE l a f)) : Nat) = i) ∧ (((dI .i64 (xH l a f)) : List D) = (dI .i64 (iX l b true))) ∧ (((xG l a f) : Nat) = (aR l b true)) ∧ (([db l m, uD (jbA l a f), D.lit (.bool (jbB l a f))] : List D) = [db l m, uD (cT l b true), D.lit (.bool (eT l b true))])) zk ⟨rfl, (by rfl), (by rfl), (by (rw [hz2]; done)), (by exact hz3), (by (rw [hz5]; done)), (by exact hz6), (by (rw [hz1, hz4]; done))⟩
    · subst hx9
      refine kG (.no :: .b true :: kJ 7 []) (((0 : Int) < (k : Int))) [(0, rV 0 0), (2, rV 1 0), (3, rV 2 0), (4, uV k), (23, bV true)] [(0, some (66, .ds [db l m, uD b, D.lit (.bool false)])), (1, some (53, uN)), (2, some (53, (yX l a f i))), (4, some (55, .ds (kW o)))] 5 zo ?_
      refine u1 ?_
      refine AW.seq ?_
      refine AW.block ?_
      refine kV [.no] True [(0, rV 0 0), (2, rV 1 0), (3, rV 2 0), (4, uV k), (5, nV)] trivial ?_
      refine AW.seq ?_
      have hx13 : ((qO 2 l b false) ≤ m) := (aG false (zo) (zo))
      have hx14 : ((kK l (kO b)) ≤ 65535) := (qY (kL : Byt l) _)
      refine kG [.no, .call [0] (uV (kK l (kO b))) [(0, some (66, .ds [db l m, uD (qO 2 l b false), D.lit (.bool (qW 2 l b false))]))] 1 [] none, .no] _ [(0, rV 0 0), (2, rV 1 0), (3, rV 2 0), (4, uV k), (5, nV), (6, uV (kK l (kO b)))] [(0, some (66, .ds [db l m, uD (qO 2 l b false), D.lit (.bool (qW 2 l b false))])), (1, some (53, uN)), (2, some (53, (yX l a f i))), (4, some (55, .ds (kW o)))] 5 (aJ l m b false zo zo (kL : Byt l) zo) ?_
      refine AW.block ?_
      refine AW.adoptS 5 1 3 rfl ?_
      refine kU 1 hcx (fun (x : {x : Nat × Nat × Nat × Bool × List Int // match x with | (k2, i2, b2, g2, o2) => (ZcI l b false k2 b2 g2 o2) ∧ (ka1 o2 = i2 * 1 ∧ i2 + k2 ≤ 65535) ∧ (b2 ≤ m)}) => match x with | ⟨(k2, i2, b2, g2, o2), _⟩ => (⟨[(0, rV 0 0), (2, rV 1 0), (3, rV 2 0), (4, uV k), (5, oV 6 0 i2 1), (6, uV k2)], [(0, some (66, .ds [db l m, uD b2, D.lit (.bool (g2))])), (1, some (53, uN)), (2, some (53, (yX l a f i))), (4, some (55, .ds (kW o))), (6, some (3, .ds (dI .i64 o2)))], 7⟩ : ES)) (fun x => match x with | ⟨(k2, i2, b2, g2, o2), _⟩ => k2) ⟨(((kK l (kO b)) : Nat), (0 : Nat), ((qO 2 l b false) : Nat), ((qW 2 l b false) : Bool), (([] : List Int) : List Int)), ⟨(ZcI.zero l b false), ⟨rfl, by omega⟩, zo⟩⟩ [(6, 5)] (P := (kQ 0) ∧ (kQ 0) ∧ (kQ 0) ∧ (kM (k : Int)) ∧ (kQ 0) ∧ (kQ 0) ∧ (kM (kK l (kO b) : Int)) ∧ (([db l m, uD (qO 2 l b false), D.lit (.bool ((qW 2 l b false)))] : List D) = [db l m, uD (qO 2 l b false), D.lit (.bool (qW 2 l b false))]) ∧ (kY [iD 0, k9, k9, k9]) ∧ (kM (kK l (kO a) : Int)) ∧ (kY (dI .i64 (uO l a f))) ∧ (kQ (aR l (qO 2 l a f) (qW 2 l a f))) ∧ (kQ 0) ∧ (kQ i) ∧ ((.slice none 0 0 : Value) = .slice none 0 0) ∧ (kY (kW o)) ∧ (((dI .i64 ([] : List Int)) : List D) = ([] : List D))) zk ⟨rfl, rfl, rfl, rfl, rfl, rfl, rfl, (by rfl), rfl, rfl, rfl, rfl, rfl, rfl, rfl, rfl, (by rfl)⟩ ?_
      rintro ⟨⟨k2, i2, b2, g2, o2⟩, hinv1⟩
      obtain ⟨hJ, hoo2, hwb2⟩ : (ZcI l b false k2 b2 g2 o2) ∧ (ka1 o2 = i2 * 1 ∧ i2 + k2 ≤ 65535) ∧ (b2 ≤ m) := hinv1
      refine qV (l := [(0, rV 0 0), (2, rV 1 0), (3, rV 2 0), (4, uV k), (5, oV 6 0 i2 1), (6, uV k2)]) (g := [(0, some (66, .ds [db l m, uD b2, D.lit (.bool (g2))])), (1, some (53, uN)), (2, some (53, (yX l a f i))), (4, some (55, .ds (kW o))), (6, some (3, .ds (dI .i64 o2)))]) (nx := 7) rfl rfl rfl ?_
      refine AW.seq ?_
      by_cases hx15 : ((0 : Int) < ((k2 : Nat) : Int))
      · rcases kb0 (g2) with hx16 | hx16
        · subst hx16
          refine kG (.no :: .b true :: kJ 7 []) (((0 : Int) < (k2 : Int))) [(0, rV 0 0), (2, rV 1 0), (3, rV 2 0), (4, uV k), (5, oV 6 0 i2 1), (6, uV k2), (36, bV false)] [(0, some (66, .ds [db l m, uD b2, D.lit (.bool true)])), (1, some (53, uN)), (2, some (53, (yX l a f i))), (4, some (55, .ds (kW o))), (6, some (3, .ds (dI .i64 o2)))] 7 zo ?_
          refine zf ?_
          refine AW.exit ?_
          refine AW.freeze 6 (l' := [(0, rV 0 0), (2, rV 1 0), (3, rV 2 0), (4, uV k), (5, sV .i64 o2 i2), (6, uV k2), (36, bV false)]) (g' := [(0, some (66, .ds [db l m, uD b2, D.lit (.bool true)])), (1, some (53, uN)), (2, some (53, (yX l a f i))), (4, some (55, .ds (kW o)))]) rfl (FzS.cons rfl (.same _) (FzS.cons rfl (.same _) (FzS.cons rfl (.same _) (FzS.cons rfl (.same _) (FzS.cons rfl (.e (.c (@FzC.own 6 ((dI .i64 o2) : List D) 0 i2 1 true ((dI .i64 o2) : List D) nR u3))) (FzS.cons rfl (.same _) (FzS.cons rfl (.same _) FzS.nil))))))) (qF rfl rfl (qF rfl rfl (qF rfl rfl (qF rfl rfl FzG.nil)))) ?_
          obtain ⟨hy1, hy4, hy2⟩ := k6h hJ
          refine aC (kJ 4 [.ap none (i + 1) (kW (o ++ ([o2] : List (List Int)))), .no, .no]) (([dl o2 i2].length = 1 * 1) ∧ (((kW o) : List D).length = i * 1) ∧ ((i + 1) * 24 ≤ 140737488355328) ∧ (i + 1 = (i + 1)) ∧ (((kW o) : List D) ++ [dl o2 i2] = (kW (o ++ ([o2] : List (List Int)))))) [(0, rV 0 0), (2, rV 1 0), (3, rV 2 0), (4, uV k)] [(0, some (66, .ds [db l m, uD b2, D.lit (.bool true)])), (1, some (53, uN)), (2, some (53, (zM l a f i))), (8, some (55, .ds (kW (o ++ ([o2] : List (List Int))))))] 9 ⟨u3, u3, zo, zo, (i5 o o2 i2 zo)⟩ ?_
          refine uG [.no, .w, .no] (qB ((k : Int) - 1)) [(0, rV 0 0), (2, rV 1 0), (3, rV 2 0), (4, iV (↑k - 1))] ⟨by omega, by omega⟩ ?_
          exact qH ⟨(((k - 1) : Nat), ((i + 1) : Nat), (b2 : Nat), (true : Bool), ((o ++ ([o2] : List (List Int))) : List (List Int))), ⟨(ZmI.step hI zo hy1 hy4 hy2), jG, zo, (by exact (hBo.snoc zo))⟩⟩ [(4, 8)] (P := (kQ 0) ∧ (kQ 0) ∧ (kQ 0) ∧ (((((k - 1) : Nat) : Int) : Int) = ((k : Int) - 1)) ∧ (([db l m, uD b2, D.lit (.bool (true))] : List D) = [db l m, uD b2, D.lit (.bool true)]) ∧ (kY [iD 0, k9, k9, k9]) ∧ (kM (kK l (kO a) : Int)) ∧ (kY (dI .i64 (uO l a f))) ∧ (kQ (aR l (qO 2 l a f) (qW 2 l a f))) ∧ (kQ 0) ∧ (kQ (i + 1)) ∧ ((.slice none 0 0 : Value) = .slice none 0 0) ∧ (kY (kW (o ++ ([o2] : List (List Int)))))) zk ⟨rfl, rfl, rfl, zo, (by rfl), rfl, rfl, rfl, rfl, rfl, rfl, rfl, rfl⟩ (show (k - 1) < k from zo)
        · subst hx16
          refine kG (.no :: .b true :: kJ 7 []) (((0 : Int) < (k2 : Int))) [(0, rV 0 0), (2, rV 1 0), (3, rV 2 0), (4, uV k), (5, oV 6 0 i2 1), (6, uV k2), (36, bV true)] [(0, some (66, .ds [db l m, uD b2, D.lit (.bool false)])), (1, some (53, uN)), (2, some (53, (yX l a f i))), (4, some (55, .ds (kW o))), (6, some (3, .ds (dI .i64 o2)))] 7 zo ?_
          refine u1 ?_
          refine AW.seq ?_
          refine AW.block ?_
          have hx17 : ((qO 2 l b2 false) ≤ m) := (aG false (zo) (zo))
          have hx18 : ((kK l (kO b2)) ≤ 65535) := (qY (kL : Byt l) _)
          refine aC [.no, .no, .call [0] (uV (kK l (kO b2))) [(0, some (66, .ds [db l m, uD (qO 2 l b2 false), D.lit (.bool (qW 2 l b2 false))]))] 1 [] none, .no, .ap none (i2 + 1) (dI .i64 (o2 ++ ([(kK l (kO b2) : Int)] : List Int))), .no] ((_) ∧ ([uD (kK l (kO b2))].length = 1 * 1) ∧ (((dI .i64 o2) : List D).length = i2 * 1) ∧ ((i2 + 1) * 8 ≤ 140737488355328) ∧ (i2 + 1 = (i2 + 1)) ∧ (((dI .i64 o2) : List D) ++ [uD (kK l (kO b2))] = (dI .i64 (o2 ++ ([(kK l (kO b2) : Int)] : List Int))))) [(0, rV 0 0), (2, rV 1 0), (3, rV 2 0), (4, uV k), (5, oV 8 0 (i2 + 1) 1), (6, uV k2)] [(0, some (66, .ds [db l m, uD (qO 2 l b2 false), D.lit (.bool (qW 2 l b2 false))])), (1, some (53, uN)), (2, some (53, (yX l a f i))), (4, some (55, .ds (kW o))), (8, some (3, .ds (dI .i64 (o2 ++ ([(kK l (kO b2) : Int)] : List Int)))))] 9 ⟨(aJ l m b2 false zo zo (kL : Byt l) zo), u3, u3, zo, zo, (uK .i64 o2 ([(kK l (kO b2) : Int)] : List Int))⟩ ?_
          refine uG [.no, .w, .no] (qB ((k2 : Int) - 1)) [(0, rV 0 0), (2, rV 1 0), (3, rV 2 0), (4, uV k), (5, oV 8 0 (i2 + 1) 1), (6, iV (↑k2 - 1))] ⟨by omega, by omega⟩ ?_
          exact qH ⟨(((k2 - 1) : Nat), ((i2 + 1) : Nat), ((qO 2 l b2 false) : Nat), ((qW 2 l b2 false) : Bool), ((o2 ++ ([(kK l (kO b2) : Int)] : List Int)) : List Int)), ⟨(ZcI.step hJ zo), jG, zo⟩⟩ [(6, 8)] (P := (kQ 0) ∧ (kQ 0) ∧ (kQ 0) ∧ (kM (k : Int)) ∧ (kQ 0) ∧ (kQ (i2 + 1)) ∧ (((((k2 - 1) : Nat) : Int) : Int) = ((k2 : Int) - 1)) ∧ (([db l m, uD (qO 2 l b2 false), D.lit (.bool ((qW 2 l b2 false)))] : List D) = [db l m, uD (qO 2 l b2 false), D.lit (.bool (qW 2 l b2 false))]) ∧ (kY [iD 0, k9, k9, k9]) ∧ (kM (kK l (kO a) : Int)) ∧ (kY (dI .i64 (uO l a f))) ∧ (kQ (aR l (qO 2 l a f) (qW 2 l a f))) ∧ (kQ 0) ∧ (kQ i) ∧ ((.slice none 0 0 : Value) = .slice none 0 0) ∧ (kY (kW o)) ∧ (kY (dI .i64 (o2 ++ ([(kK l (kO b2) : Int)] : List Int))))) zk ⟨rfl, rfl, rfl, rfl, rfl, rfl, zo, (by rfl), rfl, rfl, rfl, rfl, rfl, rfl, rfl, rfl, rfl⟩ (show (k2 - 1) < k2 from zo)
      · refine zr [.no, .b false, .no, .no] [0, 2, 3, 4, 5, 6, 36] [0, 1, 2, 4, 6] (¬ ((0 : Int) < (k2 : Int))) [(0, rV 0 0), (2, rV 1 0), (3, rV 2 0), (4, uV k), (5, oV 6 0 i2 1), (6, uV k2), (36, bV false)] [(0, some (66, .ds [db l m, uD b2, D.lit (.bool (g2))])), (1, some (53, uN)), (2, some (53, (yX l a f i))), (4, some (55, .ds (kW o))), (6, some (3, .ds (dI .i64 o2)))] 7 zo ?_
        refine zf ?_
        refine AW.exit ?_
        refine AW.freeze 6 (l' := [(0, rV 0 0), (2, rV 1 0), (3, rV 2 0), (4, uV k), (5, sV .i64 o2 i2), (6, uV k2), (36, bV false)]) (g' := [(0, some (66, .ds [db l m, uD b2, D.lit (.bool (g2))])), (1, some (53, uN)), (2, some (53, (yX l a f i))), (4, some (55, .ds (kW o)))]) rfl (FzS.cons rfl (.same _) (FzS.cons rfl (.same _) (FzS.cons rfl (.same _) (FzS.cons rfl (.same _) (FzS.cons rfl (.e (.c (@FzC.own 6 ((dI .i64 o2) : List D) 0 i2 1 true ((dI .i64 o2) : List D) nR u3))) (FzS.cons rfl (.same _) (FzS.cons rfl (.same _) FzS.nil))))))) (qF rfl rfl (qF rfl rfl (qF rfl rfl (qF rfl rfl FzG.nil)))) ?_
        obtain ⟨hy1, hy4, hy2⟩ := k6i hJ zo
        refine aC (kJ 4 [.ap none (i + 1) (kW (o ++ ([o2] : List (List Int)))), .no, .no]) (([dl o2 i2].length = 1 * 1) ∧ (((kW o) : List D).length = i * 1) ∧ ((i + 1) * 24 ≤ 140737488355328) ∧ (i + 1 = (i + 1)) ∧ (((kW o) : List D) ++ [dl o2 i2] = (kW (o ++ ([o2] : List (List Int)))))) [(0, rV 0 0), (2, rV 1 0), (3, rV 2 0), (4, uV k)] [(0, some (66, .ds [db l m, uD b2, D.lit (.bool (g2))])), (1, some (53, uN)), (2, some (53, (zM l a f i))), (8, some (55, .ds (kW (o ++ ([o2] : List (List Int))))))] 9 ⟨u3, u3, zo, zo, (i5 o o2 i2 zo)⟩ ?_
        refine uG [.no, .w, .no] (qB ((k : Int) - 1)) [(0, rV 0 0), (2, rV 1 0), (3, rV 2 0), (4, iV (↑k - 1))] ⟨by omega, by omega⟩ ?_
        exact qH ⟨(((k - 1) : Nat), ((i + 1) : Nat), (b2 : Nat), (g2 : Bool), ((o ++ ([o2] : List (List Int))) : List (List Int))), ⟨(ZmI.step hI zo hy1 hy4 hy2), jG, zo, (by exact (hBo.snoc zo))⟩⟩ [(4, 8)] (P := (kQ 0) ∧ (kQ 0) ∧ (kQ 0) ∧ (((((k - 1) : Nat) : Int) : Int) = ((k : Int) - 1)) ∧ (kY [db l m, uD b2, D.lit (.bool (g2))]) ∧ (kY [iD 0, k9, k9, k9]) ∧ (kM (kK l (kO a) : Int)) ∧ (kY (dI .i64 (uO l a f))) ∧ (kQ (aR l (qO 2 l a f) (qW 2 l a f))) ∧ (kQ 0) ∧ (kQ (i + 1)) ∧ ((.slice none 0 0 : Value) = .slice none 0 0) ∧ (kY (kW (o ++ ([o2] : List (List Int)))))) zk ⟨rfl, rfl, rfl, zo, rfl, rfl, rfl, rfl, rfl, rfl, rfl, rfl, rfl⟩ (show (k - 1) < k from zo)
  · refine zr [.no, .b false, .no, .no] [0, 2, 3, 4, 23] [0, 1, 2, 4] (¬ ((0 : Int) < (k : Int))) [(0, rV 0 0), (2, rV 1 0), (3, rV 2 0), (4, uV k), (23, bV false)] [(0, some (66, .ds [db l m, uD b, D.lit (.bool (g))])), (1, some (53, uN)), (2, some (53, (yX l a f i))), (4, some (55, .ds (kW o)))] 5 zo ?_
    refine zf ?_
    refine AW.exit ?_
    obtain ⟨hm1, hm4, hm2⟩ := k6g hI zo
    obtain ⟨hz1, hz4, hz5, hz6, hz2, hz3⟩ := u6d hm1 hm4 hm2 (show ka1 o = i by omega)
    have hx19 : ((cT l b g) ≤ m) := (xI g (zo) (zo))
    have hx20 : ((ka1 (iX l b g)) = ((aR l b g) * 2)) := (bW (kL : Byt l) b g).1
    have hx21 : ((aR l b g) ≤ 65535) := (bW (kL : Byt l) b g).2
    refine kG [.no, .call [0] (.e (.agg [.d (dl (iX l b g) (aR l b g))])) [(0, some (66, .ds [db l m, uD (cT l b g), D.lit (.bool (eT l b g))]))] 1 [] none, .no, .no] _ [(2, rV 1 0), (3, rV 2 0)] [(0, some (66, .ds [db l m, uD (cT l b g), D.lit (.bool (eT l b g))])), (1, some (53, uN)), (2, some (53, .cs [uC (kK l (kO a)), .d (dl (uO l a f) (aR l (qO 2 l a f) (qW 2 l a f))), .own 4 0 i 1 true, .d (dl (iX l b g) (aR l b g))])), (4, some (55, .ds (kW o)))] 5 (k6u l m b g zo zo (kL : Byt l) zo) ?_
    refine kG [.no, .no] True [(2, rV 1 0)] [(0, some (66, .ds [db l m, uD (cT l b g), D.lit (.bool (eT l b g))])), (1, some (53, .cs [uC (kK l (kO a)), .d (dl (uO l a f) (aR l (qO 2 l a f) (qW 2 l a f))), .own 4 0 i 1 true, .d (dl (iX l b g) (aR l b g))])), (4, some (55, .ds (kW o)))] 5 trivial ?_
    refine AW.freeze 4 (l' := [(2, rV 1 0)]) (g' := [(0, some (66, .ds [db l m, uD (cT l b g), D.lit (.bool (eT l b g))])), (1, some (53, .ds [uD (kK l (kO a)), dl (uO l a f) (aR l (qO 2 l a f) (qW 2 l a f)), D.sl (kW o) i, dl (iX l b g) (aR l b g)]))]) rfl (FzS.cons rfl (.same _) FzS.nil) (qF rfl rfl (FzG.to (bc := .cs [uC (kK l (kO a)), .d (dl (uO l a f) (aR l (qO 2 l a f) (qW 2 l a f))), .own 4 0 i 1 true, .d (dl (iX l b g) (aR l b g))]) rfl (by rfl) (FzL.cons (.same _) (FzL.cons (.same _) (FzL.cons (@FzC.own 4 ((kW o) : List D) 0 i 1 true ((kW o) : List D) nR u3) (FzL.cons (.same _) FzL.nil)))) FzG.nil)) ?_
    refine AW.ret ?_
    exact kB (.inr rfl) [] (P := (kM (kK l (kO a) : Int)) ∧ (((dI .i64 (jyR l a f)) : List D) = (dI .i64 (uO l a f))) ∧ (((jyN l a f) : Nat) = (aR l (qO 2 l a f) (qW 2 l a f))) ∧ (((kW (lE l a f)) : List D) = (kW o)) ∧ (((ka1 (lE l a f)) : Nat) = i) ∧ (((dI .i64 (xH l a f)) : List D) = (dI .i64 (iX l b g))) ∧ (((xG l a f) : Nat) = (aR l b g)) ∧ (([db l m, uD (jbA l a f), D.lit (.bool (jbB l a f))] : List D) = [db l m, uD (cT l b g), D.lit (.bool (eT l b g))])) zk ⟨rfl, (by rfl), (by rfl), (by (rw [hz2]; done)), (by exact hz3), (by (rw [hz5]; done)), (by exact hz6), (by (rw [hz1, hz4]; done))⟩
theorem iO (x : Int) (hx : 0 ≤ x ∧ x ≤ 255) : Fun 70 [.c (.d (D.lit (.int .u8 x)))] (kD []) 0 (kP (D.lit (.bool (l7 x)))) (kD []) 0 := by
  refine Fun.mk (n := 17) Tryz.func70 rfl rfl (ka3 rfl) ?_
  intro cx hcx
  refine kG [.no] True [(0, kP (D.lit (.int .u8 x)))] [] 0 trivial ?_
  by_cases hx1 : ((97 : Int) ≤ x)
  · by_cases hx2 : (x ≤ 122)
    · refine zr [.no, .b true, .no, .no, .b true, .no, .no, .no, .no] [2] [] ((((97 : Int) ≤ x)) ∧ ((x ≤ 122))) [(2, bV true)] [] 0 ⟨zo, zo⟩ ?_
      refine AW.ret ?_
      exact kB (.inr rfl) [] (P := ((l7 x) = true)) zk (by exact decide_eq_true zo)
    · refine zr [.no, .b true, .no, .no, .b false, .no, .no, .no, .b true, .no, .no, .b false, .no, .no, .no] [2] [] ((((97 : Int) ≤ x)) ∧ (¬ (x ≤ 122)) ∧ (((65 : Int) ≤ x)) ∧ (¬ (x ≤ 90))) [(2, bV false)] [] 0 ⟨zo, zo, zo, zo⟩ ?_
      refine AW.ret ?_
      exact kB (.inr rfl) [] (P := ((l7 x) = false)) zk (by exact decide_eq_false zo)
  · by_cases hx3 : ((65 : Int) ≤ x)
    · by_cases hx4 : (x ≤ 90)
      · refine zr (.no :: .b false :: kJ 4 [.b true, .no, .no, .b true, .no, .no, .no]) [2] [] ((¬ ((97 : Int) ≤ x)) ∧ (((65 : Int) ≤ x)) ∧ ((x ≤ 90))) [(2, bV true)] [] 0 ⟨zo, zo, zo⟩ ?_
        refine AW.ret ?_
        exact kB (.inr rfl) [] (P := ((l7 x) = true)) zk (by exact decide_eq_true zo)
      · refine zr (.no :: .b false :: kJ 4 [.b true, .no, .no, .b false, .no, .no, .no]) [2] [] ((¬ ((97 : Int) ≤ x)) ∧ (((65 : Int) ≤ x)) ∧ (¬ (x ≤ 90))) [(2, bV false)] [] 0 ⟨zo, zo, zo⟩ ?_
        refine AW.ret ?_
        exact kB (.inr rfl) [] (P := ((l7 x) = false)) zk (by exact decide_eq_false zo)
    · refine zr (.no :: .b false :: kJ 4 (.b false :: kJ 4 [])) [2] [] ((¬ ((97 : Int) ≤ x)) ∧ (¬ ((65 : Int) ≤ x))) [(2, bV false)] [] 0 ⟨zo, zo⟩ ?_
      refine AW.ret ?_
      exact kB (.inr rfl) [] (P := ((l7 x) = false)) zk (by exact decide_eq_false zo)
theorem uS (l : List Int) (hy : Byt l) (hb : ka1 l ≤ 9223372036854775807) : Fun 45 [.c (.d (D.lit (.string (strOfNums l))))] (kD []) 0 (kP (D.lit (.bool (u5 l)))) (kD []) 0 := by
  refine Fun.mk (n := 48) Tryz.func45 rfl rfl (ka3 rfl) ?_
  intro cx hcx
  refine kG [.no] True [(0, kP (D.lit (.string (strOfNums l))))] [] 0 trivial ?_
  refine AW.seq ?_
  refine kV [.no] True [(0, kP (D.lit (.string (strOfNums l)))), (3, iV 0)] trivial ?_
  refine AW.block ?_
  refine kU 0 hcx (fun (x : {x : Nat // match x with | k => (k ≤ ka1 l) ∧ (∀ j, j < k → (nG (ka0 l j 0) = true ∧ (j = 0 → l7 (ka0 l 0 0) = true)))}) => match x with | ⟨k, _⟩ => (⟨[(0, kP (D.lit (.string (strOfNums l)))), (3, uV k)], [], 0⟩ : ES)) (fun x => match x with | ⟨k, _⟩ => ka1 l - k) ⟨(0 : Nat), ⟨zo, (fun j hj => absurd hj (Nat.not_lt_zero j))⟩⟩ [] (P := ((.string (strOfNums l) : Value) = .string (strOfNums l)) ∧ (kM 0)) zk ⟨rfl, rfl⟩ ?_
  rintro ⟨k, hinv0⟩
  obtain ⟨hk, ha⟩ : (k ≤ ka1 l) ∧ (∀ j, j < k → (nG (ka0 l j 0) = true ∧ (j = 0 → l7 (ka0 l 0 0) = true))) := hinv0
  refine qV (l := [(0, kP (D.lit (.string (strOfNums l)))), (3, uV k)]) (g := []) (nx := 0) rfl rfl rfl ?_
  refine AW.seq ?_
  by_cases hx1 : (((k : Nat) : Int) < (((ka1 l) : Nat) : Int))
  · refine zr [.no, .no, .i (ka1 l : Int), .b true] [0, 3, 8] [] (((ByteArray.size (strOfNums l) : Int) = ((ka1 l : Int) : Int)) ∧ (((k : Int) < (ka1 l : Int)))) [(0, kP (D.lit (.string (strOfNums l)))), (3, uV k), (8, bV true)] [] 0 ⟨(by rw [strOfNums_size]), zo⟩ ?_
    refine u1 ?_
    refine AW.seq ?_
    refine AW.block ?_
    have hx2 : 0 ≤ (ka0 l k 0) ∧ (ka0 l k 0) ≤ 255 := Byt.at (kL : Byt l) _ zo
    refine kG [.no, .no, .i (ka0 l k 0), .no] (dN (strOfNums l) ((k : Int) : Int) = some ((ka0 l k 0) : Int)) [(0, kP (D.lit (.string (strOfNums l)))), (3, uV k), (4, kP (D.lit (.int .u8 (ka0 l k 0))))] [] 0 (by have h9 := f0 (l := l) (Byt.at (kL : Byt l)) (k := k) zo; exact h9) ?_
    rcases kb0 (l7 (ka0 l k 0)) with hx3 | hx3
    · refine zr [.no, .call [] (bV true) [] 0 [] none, .no, .no, .no] [0, 3, 40] [] (Fun 70 [.c (.d (D.lit (.int .u8 (ka0 l k 0))))] (kD []) 0 (bV true) (kD []) 0) [(0, kP (D.lit (.string (strOfNums l)))), (3, uV k), (40, bV false)] [] 0 (by have h0 := (iO (ka0 l k 0) zo); rw [hx3] at h0; exact h0) ?_
      refine uM ?_
      refine aC [.no, .w, .no] (qB ((k : Int) + 1)) [(0, kP (D.lit (.string (strOfNums l)))), (3, iV (↑k + 1))] [] 0 ⟨by omega, by omega⟩ ?_
      exact qH ⟨((k + 1) : Nat), ⟨zo, (fun j hj => (Nat.lt_succ_iff_lt_or_eq.1 hj).elim (ha j) (fun e9 => by subst e9; exact ⟨u0m (by assumption), fun h0 => by subst h0; assumption⟩))⟩⟩ [] (P := ((.string (strOfNums l) : Value) = .string (strOfNums l)) ∧ (q1S k)) zk ⟨rfl, (by rfl)⟩ (show ka1 l - (k + 1) < ka1 l - k from zo)
    · by_cases hx4 : (((k : Nat) : Int) = 0)
      · refine zr [.no, .call [] (bV false) [] 0 [] none, .no, .no, .no, .b true, .no, .no, .no] [0, 3, 40] [] ((Fun 70 [.c (.d (D.lit (.int .u8 (ka0 l k 0))))] (kD []) 0 (bV false) (kD []) 0) ∧ (((k : Int) = 0))) [(0, kP (D.lit (.string (strOfNums l)))), (3, uV k), (40, bV true)] [] 0 ⟨(by have h0 := (iO (ka0 l k 0) zo); rw [hx3] at h0; exact h0), zo⟩ ?_
        refine zt ?_
        refine kG [.no] True [(2, bV false)] [] 0 trivial ?_
        refine AW.ret ?_
        exact kB (.inr rfl) [] (P := ((u5 l) = false)) zk (by (obtain rfl : k = 0 := zo; exact k3j (by assumption)))
      · by_cases hx5 : ((ka0 l k 0) < 48)
        · by_cases hx6 : ((ka0 l k 0) ≠ 45)
          · by_cases hx7 : ((ka0 l k 0) ≠ 46)
            · refine zr [.no, .call [] (bV false) [] 0 [] none, .no, .no, .no, .b false, .no, .no, .b true, .no, .no, .no, .no, .b true, .no, .no, .no, .b true, .no, .no, .no, .b true, .no, .no, .no] [0, 3, 40] [] ((Fun 70 [.c (.d (D.lit (.int .u8 (ka0 l k 0))))] (kD []) 0 (bV false) (kD []) 0) ∧ (¬ ((k : Int) = 0)) ∧ (((ka0 l k 0) < 48)) ∧ (((ka0 l k 0) ≠ 45)) ∧ (((ka0 l k 0) ≠ 46)) ∧ (((ka0 l k 0) ≠ 95))) [(0, kP (D.lit (.string (strOfNums l)))), (3, uV k), (40, bV true)] [] 0 ⟨(by have h0 := (iO (ka0 l k 0) zo); rw [hx3] at h0; exact h0), zo, zo, zo, zo, zo⟩ ?_
              refine zt ?_
              refine kG [.no] True [(2, bV false)] [] 0 trivial ?_
              refine AW.ret ?_
              exact kB (.inr rfl) [] (P := ((u5 l) = false)) zk (by exact xC (k := k) zo (k8f (by assumption) zo))
            · refine zr [.no, .call [] (bV false) [] 0 [] none, .no, .no, .no, .b false, .no, .no, .b true, .no, .no, .no, .no, .b true, .no, .no, .no, .b false, .no, .no, .no, .no, .no] [0, 3, 40] [] ((Fun 70 [.c (.d (D.lit (.int .u8 (ka0 l k 0))))] (kD []) 0 (bV false) (kD []) 0) ∧ (¬ ((k : Int) = 0)) ∧ (((ka0 l k 0) < 48)) ∧ (((ka0 l k 0) ≠ 45)) ∧ (¬ ((ka0 l k 0) ≠ 46))) [(0, kP (D.lit (.string (strOfNums l)))), (3, uV k), (40, bV false)] [] 0 ⟨(by have h0 := (iO (ka0 l k 0) zo); rw [hx3] at h0; exact h0), zo, zo, zo, zo⟩ ?_
              refine uM ?_
              refine aC [.no, .w, .no] (qB ((k : Int) + 1)) [(0, kP (D.lit (.string (strOfNums l)))), (3, iV (↑k + 1))] [] 0 ⟨by omega, by omega⟩ ?_
              exact qH ⟨((k + 1) : Nat), ⟨zo, (fun j hj => (Nat.lt_succ_iff_lt_or_eq.1 hj).elim (ha j) (fun e9 => by subst e9; exact ⟨tG zo, fun h0 => by omega⟩))⟩⟩ [] (P := ((.string (strOfNums l) : Value) = .string (strOfNums l)) ∧ (q1S k)) zk ⟨rfl, (by rfl)⟩ (show ka1 l - (k + 1) < ka1 l - k from zo)
          · refine zr (.no :: .call [] (bV false) [] 0 [] none :: .no :: .no :: .no :: .b false :: .no :: .no :: .b true :: kJ 4 (.b false :: kJ 7 [])) [0, 3, 40] [] ((Fun 70 [.c (.d (D.lit (.int .u8 (ka0 l k 0))))] (kD []) 0 (bV false) (kD []) 0) ∧ (¬ ((k : Int) = 0)) ∧ (((ka0 l k 0) < 48)) ∧ (¬ ((ka0 l k 0) ≠ 45))) [(0, kP (D.lit (.string (strOfNums l)))), (3, uV k), (40, bV false)] [] 0 ⟨(by have h0 := (iO (ka0 l k 0) zo); rw [hx3] at h0; exact h0), zo, zo, zo⟩ ?_
            refine uM ?_
            refine aC [.no, .w, .no] (qB ((k : Int) + 1)) [(0, kP (D.lit (.string (strOfNums l)))), (3, iV (↑k + 1))] [] 0 ⟨by omega, by omega⟩ ?_
            exact qH ⟨((k + 1) : Nat), ⟨zo, (fun j hj => (Nat.lt_succ_iff_lt_or_eq.1 hj).elim (ha j) (fun e9 => by subst e9; exact ⟨tG zo, fun h0 => by omega⟩))⟩⟩ [] (P := ((.string (strOfNums l) : Value) = .string (strOfNums l)) ∧ (q1S k)) zk ⟨rfl, (by rfl)⟩ (show ka1 l - (k + 1) < ka1 l - k from zo)
        · by_cases hx8 : ((57 : Int) < (ka0 l k 0))
          · by_cases hx9 : ((ka0 l k 0) ≠ 95)
            · refine zr [.no, .call [] (bV false) [] 0 [] none, .no, .no, .no, .b false, .no, .no, .b false, .no, .no, .b true, .no, .no, .no, .b true, .no, .no, .no, .b true, .no, .no, .no, .b true, .no, .no, .no] [0, 3, 40] [] ((Fun 70 [.c (.d (D.lit (.int .u8 (ka0 l k 0))))] (kD []) 0 (bV false) (kD []) 0) ∧ (¬ ((k : Int) = 0)) ∧ (¬ ((ka0 l k 0) < 48)) ∧ (((57 : Int) < (ka0 l k 0))) ∧ (((ka0 l k 0) ≠ 45)) ∧ (((ka0 l k 0) ≠ 46)) ∧ (((ka0 l k 0) ≠ 95))) [(0, kP (D.lit (.string (strOfNums l)))), (3, uV k), (40, bV true)] [] 0 ⟨(by have h0 := (iO (ka0 l k 0) zo); rw [hx3] at h0; exact h0), zo, zo, zo, zo, zo, zo⟩ ?_
              refine zt ?_
              refine kG [.no] True [(2, bV false)] [] 0 trivial ?_
              refine AW.ret ?_
              exact kB (.inr rfl) [] (P := ((u5 l) = false)) zk (by exact xC (k := k) zo (k8f (by assumption) zo))
            · refine zr [.no, .call [] (bV false) [] 0 [] none, .no, .no, .no, .b false, .no, .no, .b false, .no, .no, .b true, .no, .no, .no, .b true, .no, .no, .no, .b true, .no, .no, .no, .b false, .no, .no, .no] [0, 3, 40] [] ((Fun 70 [.c (.d (D.lit (.int .u8 (ka0 l k 0))))] (kD []) 0 (bV false) (kD []) 0) ∧ (¬ ((k : Int) = 0)) ∧ (¬ ((ka0 l k 0) < 48)) ∧ (((57 : Int) < (ka0 l k 0))) ∧ (((ka0 l k 0) ≠ 45)) ∧ (((ka0 l k 0) ≠ 46)) ∧ (¬ ((ka0 l k 0) ≠ 95))) [(0, kP (D.lit (.string (strOfNums l)))), (3, uV k), (40, bV false)] [] 0 ⟨(by have h0 := (iO (ka0 l k 0) zo); rw [hx3] at h0; exact h0), zo, zo, zo, zo, zo, zo⟩ ?_
              refine uM ?_
              refine aC [.no, .w, .no] (qB ((k : Int) + 1)) [(0, kP (D.lit (.string (strOfNums l)))), (3, iV (↑k + 1))] [] 0 ⟨by omega, by omega⟩ ?_
              exact qH ⟨((k + 1) : Nat), ⟨zo, (fun j hj => (Nat.lt_succ_iff_lt_or_eq.1 hj).elim (ha j) (fun e9 => by subst e9; exact ⟨tG zo, fun h0 => by omega⟩))⟩⟩ [] (P := ((.string (strOfNums l) : Value) = .string (strOfNums l)) ∧ (q1S k)) zk ⟨rfl, (by rfl)⟩ (show ka1 l - (k + 1) < ka1 l - k from zo)
          · refine zr (.no :: .call [] (bV false) [] 0 [] none :: .no :: .no :: .no :: .b false :: .no :: .no :: .b false :: .no :: .no :: .b false :: kJ 9 []) [0, 3, 40] [] ((Fun 70 [.c (.d (D.lit (.int .u8 (ka0 l k 0))))] (kD []) 0 (bV false) (kD []) 0) ∧ (¬ ((k : Int) = 0)) ∧ (¬ ((ka0 l k 0) < 48)) ∧ (¬ ((57 : Int) < (ka0 l k 0)))) [(0, kP (D.lit (.string (strOfNums l)))), (3, uV k), (40, bV false)] [] 0 ⟨(by have h0 := (iO (ka0 l k 0) zo); rw [hx3] at h0; exact h0), zo, zo, zo⟩ ?_
            refine uM ?_
            refine aC [.no, .w, .no] (qB ((k : Int) + 1)) [(0, kP (D.lit (.string (strOfNums l)))), (3, iV (↑k + 1))] [] 0 ⟨by omega, by omega⟩ ?_
            exact qH ⟨((k + 1) : Nat), ⟨zo, (fun j hj => (Nat.lt_succ_iff_lt_or_eq.1 hj).elim (ha j) (fun e9 => by subst e9; exact ⟨tG zo, fun h0 => by omega⟩))⟩⟩ [] (P := ((.string (strOfNums l) : Value) = .string (strOfNums l)) ∧ (q1S k)) zk ⟨rfl, (by rfl)⟩ (show ka1 l - (k + 1) < ka1 l - k from zo)
  · refine zr [.no, .no, .i (ka1 l : Int), .b false] [0, 3, 8] [] (((ByteArray.size (strOfNums l) : Int) = ((ka1 l : Int) : Int)) ∧ (¬ ((k : Int) < (ka1 l : Int)))) [(0, kP (D.lit (.string (strOfNums l)))), (3, uV k), (8, bV false)] [] 0 ⟨(by rw [strOfNums_size]), zo⟩ ?_
    refine zf ?_
    refine AW.exit ?_
    by_cases hx10 : ((ka1 l) = 0)
    · refine zr [.no, .b false, .no, .no, .no] [2] [] ((!(ByteArray.toList (strOfNums l) == ByteArray.toList (ByteArray.mk #[]))) = false) [(2, bV false)] [] 0 (by rw [show (ByteArray.toList (strOfNums l) == ByteArray.toList (ByteArray.mk #[])) = true from (u07 (by omega))]; rfl) ?_
      refine AW.ret ?_
      exact kB (.inr rfl) [] (P := ((u5 l) = false)) zk (by exact o5 zo)
    · by_cases hx11 : ((((ka1 l) : Nat) : Int) ≤ 64)
      · refine zr [.no, .b true, .no, .no, .i (ka1 l : Int), .b true, .no, .no] [2] [] (((!(ByteArray.toList (strOfNums l) == ByteArray.toList (ByteArray.mk #[]))) = true) ∧ ((ByteArray.size (strOfNums l) : Int) = ((ka1 l : Int) : Int)) ∧ (((ka1 l : Int) ≤ 64))) [(2, bV true)] [] 0 ⟨(by rw [show (ByteArray.toList (strOfNums l) == ByteArray.toList (ByteArray.mk #[])) = false from (jQ (by omega))]; rfl), (by rw [strOfNums_size]), zo⟩ ?_
        refine AW.ret ?_
        exact kB (.inr rfl) [] (P := ((u5 l) = true)) zk (by exact k3h zo ((ha 0 zo).2 rfl) (fun j hj => (ha j zo).1))
      · refine zr [.no, .b true, .no, .no, .i (ka1 l : Int), .b false, .no, .no] [2] [] (((!(ByteArray.toList (strOfNums l) == ByteArray.toList (ByteArray.mk #[]))) = true) ∧ ((ByteArray.size (strOfNums l) : Int) = ((ka1 l : Int) : Int)) ∧ (¬ ((ka1 l : Int) ≤ 64))) [(2, bV false)] [] 0 ⟨(by rw [show (ByteArray.toList (strOfNums l) == ByteArray.toList (ByteArray.mk #[])) = false from (jQ (by omega))]; rfl), (by rw [strOfNums_size]), zo⟩ ?_
        refine AW.ret ?_
        exact kB (.inr rfl) [] (P := ((u5 l) = false)) zk (by exact o5 zo)
theorem rJ (id : Int) (nm : List Int) (d1 d2 d3 d4 d5 : Int) (bs : List Bx) (n : Nat) (hy : Byt nm) (hl : ka1 nm ≤ 1000000) (hn : ka1 bs = n) (h1 : n ≤ 1000000) (hW : BsW bs) : Fun 15 [.agg [.d (D.lit (.int .u64 id)), .d (D.lit (.string (strOfNums nm))), iC d1, iC d2, iC d3, iC d4, iC d5, .d (D.sl (kX bs) n)]] (kD []) 0 (kP (D.lit (.bool (vS nm d1 d2 d3 d4 d5 bs)))) (kD []) 0 := by
  refine Fun.mk (n := 73) Tryz.func15 rfl rfl (ka3 rfl) ?_
  intro cx hcx
  refine kG [.no, .no] True [(1, rV 0 0)] [(0, some (31, .ds [D.lit (.int .u64 id), D.lit (.string (strOfNums nm)), iD d1, iD d2, iD d3, iD d4, iD d5, D.sl (kX bs) n]))] 1 trivial ?_
  rcases kb0 (u5 nm) with hx1 | hx1
  · by_cases hx2 : (d1 = 1)
    · by_cases hx3 : ((0 : Int) ≤ d2)
      · by_cases hx4 : (d2 ≤ 65535)
        · by_cases hx5 : ((0 : Int) ≤ d3)
          · by_cases hx6 : (d3 ≤ 1048576)
            · by_cases hx7 : ((0 : Int) ≤ d4)
              · by_cases hx8 : (d4 ≤ 2048)
                · by_cases hx9 : ((0 : Int) ≤ d5)
                  · by_cases hx10 : (d5 ≤ 4096)
                    · by_cases hx11 : ((1 : Int) ≤ ((n : Nat) : Int))
                      · by_cases hx12 : (((n : Nat) : Int) ≤ 8)
                        · rcases kb0 (iP bs) with hx13 | hx13
                          · refine zr (.no :: .no :: .call [] (bV true) [] 0 [] none :: .no :: .no :: .no :: .b true :: kJ 6 (.b true :: kJ 4 (.b true :: kJ 4 (.b true :: kJ 4 (.b true :: kJ 4 (.b true :: kJ 4 (.b true :: kJ 4 (.b true :: kJ 4 (.b true :: kJ 5 (.b true :: kJ 5 (.b true :: kJ 4 [.call [] (bV true) [] 0 [] none, .no, .no]))))))))))) [2] [] ((Fun 45 [.c (.d (D.lit (.string (strOfNums nm))))] (kD []) 0 (bV true) (kD []) 0) ∧ ((d1 = 1)) ∧ (((0 : Int) ≤ d2)) ∧ ((d2 ≤ 65535)) ∧ (((0 : Int) ≤ d3)) ∧ ((d3 ≤ 1048576)) ∧ (((0 : Int) ≤ d4)) ∧ ((d4 ≤ 2048)) ∧ (((0 : Int) ≤ d5)) ∧ ((d5 ≤ 4096)) ∧ (((1 : Int) ≤ (n : Int))) ∧ (((n : Int) ≤ 8)) ∧ (Fun 46 [.c (.d (D.sl (kX bs) n))] (kD []) 0 (bV true) (kD []) 0)) [(2, bV true)] [] 1 ⟨(by have h0 := (uS nm (kL : Byt nm) zo); rw [hx1] at h0; exact h0), zo, zo, zo, zo, zo, zo, zo, zo, zo, zo, zo, (by have h0 := (gH bs n zo zo (kL : BsW bs)); rw [hx13] at h0; exact h0)⟩ ?_
                            refine AW.ret ?_
                            exact kB (.inr rfl) [] (P := ((vS nm d1 d2 d3 d4 d5 bs) = true)) zk (by exact k24 (by assumption) zo (by assumption))
                          · refine zr (.no :: .no :: .call [] (bV true) [] 0 [] none :: .no :: .no :: .no :: .b true :: kJ 6 (.b true :: kJ 4 (.b true :: kJ 4 (.b true :: kJ 4 (.b true :: kJ 4 (.b true :: kJ 4 (.b true :: kJ 4 (.b true :: kJ 4 (.b true :: kJ 5 (.b true :: kJ 5 (.b true :: kJ 4 [.call [] (bV false) [] 0 [] none, .no, .no]))))))))))) [2] [] ((Fun 45 [.c (.d (D.lit (.string (strOfNums nm))))] (kD []) 0 (bV true) (kD []) 0) ∧ ((d1 = 1)) ∧ (((0 : Int) ≤ d2)) ∧ ((d2 ≤ 65535)) ∧ (((0 : Int) ≤ d3)) ∧ ((d3 ≤ 1048576)) ∧ (((0 : Int) ≤ d4)) ∧ ((d4 ≤ 2048)) ∧ (((0 : Int) ≤ d5)) ∧ ((d5 ≤ 4096)) ∧ (((1 : Int) ≤ (n : Int))) ∧ (((n : Int) ≤ 8)) ∧ (Fun 46 [.c (.d (D.sl (kX bs) n))] (kD []) 0 (bV false) (kD []) 0)) [(2, bV false)] [] 1 ⟨(by have h0 := (uS nm (kL : Byt nm) zo); rw [hx1] at h0; exact h0), zo, zo, zo, zo, zo, zo, zo, zo, zo, zo, zo, (by have h0 := (gH bs n zo zo (kL : BsW bs)); rw [hx13] at h0; exact h0)⟩ ?_
                            refine AW.ret ?_
                            exact kB (.inr rfl) [] (P := ((vS nm d1 d2 d3 d4 d5 bs) = false)) zk (by exact k7a (by assumption))
                        · refine zr (.no :: .no :: .call [] (bV true) [] 0 [] none :: .no :: .no :: .no :: .b true :: kJ 6 (.b true :: kJ 4 (.b true :: kJ 4 (.b true :: kJ 4 (.b true :: kJ 4 (.b true :: kJ 4 (.b true :: kJ 4 (.b true :: kJ 4 (.b true :: kJ 5 (.b true :: kJ 5 (.b false :: kJ 4 []))))))))))) [2] [] ((Fun 45 [.c (.d (D.lit (.string (strOfNums nm))))] (kD []) 0 (bV true) (kD []) 0) ∧ ((d1 = 1)) ∧ (((0 : Int) ≤ d2)) ∧ ((d2 ≤ 65535)) ∧ (((0 : Int) ≤ d3)) ∧ ((d3 ≤ 1048576)) ∧ (((0 : Int) ≤ d4)) ∧ ((d4 ≤ 2048)) ∧ (((0 : Int) ≤ d5)) ∧ ((d5 ≤ 4096)) ∧ (((1 : Int) ≤ (n : Int))) ∧ (¬ ((n : Int) ≤ 8))) [(2, bV false)] [] 1 ⟨(by have h0 := (uS nm (kL : Byt nm) zo); rw [hx1] at h0; exact h0), zo, zo, zo, zo, zo, zo, zo, zo, zo, zo, zo⟩ ?_
                          refine AW.ret ?_
                          exact kB (.inr rfl) [] (P := ((vS nm d1 d2 d3 d4 d5 bs) = false)) zk (by exact y8 zo)
                      · refine zr (.no :: .no :: .call [] (bV true) [] 0 [] none :: .no :: .no :: .no :: .b true :: kJ 6 (.b true :: kJ 4 (.b true :: kJ 4 (.b true :: kJ 4 (.b true :: kJ 4 (.b true :: kJ 4 (.b true :: kJ 4 (.b true :: kJ 4 (.b true :: kJ 5 (.b false :: kJ 6 [])))))))))) [2] [] ((Fun 45 [.c (.d (D.lit (.string (strOfNums nm))))] (kD []) 0 (bV true) (kD []) 0) ∧ ((d1 = 1)) ∧ (((0 : Int) ≤ d2)) ∧ ((d2 ≤ 65535)) ∧ (((0 : Int) ≤ d3)) ∧ ((d3 ≤ 1048576)) ∧ (((0 : Int) ≤ d4)) ∧ ((d4 ≤ 2048)) ∧ (((0 : Int) ≤ d5)) ∧ ((d5 ≤ 4096)) ∧ (¬ ((1 : Int) ≤ (n : Int)))) [(2, bV false)] [] 1 ⟨(by have h0 := (uS nm (kL : Byt nm) zo); rw [hx1] at h0; exact h0), zo, zo, zo, zo, zo, zo, zo, zo, zo, zo⟩ ?_
                        refine AW.ret ?_
                        exact kB (.inr rfl) [] (P := ((vS nm d1 d2 d3 d4 d5 bs) = false)) zk (by exact y8 zo)
                    · refine zr (.no :: .no :: .call [] (bV true) [] 0 [] none :: .no :: .no :: .no :: .b true :: kJ 6 (.b true :: kJ 4 (.b true :: kJ 4 (.b true :: kJ 4 (.b true :: kJ 4 (.b true :: kJ 4 (.b true :: kJ 4 (.b true :: kJ 4 (.b false :: kJ 8 []))))))))) [2] [] ((Fun 45 [.c (.d (D.lit (.string (strOfNums nm))))] (kD []) 0 (bV true) (kD []) 0) ∧ ((d1 = 1)) ∧ (((0 : Int) ≤ d2)) ∧ ((d2 ≤ 65535)) ∧ (((0 : Int) ≤ d3)) ∧ ((d3 ≤ 1048576)) ∧ (((0 : Int) ≤ d4)) ∧ ((d4 ≤ 2048)) ∧ (((0 : Int) ≤ d5)) ∧ (¬ (d5 ≤ 4096))) [(2, bV false)] [] 1 ⟨(by have h0 := (uS nm (kL : Byt nm) zo); rw [hx1] at h0; exact h0), zo, zo, zo, zo, zo, zo, zo, zo, zo⟩ ?_
                      refine AW.ret ?_
                      exact kB (.inr rfl) [] (P := ((vS nm d1 d2 d3 d4 d5 bs) = false)) zk (by exact y8 zo)
                  · refine zr (.no :: .no :: .call [] (bV true) [] 0 [] none :: .no :: .no :: .no :: .b true :: kJ 6 (.b true :: kJ 4 (.b true :: kJ 4 (.b true :: kJ 4 (.b true :: kJ 4 (.b true :: kJ 4 (.b true :: kJ 4 (.b false :: kJ 10 [])))))))) [2] [] ((Fun 45 [.c (.d (D.lit (.string (strOfNums nm))))] (kD []) 0 (bV true) (kD []) 0) ∧ ((d1 = 1)) ∧ (((0 : Int) ≤ d2)) ∧ ((d2 ≤ 65535)) ∧ (((0 : Int) ≤ d3)) ∧ ((d3 ≤ 1048576)) ∧ (((0 : Int) ≤ d4)) ∧ ((d4 ≤ 2048)) ∧ (¬ ((0 : Int) ≤ d5))) [(2, bV false)] [] 1 ⟨(by have h0 := (uS nm (kL : Byt nm) zo); rw [hx1] at h0; exact h0), zo, zo, zo, zo, zo, zo, zo, zo⟩ ?_
                    refine AW.ret ?_
                    exact kB (.inr rfl) [] (P := ((vS nm d1 d2 d3 d4 d5 bs) = false)) zk (by exact y8 zo)
                · refine zr (.no :: .no :: .call [] (bV true) [] 0 [] none :: .no :: .no :: .no :: .b true :: kJ 6 (.b true :: kJ 4 (.b true :: kJ 4 (.b true :: kJ 4 (.b true :: kJ 4 (.b true :: kJ 4 (.b false :: kJ 12 []))))))) [2] [] ((Fun 45 [.c (.d (D.lit (.string (strOfNums nm))))] (kD []) 0 (bV true) (kD []) 0) ∧ ((d1 = 1)) ∧ (((0 : Int) ≤ d2)) ∧ ((d2 ≤ 65535)) ∧ (((0 : Int) ≤ d3)) ∧ ((d3 ≤ 1048576)) ∧ (((0 : Int) ≤ d4)) ∧ (¬ (d4 ≤ 2048))) [(2, bV false)] [] 1 ⟨(by have h0 := (uS nm (kL : Byt nm) zo); rw [hx1] at h0; exact h0), zo, zo, zo, zo, zo, zo, zo⟩ ?_
                  refine AW.ret ?_
                  exact kB (.inr rfl) [] (P := ((vS nm d1 d2 d3 d4 d5 bs) = false)) zk (by exact y8 zo)
              · refine zr (.no :: .no :: .call [] (bV true) [] 0 [] none :: .no :: .no :: .no :: .b true :: kJ 6 (.b true :: kJ 4 (.b true :: kJ 4 (.b true :: kJ 4 (.b true :: kJ 4 (.b false :: kJ 14 [])))))) [2] [] ((Fun 45 [.c (.d (D.lit (.string (strOfNums nm))))] (kD []) 0 (bV true) (kD []) 0) ∧ ((d1 = 1)) ∧ (((0 : Int) ≤ d2)) ∧ ((d2 ≤ 65535)) ∧ (((0 : Int) ≤ d3)) ∧ ((d3 ≤ 1048576)) ∧ (¬ ((0 : Int) ≤ d4))) [(2, bV false)] [] 1 ⟨(by have h0 := (uS nm (kL : Byt nm) zo); rw [hx1] at h0; exact h0), zo, zo, zo, zo, zo, zo⟩ ?_
                refine AW.ret ?_
                exact kB (.inr rfl) [] (P := ((vS nm d1 d2 d3 d4 d5 bs) = false)) zk (by exact y8 zo)
            · refine zr (.no :: .no :: .call [] (bV true) [] 0 [] none :: .no :: .no :: .no :: .b true :: kJ 6 (.b true :: kJ 4 (.b true :: kJ 4 (.b true :: kJ 4 (.b false :: kJ 16 []))))) [2] [] ((Fun 45 [.c (.d (D.lit (.string (strOfNums nm))))] (kD []) 0 (bV true) (kD []) 0) ∧ ((d1 = 1)) ∧ (((0 : Int) ≤ d2)) ∧ ((d2 ≤ 65535)) ∧ (((0 : Int) ≤ d3)) ∧ (¬ (d3 ≤ 1048576))) [(2, bV false)] [] 1 ⟨(by have h0 := (uS nm (kL : Byt nm) zo); rw [hx1] at h0; exact h0), zo, zo, zo, zo, zo⟩ ?_
              refine AW.ret ?_
              exact kB (.inr rfl) [] (P := ((vS nm d1 d2 d3 d4 d5 bs) = false)) zk (by exact y8 zo)
          · refine zr (.no :: .no :: .call [] (bV true) [] 0 [] none :: .no :: .no :: .no :: .b true :: kJ 6 (.b true :: kJ 4 (.b true :: kJ 4 (.b false :: kJ 18 [])))) [2] [] ((Fun 45 [.c (.d (D.lit (.string (strOfNums nm))))] (kD []) 0 (bV true) (kD []) 0) ∧ ((d1 = 1)) ∧ (((0 : Int) ≤ d2)) ∧ ((d2 ≤ 65535)) ∧ (¬ ((0 : Int) ≤ d3))) [(2, bV false)] [] 1 ⟨(by have h0 := (uS nm (kL : Byt nm) zo); rw [hx1] at h0; exact h0), zo, zo, zo, zo⟩ ?_
            refine AW.ret ?_
            exact kB (.inr rfl) [] (P := ((vS nm d1 d2 d3 d4 d5 bs) = false)) zk (by exact y8 zo)
        · refine zr (.no :: .no :: .call [] (bV true) [] 0 [] none :: .no :: .no :: .no :: .b true :: kJ 6 (.b true :: kJ 4 (.b false :: kJ 20 []))) [2] [] ((Fun 45 [.c (.d (D.lit (.string (strOfNums nm))))] (kD []) 0 (bV true) (kD []) 0) ∧ ((d1 = 1)) ∧ (((0 : Int) ≤ d2)) ∧ (¬ (d2 ≤ 65535))) [(2, bV false)] [] 1 ⟨(by have h0 := (uS nm (kL : Byt nm) zo); rw [hx1] at h0; exact h0), zo, zo, zo⟩ ?_
          refine AW.ret ?_
          exact kB (.inr rfl) [] (P := ((vS nm d1 d2 d3 d4 d5 bs) = false)) zk (by exact y8 zo)
      · refine zr (.no :: .no :: .call [] (bV true) [] 0 [] none :: .no :: .no :: .no :: .b true :: kJ 6 (.b false :: kJ 22 [])) [2] [] ((Fun 45 [.c (.d (D.lit (.string (strOfNums nm))))] (kD []) 0 (bV true) (kD []) 0) ∧ ((d1 = 1)) ∧ (¬ ((0 : Int) ≤ d2))) [(2, bV false)] [] 1 ⟨(by have h0 := (uS nm (kL : Byt nm) zo); rw [hx1] at h0; exact h0), zo, zo⟩ ?_
        refine AW.ret ?_
        exact kB (.inr rfl) [] (P := ((vS nm d1 d2 d3 d4 d5 bs) = false)) zk (by exact y8 zo)
    · by_cases hx14 : (d1 = 2)
      · by_cases hx15 : ((0 : Int) ≤ d2)
        · by_cases hx16 : (d2 ≤ 65535)
          · by_cases hx17 : ((0 : Int) ≤ d3)
            · by_cases hx18 : (d3 ≤ 1048576)
              · by_cases hx19 : ((0 : Int) ≤ d4)
                · by_cases hx20 : (d4 ≤ 2048)
                  · by_cases hx21 : ((0 : Int) ≤ d5)
                    · by_cases hx22 : (d5 ≤ 4096)
                      · by_cases hx23 : ((1 : Int) ≤ ((n : Nat) : Int))
                        · by_cases hx24 : (((n : Nat) : Int) ≤ 8)
                          · rcases kb0 (iP bs) with hx25 | hx25
                            · refine zr (.no :: .no :: .call [] (bV true) [] 0 [] none :: .no :: .no :: .no :: .b false :: .no :: .no :: .no :: .b true :: kJ 5 (.b true :: kJ 4 (.b true :: kJ 4 (.b true :: kJ 4 (.b true :: kJ 4 (.b true :: kJ 4 (.b true :: kJ 4 (.b true :: kJ 4 (.b true :: kJ 5 (.b true :: kJ 5 (.b true :: kJ 4 [.call [] (bV true) [] 0 [] none, .no, .no]))))))))))) [2] [] ((Fun 45 [.c (.d (D.lit (.string (strOfNums nm))))] (kD []) 0 (bV true) (kD []) 0) ∧ (¬ (d1 = 1)) ∧ ((d1 = 2)) ∧ (((0 : Int) ≤ d2)) ∧ ((d2 ≤ 65535)) ∧ (((0 : Int) ≤ d3)) ∧ ((d3 ≤ 1048576)) ∧ (((0 : Int) ≤ d4)) ∧ ((d4 ≤ 2048)) ∧ (((0 : Int) ≤ d5)) ∧ ((d5 ≤ 4096)) ∧ (((1 : Int) ≤ (n : Int))) ∧ (((n : Int) ≤ 8)) ∧ (Fun 46 [.c (.d (D.sl (kX bs) n))] (kD []) 0 (bV true) (kD []) 0)) [(2, bV true)] [] 1 ⟨(by have h0 := (uS nm (kL : Byt nm) zo); rw [hx1] at h0; exact h0), zo, zo, zo, zo, zo, zo, zo, zo, zo, zo, zo, zo, (by have h0 := (gH bs n zo zo (kL : BsW bs)); rw [hx25] at h0; exact h0)⟩ ?_
                              refine AW.ret ?_
                              exact kB (.inr rfl) [] (P := ((vS nm d1 d2 d3 d4 d5 bs) = true)) zk (by exact k24 (by assumption) zo (by assumption))
                            · refine zr (.no :: .no :: .call [] (bV true) [] 0 [] none :: .no :: .no :: .no :: .b false :: .no :: .no :: .no :: .b true :: kJ 5 (.b true :: kJ 4 (.b true :: kJ 4 (.b true :: kJ 4 (.b true :: kJ 4 (.b true :: kJ 4 (.b true :: kJ 4 (.b true :: kJ 4 (.b true :: kJ 5 (.b true :: kJ 5 (.b true :: kJ 4 [.call [] (bV false) [] 0 [] none, .no, .no]))))))))))) [2] [] ((Fun 45 [.c (.d (D.lit (.string (strOfNums nm))))] (kD []) 0 (bV true) (kD []) 0) ∧ (¬ (d1 = 1)) ∧ ((d1 = 2)) ∧ (((0 : Int) ≤ d2)) ∧ ((d2 ≤ 65535)) ∧ (((0 : Int) ≤ d3)) ∧ ((d3 ≤ 1048576)) ∧ (((0 : Int) ≤ d4)) ∧ ((d4 ≤ 2048)) ∧ (((0 : Int) ≤ d5)) ∧ ((d5 ≤ 4096)) ∧ (((1 : Int) ≤ (n : Int))) ∧ (((n : Int) ≤ 8)) ∧ (Fun 46 [.c (.d (D.sl (kX bs) n))] (kD []) 0 (bV false) (kD []) 0)) [(2, bV false)] [] 1 ⟨(by have h0 := (uS nm (kL : Byt nm) zo); rw [hx1] at h0; exact h0), zo, zo, zo, zo, zo, zo, zo, zo, zo, zo, zo, zo, (by have h0 := (gH bs n zo zo (kL : BsW bs)); rw [hx25] at h0; exact h0)⟩ ?_
                              refine AW.ret ?_
                              exact kB (.inr rfl) [] (P := ((vS nm d1 d2 d3 d4 d5 bs) = false)) zk (by exact k7a (by assumption))
                          · refine zr (.no :: .no :: .call [] (bV true) [] 0 [] none :: .no :: .no :: .no :: .b false :: .no :: .no :: .no :: .b true :: kJ 5 (.b true :: kJ 4 (.b true :: kJ 4 (.b true :: kJ 4 (.b true :: kJ 4 (.b true :: kJ 4 (.b true :: kJ 4 (.b true :: kJ 4 (.b true :: kJ 5 (.b true :: kJ 5 (.b false :: kJ 4 []))))))))))) [2] [] ((Fun 45 [.c (.d (D.lit (.string (strOfNums nm))))] (kD []) 0 (bV true) (kD []) 0) ∧ (¬ (d1 = 1)) ∧ ((d1 = 2)) ∧ (((0 : Int) ≤ d2)) ∧ ((d2 ≤ 65535)) ∧ (((0 : Int) ≤ d3)) ∧ ((d3 ≤ 1048576)) ∧ (((0 : Int) ≤ d4)) ∧ ((d4 ≤ 2048)) ∧ (((0 : Int) ≤ d5)) ∧ ((d5 ≤ 4096)) ∧ (((1 : Int) ≤ (n : Int))) ∧ (¬ ((n : Int) ≤ 8))) [(2, bV false)] [] 1 ⟨(by have h0 := (uS nm (kL : Byt nm) zo); rw [hx1] at h0; exact h0), zo, zo, zo, zo, zo, zo, zo, zo, zo, zo, zo, zo⟩ ?_
                            refine AW.ret ?_
                            exact kB (.inr rfl) [] (P := ((vS nm d1 d2 d3 d4 d5 bs) = false)) zk (by exact y8 zo)
                        · refine zr (.no :: .no :: .call [] (bV true) [] 0 [] none :: .no :: .no :: .no :: .b false :: .no :: .no :: .no :: .b true :: kJ 5 (.b true :: kJ 4 (.b true :: kJ 4 (.b true :: kJ 4 (.b true :: kJ 4 (.b true :: kJ 4 (.b true :: kJ 4 (.b true :: kJ 4 (.b true :: kJ 5 (.b false :: kJ 6 [])))))))))) [2] [] ((Fun 45 [.c (.d (D.lit (.string (strOfNums nm))))] (kD []) 0 (bV true) (kD []) 0) ∧ (¬ (d1 = 1)) ∧ ((d1 = 2)) ∧ (((0 : Int) ≤ d2)) ∧ ((d2 ≤ 65535)) ∧ (((0 : Int) ≤ d3)) ∧ ((d3 ≤ 1048576)) ∧ (((0 : Int) ≤ d4)) ∧ ((d4 ≤ 2048)) ∧ (((0 : Int) ≤ d5)) ∧ ((d5 ≤ 4096)) ∧ (¬ ((1 : Int) ≤ (n : Int)))) [(2, bV false)] [] 1 ⟨(by have h0 := (uS nm (kL : Byt nm) zo); rw [hx1] at h0; exact h0), zo, zo, zo, zo, zo, zo, zo, zo, zo, zo, zo⟩ ?_
                          refine AW.ret ?_
                          exact kB (.inr rfl) [] (P := ((vS nm d1 d2 d3 d4 d5 bs) = false)) zk (by exact y8 zo)
                      · refine zr (.no :: .no :: .call [] (bV true) [] 0 [] none :: .no :: .no :: .no :: .b false :: .no :: .no :: .no :: .b true :: kJ 5 (.b true :: kJ 4 (.b true :: kJ 4 (.b true :: kJ 4 (.b true :: kJ 4 (.b true :: kJ 4 (.b true :: kJ 4 (.b true :: kJ 4 (.b false :: kJ 8 []))))))))) [2] [] ((Fun 45 [.c (.d (D.lit (.string (strOfNums nm))))] (kD []) 0 (bV true) (kD []) 0) ∧ (¬ (d1 = 1)) ∧ ((d1 = 2)) ∧ (((0 : Int) ≤ d2)) ∧ ((d2 ≤ 65535)) ∧ (((0 : Int) ≤ d3)) ∧ ((d3 ≤ 1048576)) ∧ (((0 : Int) ≤ d4)) ∧ ((d4 ≤ 2048)) ∧ (((0 : Int) ≤ d5)) ∧ (¬ (d5 ≤ 4096))) [(2, bV false)] [] 1 ⟨(by have h0 := (uS nm (kL : Byt nm) zo); rw [hx1] at h0; exact h0), zo, zo, zo, zo, zo, zo, zo, zo, zo, zo⟩ ?_
                        refine AW.ret ?_
                        exact kB (.inr rfl) [] (P := ((vS nm d1 d2 d3 d4 d5 bs) = false)) zk (by exact y8 zo)
                    · refine zr (.no :: .no :: .call [] (bV true) [] 0 [] none :: .no :: .no :: .no :: .b false :: .no :: .no :: .no :: .b true :: kJ 5 (.b true :: kJ 4 (.b true :: kJ 4 (.b true :: kJ 4 (.b true :: kJ 4 (.b true :: kJ 4 (.b true :: kJ 4 (.b false :: kJ 10 [])))))))) [2] [] ((Fun 45 [.c (.d (D.lit (.string (strOfNums nm))))] (kD []) 0 (bV true) (kD []) 0) ∧ (¬ (d1 = 1)) ∧ ((d1 = 2)) ∧ (((0 : Int) ≤ d2)) ∧ ((d2 ≤ 65535)) ∧ (((0 : Int) ≤ d3)) ∧ ((d3 ≤ 1048576)) ∧ (((0 : Int) ≤ d4)) ∧ ((d4 ≤ 2048)) ∧ (¬ ((0 : Int) ≤ d5))) [(2, bV false)] [] 1 ⟨(by have h0 := (uS nm (kL : Byt nm) zo); rw [hx1] at h0; exact h0), zo, zo, zo, zo, zo, zo, zo, zo, zo⟩ ?_
                      refine AW.ret ?_
                      exact kB (.inr rfl) [] (P := ((vS nm d1 d2 d3 d4 d5 bs) = false)) zk (by exact y8 zo)
                  · refine zr (.no :: .no :: .call [] (bV true) [] 0 [] none :: .no :: .no :: .no :: .b false :: .no :: .no :: .no :: .b true :: kJ 5 (.b true :: kJ 4 (.b true :: kJ 4 (.b true :: kJ 4 (.b true :: kJ 4 (.b true :: kJ 4 (.b false :: kJ 12 []))))))) [2] [] ((Fun 45 [.c (.d (D.lit (.string (strOfNums nm))))] (kD []) 0 (bV true) (kD []) 0) ∧ (¬ (d1 = 1)) ∧ ((d1 = 2)) ∧ (((0 : Int) ≤ d2)) ∧ ((d2 ≤ 65535)) ∧ (((0 : Int) ≤ d3)) ∧ ((d3 ≤ 1048576)) ∧ (((0 : Int) ≤ d4)) ∧ (¬ (d4 ≤ 2048))) [(2, bV false)] [] 1 ⟨(by have h0 := (uS nm (kL : Byt nm) zo); rw [hx1] at h0; exact h0), zo, zo, zo, zo, zo, zo, zo, zo⟩ ?_
                    refine AW.ret ?_
                    exact kB (.inr rfl) [] (P := ((vS nm d1 d2 d3 d4 d5 bs) = false)) zk (by exact y8 zo)
                · refine zr (.no :: .no :: .call [] (bV true) [] 0 [] none :: .no :: .no :: .no :: .b false :: .no :: .no :: .no :: .b true :: kJ 5 (.b true :: kJ 4 (.b true :: kJ 4 (.b true :: kJ 4 (.b true :: kJ 4 (.b false :: kJ 14 [])))))) [2] [] ((Fun 45 [.c (.d (D.lit (.string (strOfNums nm))))] (kD []) 0 (bV true) (kD []) 0) ∧ (¬ (d1 = 1)) ∧ ((d1 = 2)) ∧ (((0 : Int) ≤ d2)) ∧ ((d2 ≤ 65535)) ∧ (((0 : Int) ≤ d3)) ∧ ((d3 ≤ 1048576)) ∧ (¬ ((0 : Int) ≤ d4))) [(2, bV false)] [] 1 ⟨(by have h0 := (uS nm (kL : Byt nm) zo); rw [hx1] at h0; exact h0), zo, zo, zo, zo, zo, zo, zo⟩ ?_
                  refine AW.ret ?_
                  exact kB (.inr rfl) [] (P := ((vS nm d1 d2 d3 d4 d5 bs) = false)) zk (by exact y8 zo)
              · refine zr (.no :: .no :: .call [] (bV true) [] 0 [] none :: .no :: .no :: .no :: .b false :: .no :: .no :: .no :: .b true :: kJ 5 (.b true :: kJ 4 (.b true :: kJ 4 (.b true :: kJ 4 (.b false :: kJ 16 []))))) [2] [] ((Fun 45 [.c (.d (D.lit (.string (strOfNums nm))))] (kD []) 0 (bV true) (kD []) 0) ∧ (¬ (d1 = 1)) ∧ ((d1 = 2)) ∧ (((0 : Int) ≤ d2)) ∧ ((d2 ≤ 65535)) ∧ (((0 : Int) ≤ d3)) ∧ (¬ (d3 ≤ 1048576))) [(2, bV false)] [] 1 ⟨(by have h0 := (uS nm (kL : Byt nm) zo); rw [hx1] at h0; exact h0), zo, zo, zo, zo, zo, zo⟩ ?_
                refine AW.ret ?_
                exact kB (.inr rfl) [] (P := ((vS nm d1 d2 d3 d4 d5 bs) = false)) zk (by exact y8 zo)
            · refine zr (.no :: .no :: .call [] (bV true) [] 0 [] none :: .no :: .no :: .no :: .b false :: .no :: .no :: .no :: .b true :: kJ 5 (.b true :: kJ 4 (.b true :: kJ 4 (.b false :: kJ 18 [])))) [2] [] ((Fun 45 [.c (.d (D.lit (.string (strOfNums nm))))] (kD []) 0 (bV true) (kD []) 0) ∧ (¬ (d1 = 1)) ∧ ((d1 = 2)) ∧ (((0 : Int) ≤ d2)) ∧ ((d2 ≤ 65535)) ∧ (¬ ((0 : Int) ≤ d3))) [(2, bV false)] [] 1 ⟨(by have h0 := (uS nm (kL : Byt nm) zo); rw [hx1] at h0; exact h0), zo, zo, zo, zo, zo⟩ ?_
              refine AW.ret ?_
              exact kB (.inr rfl) [] (P := ((vS nm d1 d2 d3 d4 d5 bs) = false)) zk (by exact y8 zo)
          · refine zr (.no :: .no :: .call [] (bV true) [] 0 [] none :: .no :: .no :: .no :: .b false :: .no :: .no :: .no :: .b true :: kJ 5 (.b true :: kJ 4 (.b false :: kJ 20 []))) [2] [] ((Fun 45 [.c (.d (D.lit (.string (strOfNums nm))))] (kD []) 0 (bV true) (kD []) 0) ∧ (¬ (d1 = 1)) ∧ ((d1 = 2)) ∧ (((0 : Int) ≤ d2)) ∧ (¬ (d2 ≤ 65535))) [(2, bV false)] [] 1 ⟨(by have h0 := (uS nm (kL : Byt nm) zo); rw [hx1] at h0; exact h0), zo, zo, zo, zo⟩ ?_
            refine AW.ret ?_
            exact kB (.inr rfl) [] (P := ((vS nm d1 d2 d3 d4 d5 bs) = false)) zk (by exact y8 zo)
        · refine zr (.no :: .no :: .call [] (bV true) [] 0 [] none :: .no :: .no :: .no :: .b false :: .no :: .no :: .no :: .b true :: kJ 5 (.b false :: kJ 22 [])) [2] [] ((Fun 45 [.c (.d (D.lit (.string (strOfNums nm))))] (kD []) 0 (bV true) (kD []) 0) ∧ (¬ (d1 = 1)) ∧ ((d1 = 2)) ∧ (¬ ((0 : Int) ≤ d2))) [(2, bV false)] [] 1 ⟨(by have h0 := (uS nm (kL : Byt nm) zo); rw [hx1] at h0; exact h0), zo, zo, zo⟩ ?_
          refine AW.ret ?_
          exact kB (.inr rfl) [] (P := ((vS nm d1 d2 d3 d4 d5 bs) = false)) zk (by exact y8 zo)
      · refine zr (.no :: .no :: .call [] (bV true) [] 0 [] none :: .no :: .no :: .no :: .b false :: .no :: .no :: .no :: .b false :: kJ 25 []) [2] [] ((Fun 45 [.c (.d (D.lit (.string (strOfNums nm))))] (kD []) 0 (bV true) (kD []) 0) ∧ (¬ (d1 = 1)) ∧ (¬ (d1 = 2))) [(2, bV false)] [] 1 ⟨(by have h0 := (uS nm (kL : Byt nm) zo); rw [hx1] at h0; exact h0), zo, zo⟩ ?_
        refine AW.ret ?_
        exact kB (.inr rfl) [] (P := ((vS nm d1 d2 d3 d4 d5 bs) = false)) zk (by exact y8 zo)
  · refine zr (.no :: .no :: .call [] (bV false) [] 0 [] none :: kJ 25 []) [2] [] (Fun 45 [.c (.d (D.lit (.string (strOfNums nm))))] (kD []) 0 (bV false) (kD []) 0) [(2, bV false)] [] 1 (by have h0 := (uS nm (kL : Byt nm) zo); rw [hx1] at h0; exact h0) ?_
    refine AW.ret ?_
    exact kB (.inr rfl) [] (P := ((vS nm d1 d2 d3 d4 d5 bs) = false)) zk (by exact u4k (by assumption))
theorem vM (l : List Int) (m : Nat) (hm : ka1 l = m) (hb : m ≤ 1000000) (hy : Byt l) : Fun 9 [.c (.d (D.sl (dI .u8 l) m))] (kD []) 0 (.tup [.agg [.d (D.lit (.int .u64 (yK l))), .d (D.lit (.string (strOfNums (uX l)))), iC (yP l), iC (yO l), iC (yN l), iC (yM l), iC (yL l), .d (D.sl (kX (qK l)) (ka1 (qK l)))], iE (qR l)]) (kD []) 0 := by
  refine Fun.mk (n := 133) Tryz.func9 rfl rfl (ka3 rfl) ?_
  intro cx hcx
  refine kG [.no, .no] True [(0, sV .u8 l m), (2, rV 0 0)] [(0, some (31, .ds [D.lit (.int .u64 0), D.lit (.string { data := #[] }), iD 0, iD 0, iD 0, iD 0, iD 0, k9]))] 1 trivial ?_
  refine AW.seq ?_
  by_cases hx1 : (((m : Nat) : Int) < 8)
  · refine zr [.no, .no, .b true] [0, 2, 17] [0] (((m : Int) < 8)) [(0, sV .u8 l m), (2, rV 0 0), (17, bV true)] [(0, some (31, .ds [D.lit (.int .u64 0), D.lit (.string { data := #[] }), iD 0, iD 0, iD 0, iD 0, iD 0, k9]))] 1 zo ?_
    refine zt ?_
    refine kG [.no, .no, .no] True [(2, rV 0 0), (3, iV 4)] [(0, some (31, .ds [D.lit (.int .u64 0), D.lit (.string { data := #[] }), iD 0, iD 0, iD 0, iD 0, iD 0, k9]))] 1 trivial ?_
    refine y6 (l' := [(2, rV 0 0), (3, iV 4)]) (g' := [(0, some (31, .ds [D.lit (.int .u64 0), D.lit (.string { data := #[] }), iD 0, iD 0, iD 0, iD 0, iD 0, D.sl ([] : List D) 0]))]) (NlS.cons rfl (.same _) (NlS.cons rfl (.same _) NlS.nil)) (NlG.to (bc := .ds [D.lit (.int .u64 0), D.lit (.string { data := #[] }), iD 0, iD 0, iD 0, iD 0, iD 0, k9]) rfl (NlL.cons (.same _) (NlL.cons (.same _) (NlL.cons (.same _) (NlL.cons (.same _) (NlL.cons (.same _) (NlL.cons (.same _) (NlL.cons (.same _) (NlL.cons (.nil) NlL.nil)))))))) NlG.nil) ?_
    have hz0 : qR l = 4 := (u3j hm (by omega))
    obtain ⟨hzI, hzN, h91, h92, h93, h94, h95, hzB⟩ := iA (l := l) zo
    refine AW.ret ?_
    exact kB (.inr rfl) [] (P := (((yK l) : Int) = 0) ∧ ((.string (strOfNums (uX l)) : Value) = .string { data := #[] }) ∧ (((yP l) : Int) = 0) ∧ (((yO l) : Int) = 0) ∧ (((yN l) : Int) = 0) ∧ (((yM l) : Int) = 0) ∧ (((yL l) : Int) = 0) ∧ (((kX (qK l)) : List D) = ([] : List D)) ∧ (((ka1 (qK l)) : Nat) = 0) ∧ (((qR l) : Int) = 4)) zk ⟨zo, (by rw [hzN]; rfl), zo, zo, zo, zo, zo, (by (rw [hzB]; rfl)), (by (rw [hzB]; rfl)), zo⟩
  · refine zr [.no, .no, .b false] [0, 2, 17] [0] (¬ ((m : Int) < 8)) [(0, sV .u8 l m), (2, rV 0 0), (17, bV false)] [(0, some (31, .ds [D.lit (.int .u64 0), D.lit (.string { data := #[] }), iD 0, iD 0, iD 0, iD 0, iD 0, k9]))] 1 zo ?_
    refine uM ?_
    refine kG [.no, .no, .no, .w, .sls 0 (m - 4) (m - 4) (dI .u8 (ka2 (m - 4) l)), .no] ((qB ((m : Int) - 4)) ∧ (kQ 0) ∧ ((((m : Int) - 4) : Int) = (((m - 4) : Nat) : Int)) ∧ ((0 : Nat) ≤ (m - 4)) ∧ ((m - 4) ≤ m) ∧ ((m - 4) - 0 = (m - 4)) ∧ (ka2 ((m - 4) * 1) (ka5 (0 * 1) (dI .u8 l)) = (dI .u8 (ka2 (m - 4) l)))) [(0, sV .u8 l m), (2, rV 0 0), (4, sV .u8 (ka2 (m - 4) l) (m - 4))] [(0, some (31, .ds [D.lit (.int .u64 0), D.lit (.string { data := #[] }), iD 0, iD 0, iD 0, iD 0, iD 0, k9]))] 1 ⟨⟨by omega, by omega⟩, rfl, zo, zo, zo, zo, nQ⟩ ?_
    refine AW.seq ?_
    generalize hp : ka2 (m - 4) l = p
    generalize hM : m - 4 = M
    have hx2 : M + 4 = m := zo
    have hx3 : ka1 p = M := (by rw [← hp, kb4]; omega)
    have hx4 : Byt p := (hp ▸ hy.take _)
    have hx5 : (((0 : Int) ≤ (g32 l M)) ∧ ((g32 l M) ≤ 4294967295)) := g32_rng (kL : Byt l) zo
    refine kG (.no :: .no :: .no :: .call [] (.tup [.c (.d (D.lit (.int .u32 (g32 l M)))), uE (M + 4), iE 0]) [] 0 [] none :: kJ 7 []) _ [(2, rV 0 0), (4, sV .u8 p M), (5, kP (D.lit (.int .u32 (g32 l M))))] [(0, some (31, .ds [D.lit (.int .u64 0), D.lit (.string { data := #[] }), iD 0, iD 0, iD 0, iD 0, iD 0, k9]))] 1 (W_rGet32 l m M zo zo (kL : Byt l) zo) ?_
    by_cases hx7 : ((g32 l M) ≠ (kI p))
    · have hx8 : (((0 : Int) ≤ (kI p)) ∧ ((kI p) ≤ 4294967295)) := cY _
      refine kG [.no, .no, .call [] (kP (D.lit (.int .u32 (kI p)))) [] 0 [] none, .b true] ((_) ∧ (((g32 l M) ≠ (kI p)))) [(2, rV 0 0), (4, sV .u8 p M), (35, bV true)] [(0, some (31, .ds [D.lit (.int .u64 0), D.lit (.string { data := #[] }), iD 0, iD 0, iD 0, iD 0, iD 0, k9]))] 1 ⟨(rK p M zo zo (kL : Byt p)), zo⟩ ?_
      refine zt ?_
      refine kV [.no, .no, .no] True [(2, rV 0 0), (3, iV 6)] trivial ?_
      refine y6 (l' := [(2, rV 0 0), (3, iV 6)]) (g' := [(0, some (31, .ds [D.lit (.int .u64 0), D.lit (.string { data := #[] }), iD 0, iD 0, iD 0, iD 0, iD 0, D.sl ([] : List D) 0]))]) (NlS.cons rfl (.same _) (NlS.cons rfl (.same _) NlS.nil)) (NlG.to (bc := .ds [D.lit (.int .u64 0), D.lit (.string { data := #[] }), iD 0, iD 0, iD 0, iD 0, iD 0, k9]) rfl (NlL.cons (.same _) (NlL.cons (.same _) (NlL.cons (.same _) (NlL.cons (.same _) (NlL.cons (.same _) (NlL.cons (.same _) (NlL.cons (.same _) (NlL.cons (.nil) NlL.nil)))))))) NlG.nil) ?_
      have hz0 : qR l = 6 := (u8y hm hM hp (by omega) (by omega))
      obtain ⟨hzI, hzN, h91, h92, h93, h94, h95, hzB⟩ := iA (l := l) zo
      refine AW.ret ?_
      exact kB (.inr rfl) [] (P := (((yK l) : Int) = 0) ∧ ((.string (strOfNums (uX l)) : Value) = .string { data := #[] }) ∧ (((yP l) : Int) = 0) ∧ (((yO l) : Int) = 0) ∧ (((yN l) : Int) = 0) ∧ (((yM l) : Int) = 0) ∧ (((yL l) : Int) = 0) ∧ (((kX (qK l)) : List D) = ([] : List D)) ∧ (((ka1 (qK l)) : Nat) = 0) ∧ (((qR l) : Int) = 6)) zk ⟨zo, (by rw [hzN]; rfl), zo, zo, zo, zo, zo, (by (rw [hzB]; rfl)), (by (rw [hzB]; rfl)), zo⟩
    · have hx9 : (((0 : Int) ≤ (kI p)) ∧ ((kI p) ≤ 4294967295)) := cY _
      refine kG [.no, .no, .call [] (kP (D.lit (.int .u32 (kI p)))) [] 0 [] none, .b false] ((_) ∧ (¬ ((g32 l M) ≠ (kI p)))) [(2, rV 0 0), (4, sV .u8 p M), (35, bV false)] [(0, some (31, .ds [D.lit (.int .u64 0), D.lit (.string { data := #[] }), iD 0, iD 0, iD 0, iD 0, iD 0, k9]))] 1 ⟨(rK p M zo zo (kL : Byt p)), zo⟩ ?_
      refine uM ?_
      refine AW.seq ?_
      by_cases hx10 : ((ka2 4 p) = ([83, 78, 68, 49] : List Int))
      · refine zr [.no, .sls 0 4 4 (dI .u8 (ka2 4 p)), .st none (ka2 4 p), .b false] [2, 4, 40] [0] ((kQ 0) ∧ (kM 4) ∧ ((0 : Nat) ≤ 4) ∧ ((4 : Nat) ≤ M) ∧ ((4 : Nat) - 0 = 4) ∧ (ka2 (4 * 1) (ka5 (0 * 1) (dI .u8 p)) = (dI .u8 (ka2 4 p))) ∧ ((dI .u8 (ka2 4 p)).length = 4 * 1) ∧ (kY (dI .u8 (ka2 4 p))) ∧ ((!(ByteArray.toList (strOfNums (ka2 4 p)) == ByteArray.toList (ByteArray.mk #[83, 78, 68, 49]))) = false)) [(2, rV 0 0), (4, sV .u8 p M), (40, bV false)] [(0, some (31, .ds [D.lit (.int .u64 0), D.lit (.string { data := #[] }), iD 0, iD 0, iD 0, iD 0, iD 0, k9]))] 1 ⟨rfl, rfl, zo, zo, zo, nQ, u3, rfl, (by rw [show (ByteArray.toList (strOfNums (ka2 4 p)) == ByteArray.toList (ByteArray.mk #[83, 78, 68, 49])) = true from (u0j (by assumption))]; rfl)⟩ ?_
        refine uM ?_
        refine kG (kJ 4 []) True [(2, rV 0 0), (4, sV .u8 p M), (8, rV 1 0)] [(0, some (31, .ds [D.lit (.int .u64 0), D.lit (.string { data := #[] }), iD 0, iD 0, iD 0, iD 0, iD 0, k9])), (1, some (66, .ds [db p M, iD 4, D.lit (.bool false)]))] 2 trivial ?_
        refine kG [.no] True [(2, rV 0 0), (4, sV .u8 p M), (8, rV 1 0), (9, rV 2 0)] [(0, some (31, .ds [D.lit (.int .u64 0), D.lit (.string { data := #[] }), iD 0, iD 0, iD 0, iD 0, iD 0, k9])), (1, some (66, .ds [db p M, iD 4, D.lit (.bool false)])), (2, some (31, .ds [D.lit (.int .u64 0), D.lit (.string { data := #[] }), iD 0, iD 0, iD 0, iD 0, iD 0, k9]))] 3 trivial ?_
        have hx11 : ((wG 8 p 4) ≤ M) := (u2v (zo))
        have hx12 : (((0 : Int) ≤ (uW p (kO 4))) ∧ ((uW p (kO 4)) ≤ 18446744073709551615)) := (oD (kL : Byt p) _)
        refine kV (kJ 5 (.call [] (.tup [.c (.d (D.lit (.int .u64 (uW p (kO 4))))), uE (wG 8 p 4), iE (pH 8 p 4)]) [] 0 [] none :: kJ 7 [])) _ [(2, rV 0 0), (4, sV .u8 p M), (8, rV 1 0), (9, rV 2 0), (10, kP (D.lit (.int .u64 (uW p (kO 4))))), (11, uV (wG 8 p 4)), (12, iV (pH 8 p 4))] (k9i p M 4 zo zo (kL : Byt p) zo) ?_
        have hx13 : ((cK 4 (wG 8 p 4) (pH 8 p 4)) ≤ M) := (gZ (pH 8 p 4) (zo) (zo))
        refine kG [.no, .no, .no, .call [1] (.tup []) [(0, some (66, .ds [db p M, uD (cK 4 (wG 8 p 4) (pH 8 p 4)), D.lit (.bool (eK false (pH 8 p 4)))]))] 1 [] none] _ [(2, rV 0 0), (4, sV .u8 p M), (8, rV 1 0), (9, rV 2 0), (10, kP (D.lit (.int .u64 (uW p (kO 4)))))] [(0, some (31, .ds [D.lit (.int .u64 0), D.lit (.string { data := #[] }), iD 0, iD 0, iD 0, iD 0, iD 0, k9])), (1, some (66, .ds [db p M, uD (cK 4 (wG 8 p 4) (pH 8 p 4)), D.lit (.bool (eK false (pH 8 p 4)))])), (2, some (31, .ds [D.lit (.int .u64 0), D.lit (.string { data := #[] }), iD 0, iD 0, iD 0, iD 0, iD 0, k9]))] 3 (iG p M 4 false (wG 8 p 4) (pH 8 p 4) zo zo (kL : Byt p) zo zo) ?_
        generalize e1 : (cK 4 (wG 8 p 4) (pH 8 p 4)) = a1 at *
        generalize g1 : eK false (pH 8 p 4) = f1 at *
        have hx14 : ((lX p a1) ≤ M) := (u1r (zo))
        have hx15 : ((ka1 (y7 p a1)) ≤ 64) := (k7d _ _)
        have hx16 : (((0 : Int) ≤ (vC p a1)) ∧ ((vC p a1) ≤ 4)) := (k7c _ _)
        refine kG (kJ 5 (.call [] (.tup [.c (.d (D.lit (.string (strOfNums (y7 p a1))))), uE (lX p a1), iE (vC p a1)]) [] 0 [] none :: kJ 7 [])) _ [(2, rV 0 0), (4, sV .u8 p M), (8, rV 1 0), (9, rV 2 0), (10, kP (D.lit (.int .u64 (uW p (kO 4))))), (11, uV (lX p a1)), (12, iV (vC p a1)), (13, kP (D.lit (.string (strOfNums (y7 p a1)))))] [(0, some (31, .ds [D.lit (.int .u64 0), D.lit (.string { data := #[] }), iD 0, iD 0, iD 0, iD 0, iD 0, k9])), (1, some (66, .ds [db p M, uD a1, D.lit (.bool (f1))])), (2, some (31, .ds [D.lit (.int .u64 0), D.lit (.string { data := #[] }), iD 0, iD 0, iD 0, iD 0, iD 0, k9]))] 3 (k1w p M a1 zo zo (kL : Byt p) zo) ?_
        have hx17 : ((cK a1 (lX p a1) (vC p a1)) ≤ M) := (gZ (vC p a1) (zo) (zo))
        refine kG [.no, .no, .no, .call [1] (.tup []) [(0, some (66, .ds [db p M, uD (cK a1 (lX p a1) (vC p a1)), D.lit (.bool (eK f1 (vC p a1)))]))] 1 [] none] _ [(2, rV 0 0), (4, sV .u8 p M), (8, rV 1 0), (9, rV 2 0), (10, kP (D.lit (.int .u64 (uW p (kO 4))))), (13, kP (D.lit (.string (strOfNums (y7 p a1)))))] [(0, some (31, .ds [D.lit (.int .u64 0), D.lit (.string { data := #[] }), iD 0, iD 0, iD 0, iD 0, iD 0, k9])), (1, some (66, .ds [db p M, uD (cK a1 (lX p a1) (vC p a1)), D.lit (.bool (eK f1 (vC p a1)))])), (2, some (31, .ds [D.lit (.int .u64 0), D.lit (.string { data := #[] }), iD 0, iD 0, iD 0, iD 0, iD 0, k9]))] 3 (iG p M a1 f1 (lX p a1) (vC p a1) zo zo (kL : Byt p) zo zo) ?_
        generalize e2 : (cK a1 (lX p a1) (vC p a1)) = a2 at *
        generalize g2 : eK f1 (vC p a1) = f2 at *
        refine kG (kJ 6 []) True [(2, rV 0 0), (4, sV .u8 p M), (8, rV 1 0), (9, rV 2 0)] [(0, some (31, .ds [D.lit (.int .u64 0), D.lit (.string { data := #[] }), iD 0, iD 0, iD 0, iD 0, iD 0, k9])), (1, some (66, .ds [db p M, uD a2, D.lit (.bool (f2))])), (2, some (31, .ds [D.lit (.int .u64 (uW p (kO 4))), D.lit (.string (strOfNums (y7 p a1))), iD 0, iD 0, iD 0, iD 0, iD 0, k9]))] 3 trivial ?_
        have hx18 : ((qO 2 p a2 f2) ≤ M) := (aG f2 (zo) (zo))
        have hx19 : ((kK p (kO a2)) ≤ 65535) := (qY (kL : Byt p) _)
        refine kG [.no, .call [1] (uV (kK p (kO a2))) [(0, some (66, .ds [db p M, uD (qO 2 p a2 f2), D.lit (.bool (qW 2 p a2 f2))]))] 1 [] none, .no, .no] _ [(2, rV 0 0), (4, sV .u8 p M), (8, rV 1 0), (9, rV 2 0)] [(0, some (31, .ds [D.lit (.int .u64 0), D.lit (.string { data := #[] }), iD 0, iD 0, iD 0, iD 0, iD 0, k9])), (1, some (66, .ds [db p M, uD (qO 2 p a2 f2), D.lit (.bool (qW 2 p a2 f2))])), (2, some (31, .ds [D.lit (.int .u64 (uW p (kO 4))), D.lit (.string (strOfNums (y7 p a1))), uD (kK p (kO a2)), iD 0, iD 0, iD 0, iD 0, k9]))] 3 (aJ p M a2 f2 zo zo (kL : Byt p) zo) ?_
        generalize e3 : (qO 2 p a2 f2) = a3 at *
        generalize g3 : qW 2 p a2 f2 = f3 at *
        have hx20 : ((qO 2 p a3 f3) ≤ M) := (aG f3 (zo) (zo))
        have hx21 : ((kK p (kO a3)) ≤ 65535) := (qY (kL : Byt p) _)
        refine kG [.no, .call [1] (uV (kK p (kO a3))) [(0, some (66, .ds [db p M, uD (qO 2 p a3 f3), D.lit (.bool (qW 2 p a3 f3))]))] 1 [] none, .no, .no] _ [(2, rV 0 0), (4, sV .u8 p M), (8, rV 1 0), (9, rV 2 0)] [(0, some (31, .ds [D.lit (.int .u64 0), D.lit (.string { data := #[] }), iD 0, iD 0, iD 0, iD 0, iD 0, k9])), (1, some (66, .ds [db p M, uD (qO 2 p a3 f3), D.lit (.bool (qW 2 p a3 f3))])), (2, some (31, .ds [D.lit (.int .u64 (uW p (kO 4))), D.lit (.string (strOfNums (y7 p a1))), uD (kK p (kO a2)), uD (kK p (kO a3)), iD 0, iD 0, iD 0, k9]))] 3 (aJ p M a3 f3 zo zo (kL : Byt p) zo) ?_
        generalize e4 : (qO 2 p a3 f3) = a4 at *
        generalize g4 : qW 2 p a3 f3 = f4 at *
        have hx22 : ((qO 4 p a4 f4) ≤ M) := (aG f4 (zo) (zo))
        have hx23 : (((0 : Int) ≤ (qU p (kO a4))) ∧ ((qU p (kO a4)) ≤ 4294967295)) := (d9 (kL : Byt p) _)
        refine kG [.no, .call [1] (iV (qU p (kO a4))) [(0, some (66, .ds [db p M, uD (qO 4 p a4 f4), D.lit (.bool (qW 4 p a4 f4))]))] 1 [] none, .no, .no] _ [(2, rV 0 0), (4, sV .u8 p M), (8, rV 1 0), (9, rV 2 0)] [(0, some (31, .ds [D.lit (.int .u64 0), D.lit (.string { data := #[] }), iD 0, iD 0, iD 0, iD 0, iD 0, k9])), (1, some (66, .ds [db p M, uD (qO 4 p a4 f4), D.lit (.bool (qW 4 p a4 f4))])), (2, some (31, .ds [D.lit (.int .u64 (uW p (kO 4))), D.lit (.string (strOfNums (y7 p a1))), uD (kK p (kO a2)), uD (kK p (kO a3)), iD (qU p (kO a4)), iD 0, iD 0, k9]))] 3 (rI p M a4 f4 zo zo (kL : Byt p) zo) ?_
        generalize e5 : (qO 4 p a4 f4) = a5 at *
        generalize g5 : qW 4 p a4 f4 = f5 at *
        have hx24 : ((qO 2 p a5 f5) ≤ M) := (aG f5 (zo) (zo))
        have hx25 : ((kK p (kO a5)) ≤ 65535) := (qY (kL : Byt p) _)
        refine kG [.no, .call [1] (uV (kK p (kO a5))) [(0, some (66, .ds [db p M, uD (qO 2 p a5 f5), D.lit (.bool (qW 2 p a5 f5))]))] 1 [] none, .no, .no] _ [(2, rV 0 0), (4, sV .u8 p M), (8, rV 1 0), (9, rV 2 0)] [(0, some (31, .ds [D.lit (.int .u64 0), D.lit (.string { data := #[] }), iD 0, iD 0, iD 0, iD 0, iD 0, k9])), (1, some (66, .ds [db p M, uD (qO 2 p a5 f5), D.lit (.bool (qW 2 p a5 f5))])), (2, some (31, .ds [D.lit (.int .u64 (uW p (kO 4))), D.lit (.string (strOfNums (y7 p a1))), uD (kK p (kO a2)), uD (kK p (kO a3)), iD (qU p (kO a4)), uD (kK p (kO a5)), iD 0, k9]))] 3 (aJ p M a5 f5 zo zo (kL : Byt p) zo) ?_
        generalize e6 : (qO 2 p a5 f5) = a6 at *
        generalize g6 : qW 2 p a5 f5 = f6 at *
        have hx26 : ((qO 2 p a6 f6) ≤ M) := (aG f6 (zo) (zo))
        have hx27 : ((kK p (kO a6)) ≤ 65535) := (qY (kL : Byt p) _)
        refine kG [.no, .call [1] (uV (kK p (kO a6))) [(0, some (66, .ds [db p M, uD (qO 2 p a6 f6), D.lit (.bool (qW 2 p a6 f6))]))] 1 [] none, .no, .no] _ [(2, rV 0 0), (4, sV .u8 p M), (8, rV 1 0), (9, rV 2 0)] [(0, some (31, .ds [D.lit (.int .u64 0), D.lit (.string { data := #[] }), iD 0, iD 0, iD 0, iD 0, iD 0, k9])), (1, some (66, .ds [db p M, uD (qO 2 p a6 f6), D.lit (.bool (qW 2 p a6 f6))])), (2, some (31, .ds [D.lit (.int .u64 (uW p (kO 4))), D.lit (.string (strOfNums (y7 p a1))), uD (kK p (kO a2)), uD (kK p (kO a3)), iD (qU p (kO a4)), uD (kK p (kO a5)), uD (kK p (kO a6)), k9]))] 3 (aJ p M a6 f6 zo zo (kL : Byt p) zo) ?_
        refine AW.seq ?_
        generalize e7 : (qO 2 p a6 f6) = a7 at *
        generalize g7 : qW 2 p a6 f6 = f7 at *
        have hx28 : ((qO 2 p a7 f7) ≤ M) := (aG f7 (zo) (zo))
        have hx29 : ((kK p (kO a7)) ≤ 65535) := (qY (kL : Byt p) _)
        refine kG [.no, .call [1] (uV (kK p (kO a7))) [(0, some (66, .ds [db p M, uD (qO 2 p a7 f7), D.lit (.bool (qW 2 p a7 f7))]))] 1 [] none, .no] _ [(2, rV 0 0), (4, sV .u8 p M), (8, rV 1 0), (9, rV 2 0), (14, uV (kK p (kO a7)))] [(0, some (31, .ds [D.lit (.int .u64 0), D.lit (.string { data := #[] }), iD 0, iD 0, iD 0, iD 0, iD 0, k9])), (1, some (66, .ds [db p M, uD (qO 2 p a7 f7), D.lit (.bool (qW 2 p a7 f7))])), (2, some (31, .ds [D.lit (.int .u64 (uW p (kO 4))), D.lit (.string (strOfNums (y7 p a1))), uD (kK p (kO a2)), uD (kK p (kO a3)), iD (qU p (kO a4)), uD (kK p (kO a5)), uD (kK p (kO a6)), k9]))] 3 (aJ p M a7 f7 zo zo (kL : Byt p) zo) ?_
        refine AW.block ?_
        refine cQ 2 7 4 53 (cs' := [.d (D.lit (.int .u64 (uW p (kO 4)))), .d (D.lit (.string (strOfNums (y7 p a1)))), uC (kK p (kO a2)), uC (kK p (kO a3)), iC (qU p (kO a4)), uC (kK p (kO a5)), uC (kK p (kO a6)), .own 3 0 0 4 true]) rfl rfl rfl ?_
        refine kU 0 hcx (fun (x : {x : Nat × Nat × Nat × Bool × List Bx // match x with | (k, i, b, g, o) => (ZbI p a7 f7 k b g o) ∧ (ka1 o = i * 1 ∧ i + k ≤ 65535) ∧ (b ≤ M) ∧ (BsW o)}) => match x with | ⟨(k, i, b, g, o), _⟩ => (⟨[(2, rV 0 0), (4, sV .u8 p M), (8, rV 1 0), (9, rV 2 0), (14, uV k)], [(0, some (31, .ds [D.lit (.int .u64 0), D.lit (.string { data := #[] }), iD 0, iD 0, iD 0, iD 0, iD 0, k9])), (1, some (66, .ds [db p M, uD b, D.lit (.bool (g))])), (2, some (31, .cs [.d (D.lit (.int .u64 (uW p (kO 4)))), .d (D.lit (.string (strOfNums (y7 p a1)))), uC (kK p (kO a2)), uC (kK p (kO a3)), iC (qU p (kO a4)), uC (kK p (kO a5)), uC (kK p (kO a6)), .own 4 0 i 4 true])), (4, some (53, .ds (kX o)))], 5⟩ : ES)) (fun x => match x with | ⟨(k, i, b, g, o), _⟩ => k) ⟨(((kK p (kO a7)) : Nat), (0 : Nat), ((qO 2 p a7 f7) : Nat), ((qW 2 p a7 f7) : Bool), (([] : List Bx) : List Bx)), ⟨(ZbI.zero p a7 f7), ⟨rfl, by omega⟩, zo, BsW.nil⟩⟩ [(4, 3)] (P := (kQ 0) ∧ (kY (dI .u8 p)) ∧ (kQ M) ∧ (kQ 0) ∧ (kQ 0) ∧ (kM (kK p (kO a7) : Int)) ∧ (kY [D.lit (.int .u64 0), D.lit (.string { data := #[] }), iD 0, iD 0, iD 0, iD 0, iD 0, k9]) ∧ (([db p M, uD (qO 2 p a7 f7), D.lit (.bool ((qW 2 p a7 f7)))] : List D) = [db p M, uD (qO 2 p a7 f7), D.lit (.bool (qW 2 p a7 f7))]) ∧ (kM (uW p (kO 4))) ∧ ((.string (strOfNums (y7 p a1)) : Value) = .string (strOfNums (y7 p a1))) ∧ (kM (kK p (kO a2) : Int)) ∧ (kM (kK p (kO a3) : Int)) ∧ (kM (qU p (kO a4))) ∧ (kM (kK p (kO a5) : Int)) ∧ (kM (kK p (kO a6) : Int)) ∧ (kQ 0) ∧ (kQ 0) ∧ (((kX ([] : List Bx)) : List D) = ([] : List D))) zk ⟨rfl, rfl, rfl, rfl, rfl, rfl, rfl, (by rfl), rfl, rfl, rfl, rfl, rfl, rfl, rfl, rfl, rfl, (by rfl)⟩ ?_
        rintro ⟨⟨k, i, b, g, o⟩, hinv0⟩
        obtain ⟨hI, hoo, hwb, hBo⟩ : (ZbI p a7 f7 k b g o) ∧ (ka1 o = i * 1 ∧ i + k ≤ 65535) ∧ (b ≤ M) ∧ (BsW o) := hinv0
        refine qV (l := [(2, rV 0 0), (4, sV .u8 p M), (8, rV 1 0), (9, rV 2 0), (14, uV k)]) (g := [(0, some (31, .ds [D.lit (.int .u64 0), D.lit (.string { data := #[] }), iD 0, iD 0, iD 0, iD 0, iD 0, k9])), (1, some (66, .ds [db p M, uD b, D.lit (.bool (g))])), (2, some (31, .cs [.d (D.lit (.int .u64 (uW p (kO 4)))), .d (D.lit (.string (strOfNums (y7 p a1)))), uC (kK p (kO a2)), uC (kK p (kO a3)), iC (qU p (kO a4)), uC (kK p (kO a5)), uC (kK p (kO a6)), .own 4 0 i 4 true])), (4, some (53, .ds (kX o)))]) (nx := 5) rfl rfl rfl ?_
        refine AW.seq ?_
        by_cases hx30 : ((0 : Int) < ((k : Nat) : Int))
        · rcases kb0 (g) with hx31 | hx31
          · subst hx31
            refine kG (.no :: .b true :: kJ 7 []) (((0 : Int) < (k : Int))) [(2, rV 0 0), (4, sV .u8 p M), (8, rV 1 0), (9, rV 2 0), (14, uV k), (102, bV false)] [(0, some (31, .ds [D.lit (.int .u64 0), D.lit (.string { data := #[] }), iD 0, iD 0, iD 0, iD 0, iD 0, k9])), (1, some (66, .ds [db p M, uD b, D.lit (.bool true)])), (2, some (31, .cs [.d (D.lit (.int .u64 (uW p (kO 4)))), .d (D.lit (.string (strOfNums (y7 p a1)))), uC (kK p (kO a2)), uC (kK p (kO a3)), iC (qU p (kO a4)), uC (kK p (kO a5)), uC (kK p (kO a6)), .own 4 0 i 4 true])), (4, some (53, .ds (kX o)))] 5 zo ?_
            refine zf ?_
            refine AW.exit ?_
            refine AW.seq ?_
            refine AW.block ?_
            obtain ⟨e8, g8, hz2⟩ := k6j hI
            obtain ⟨hrb, hrg⟩ := k06 e1 g1 e2 g2 e3 g3 e4 g4 e5 g5 e6 g6 e7 g7 e8 g8
            refine AW.freeze 4 (l' := [(2, rV 0 0), (4, sV .u8 p M), (8, rV 1 0), (9, rV 2 0), (14, uV k), (102, bV false)]) (g' := [(0, some (31, .ds [D.lit (.int .u64 0), D.lit (.string { data := #[] }), iD 0, iD 0, iD 0, iD 0, iD 0, k9])), (1, some (66, .ds [db p M, uD b, D.lit (.bool true)])), (2, some (31, .ds [D.lit (.int .u64 (uW p (kO 4))), D.lit (.string (strOfNums (y7 p a1))), uD (kK p (kO a2)), uD (kK p (kO a3)), iD (qU p (kO a4)), uD (kK p (kO a5)), uD (kK p (kO a6)), D.sl (kX o) i]))]) rfl (FzS.cons rfl (.same _) (FzS.cons rfl (.same _) (FzS.cons rfl (.same _) (FzS.cons rfl (.same _) (FzS.cons rfl (.same _) (FzS.cons rfl (.same _) FzS.nil)))))) (qF rfl rfl (qF rfl rfl (FzG.to (bc := .cs [.d (D.lit (.int .u64 (uW p (kO 4)))), .d (D.lit (.string (strOfNums (y7 p a1)))), uC (kK p (kO a2)), uC (kK p (kO a3)), iC (qU p (kO a4)), uC (kK p (kO a5)), uC (kK p (kO a6)), .own 4 0 i 4 true]) rfl (by rfl) (FzL.cons (.same _) (FzL.cons (.same _) (FzL.cons (.same _) (FzL.cons (.same _) (FzL.cons (.same _) (FzL.cons (.same _) (FzL.cons (.same _) (FzL.cons (@FzC.own 4 ((kX o) : List D) 0 i 4 true ((kX o) : List D) gS u3) FzL.nil)))))))) FzG.nil))) ?_
            refine kG (kJ 7 []) True [(2, rV 0 0), (9, rV 2 0), (112, bV true)] [(0, some (31, .ds [D.lit (.int .u64 0), D.lit (.string { data := #[] }), iD 0, iD 0, iD 0, iD 0, iD 0, k9])), (2, some (31, .ds [D.lit (.int .u64 (uW p (kO 4))), D.lit (.string (strOfNums (y7 p a1))), uD (kK p (kO a2)), uD (kK p (kO a3)), iD (qU p (kO a4)), uD (kK p (kO a5)), uD (kK p (kO a6)), D.sl (kX o) i]))] 5 trivial ?_
            refine zt ?_
            refine kG [.no, .no, .no] True [(2, rV 0 0), (3, iV 5)] [(0, some (31, .ds [D.lit (.int .u64 0), D.lit (.string { data := #[] }), iD 0, iD 0, iD 0, iD 0, iD 0, k9]))] 5 trivial ?_
            refine y6 (l' := [(2, rV 0 0), (3, iV 5)]) (g' := [(0, some (31, .ds [D.lit (.int .u64 0), D.lit (.string { data := #[] }), iD 0, iD 0, iD 0, iD 0, iD 0, D.sl ([] : List D) 0]))]) (NlS.cons rfl (.same _) (NlS.cons rfl (.same _) NlS.nil)) (NlG.to (bc := .ds [D.lit (.int .u64 0), D.lit (.string { data := #[] }), iD 0, iD 0, iD 0, iD 0, iD 0, k9]) rfl (NlL.cons (.same _) (NlL.cons (.same _) (NlL.cons (.same _) (NlL.cons (.same _) (NlL.cons (.same _) (NlL.cons (.same _) (NlL.cons (.same _) (NlL.cons (.nil) NlL.nil)))))))) NlG.nil) ?_
            have hz0 : qR l = 5 := (u6o hm hM hp (by omega) (by omega) (by assumption) (hrb rfl))
            obtain ⟨hzI, hzN, h91, h92, h93, h94, h95, hzB⟩ := iA (l := l) zo
            refine AW.ret ?_
            exact kB (.inr rfl) [] (P := (((yK l) : Int) = 0) ∧ ((.string (strOfNums (uX l)) : Value) = .string { data := #[] }) ∧ (((yP l) : Int) = 0) ∧ (((yO l) : Int) = 0) ∧ (((yN l) : Int) = 0) ∧ (((yM l) : Int) = 0) ∧ (((yL l) : Int) = 0) ∧ (((kX (qK l)) : List D) = ([] : List D)) ∧ (((ka1 (qK l)) : Nat) = 0) ∧ (((qR l) : Int) = 5)) zk ⟨zo, (by rw [hzN]; rfl), zo, zo, zo, zo, zo, (by (rw [hzB]; rfl)), (by (rw [hzB]; rfl)), zo⟩
          · subst hx31
            refine kG (.no :: .b true :: kJ 7 []) (((0 : Int) < (k : Int))) [(2, rV 0 0), (4, sV .u8 p M), (8, rV 1 0), (9, rV 2 0), (14, uV k), (102, bV true)] [(0, some (31, .ds [D.lit (.int .u64 0), D.lit (.string { data := #[] }), iD 0, iD 0, iD 0, iD 0, iD 0, k9])), (1, some (66, .ds [db p M, uD b, D.lit (.bool false)])), (2, some (31, .cs [.d (D.lit (.int .u64 (uW p (kO 4)))), .d (D.lit (.string (strOfNums (y7 p a1)))), uC (kK p (kO a2)), uC (kK p (kO a3)), iC (qU p (kO a4)), uC (kK p (kO a5)), uC (kK p (kO a6)), .own 4 0 i 4 true])), (4, some (53, .ds (kX o)))] 5 zo ?_
            refine u1 ?_
            refine AW.seq ?_
            refine AW.block ?_
            have hx32 : ((jbA p b false) ≤ M) := (u2q false (zo) (zo))
            have hx33 : ((kK p (kO b)) ≤ 65535) := (qY (kL : Byt p) _)
            refine aC [.no, .no, .no, .call [1] (.e (.agg [uC (kK p (kO b)), .d (dl (jyR p b false) (jyN p b false)), .d (D.sl (kW (lE p b false)) (ka1 (lE p b false))), .d (dl (xH p b false) (xG p b false))])) [(0, some (66, .ds [db p M, uD (jbA p b false), D.lit (.bool (jbB p b false))]))] 1 [] none, .no, .ap none (i + 1) (kX (o ++ ([(aQ (kK p (kO b) : Int) (jyR p b false) (jyN p b false) (lE p b false) (xH p b false) (xG p b false))] : List Bx))), .no, .no] ((_) ∧ ([uD (kK p (kO b)), dl (jyR p b false) (jyN p b false), D.sl (kW (lE p b false)) (ka1 (lE p b false)), dl (xH p b false) (xG p b false)].length = 1 * 4) ∧ (((kX o) : List D).length = i * 4) ∧ ((i + 1) * 80 ≤ 140737488355328) ∧ (i + 1 = (i + 1)) ∧ (((kX o) : List D) ++ [uD (kK p (kO b)), dl (jyR p b false) (jyN p b false), D.sl (kW (lE p b false)) (ka1 (lE p b false)), dl (xH p b false) (xG p b false)] = (kX (o ++ ([(aQ (kK p (kO b) : Int) (jyR p b false) (jyN p b false) (lE p b false) (xH p b false) (xG p b false))] : List Bx))))) [(2, rV 0 0), (4, sV .u8 p M), (8, rV 1 0), (9, rV 2 0), (14, uV k)] [(0, some (31, .ds [D.lit (.int .u64 0), D.lit (.string { data := #[] }), iD 0, iD 0, iD 0, iD 0, iD 0, k9])), (1, some (66, .ds [db p M, uD (jbA p b false), D.lit (.bool (jbB p b false))])), (2, some (31, .cs [.d (D.lit (.int .u64 (uW p (kO 4)))), .d (D.lit (.string (strOfNums (y7 p a1)))), uC (kK p (kO a2)), uC (kK p (kO a3)), iC (qU p (kO a4)), uC (kK p (kO a5)), uC (kK p (kO a6)), .own 6 0 (i + 1) 4 true])), (6, some (53, .ds (kX (o ++ ([(aQ (kK p (kO b) : Int) (jyR p b false) (jyN p b false) (lE p b false) (xH p b false) (xG p b false))] : List Bx)))))] 7 ⟨(u7d p M b false zo zo (kL : Byt p) zo), u3, u3, zo, zo, (p9 o (kK p (kO b) : Int) (jyR p b false) (jyN p b false) (lE p b false) (ka1 (lE p b false)) (xH p b false) (xG p b false) (by rfl))⟩ ?_
            refine uG [.no, .w, .no] (qB ((k : Int) - 1)) [(2, rV 0 0), (4, sV .u8 p M), (8, rV 1 0), (9, rV 2 0), (14, iV (↑k - 1))] ⟨by omega, by omega⟩ ?_
            exact qH ⟨(((k - 1) : Nat), ((i + 1) : Nat), ((jbA p b false) : Nat), ((jbB p b false) : Bool), ((o ++ ([(aQ (kK p (kO b) : Int) (jyR p b false) (jyN p b false) (lE p b false) (xH p b false) (xG p b false))] : List Bx)) : List Bx)), ⟨(ZbI.step hI zo), jG, zo, (by exact (hBo.app (BsW.one (u8t (by assumption) _ _))))⟩⟩ [(4, 6)] (P := (kQ 0) ∧ (kY (dI .u8 p)) ∧ (kQ M) ∧ (kQ 0) ∧ (kQ 0) ∧ (((((k - 1) : Nat) : Int) : Int) = ((k : Int) - 1)) ∧ (kY [D.lit (.int .u64 0), D.lit (.string { data := #[] }), iD 0, iD 0, iD 0, iD 0, iD 0, k9]) ∧ (([db p M, uD (jbA p b false), D.lit (.bool ((jbB p b false)))] : List D) = [db p M, uD (jbA p b false), D.lit (.bool (jbB p b false))]) ∧ (kM (uW p (kO 4))) ∧ ((.string (strOfNums (y7 p a1)) : Value) = .string (strOfNums (y7 p a1))) ∧ (kM (kK p (kO a2) : Int)) ∧ (kM (kK p (kO a3) : Int)) ∧ (kM (qU p (kO a4))) ∧ (kM (kK p (kO a5) : Int)) ∧ (kM (kK p (kO a6) : Int)) ∧ (kQ 0) ∧ (kQ (i + 1)) ∧ (kY (kX (o ++ ([(aQ (kK p (kO b) : Int) (jyR p b false) (jyN p b false) (lE p b false) (xH p b false) (xG p b false))] : List Bx))))) zk ⟨rfl, rfl, rfl, rfl, rfl, zo, rfl, (by rfl), rfl, rfl, rfl, rfl, rfl, rfl, rfl, rfl, rfl, rfl⟩ (show (k - 1) < k from zo)
        · refine zr [.no, .b false, .no, .no] [2, 4, 8, 9, 14, 102] [0, 1, 2, 4] (¬ ((0 : Int) < (k : Int))) [(2, rV 0 0), (4, sV .u8 p M), (8, rV 1 0), (9, rV 2 0), (14, uV k), (102, bV false)] [(0, some (31, .ds [D.lit (.int .u64 0), D.lit (.string { data := #[] }), iD 0, iD 0, iD 0, iD 0, iD 0, k9])), (1, some (66, .ds [db p M, uD b, D.lit (.bool (g))])), (2, some (31, .cs [.d (D.lit (.int .u64 (uW p (kO 4)))), .d (D.lit (.string (strOfNums (y7 p a1)))), uC (kK p (kO a2)), uC (kK p (kO a3)), iC (qU p (kO a4)), uC (kK p (kO a5)), uC (kK p (kO a6)), .own 4 0 i 4 true])), (4, some (53, .ds (kX o)))] 5 zo ?_
          refine zf ?_
          refine AW.exit ?_
          refine AW.seq ?_
          refine AW.block ?_
          rcases kb0 (g) with hx34 | hx34
          · subst hx34
            obtain ⟨e8, g8, hz2⟩ := lR hI zo
            obtain ⟨hrb, hrg⟩ := k06 e1 g1 e2 g2 e3 g3 e4 g4 e5 g5 e6 g6 e7 g7 e8 g8
            refine AW.freeze 4 (l' := [(2, rV 0 0), (4, sV .u8 p M), (8, rV 1 0), (9, rV 2 0), (14, uV k), (102, bV false)]) (g' := [(0, some (31, .ds [D.lit (.int .u64 0), D.lit (.string { data := #[] }), iD 0, iD 0, iD 0, iD 0, iD 0, k9])), (1, some (66, .ds [db p M, uD b, D.lit (.bool true)])), (2, some (31, .ds [D.lit (.int .u64 (uW p (kO 4))), D.lit (.string (strOfNums (y7 p a1))), uD (kK p (kO a2)), uD (kK p (kO a3)), iD (qU p (kO a4)), uD (kK p (kO a5)), uD (kK p (kO a6)), D.sl (kX o) i]))]) rfl (FzS.cons rfl (.same _) (FzS.cons rfl (.same _) (FzS.cons rfl (.same _) (FzS.cons rfl (.same _) (FzS.cons rfl (.same _) (FzS.cons rfl (.same _) FzS.nil)))))) (qF rfl rfl (qF rfl rfl (FzG.to (bc := .cs [.d (D.lit (.int .u64 (uW p (kO 4)))), .d (D.lit (.string (strOfNums (y7 p a1)))), uC (kK p (kO a2)), uC (kK p (kO a3)), iC (qU p (kO a4)), uC (kK p (kO a5)), uC (kK p (kO a6)), .own 4 0 i 4 true]) rfl (by rfl) (FzL.cons (.same _) (FzL.cons (.same _) (FzL.cons (.same _) (FzL.cons (.same _) (FzL.cons (.same _) (FzL.cons (.same _) (FzL.cons (.same _) (FzL.cons (@FzC.own 4 ((kX o) : List D) 0 i 4 true ((kX o) : List D) gS u3) FzL.nil)))))))) FzG.nil))) ?_
            refine kG (kJ 7 []) True [(2, rV 0 0), (9, rV 2 0), (112, bV true)] [(0, some (31, .ds [D.lit (.int .u64 0), D.lit (.string { data := #[] }), iD 0, iD 0, iD 0, iD 0, iD 0, k9])), (2, some (31, .ds [D.lit (.int .u64 (uW p (kO 4))), D.lit (.string (strOfNums (y7 p a1))), uD (kK p (kO a2)), uD (kK p (kO a3)), iD (qU p (kO a4)), uD (kK p (kO a5)), uD (kK p (kO a6)), D.sl (kX o) i]))] 5 trivial ?_
            refine zt ?_
            refine kG [.no, .no, .no] True [(2, rV 0 0), (3, iV 5)] [(0, some (31, .ds [D.lit (.int .u64 0), D.lit (.string { data := #[] }), iD 0, iD 0, iD 0, iD 0, iD 0, k9]))] 5 trivial ?_
            refine y6 (l' := [(2, rV 0 0), (3, iV 5)]) (g' := [(0, some (31, .ds [D.lit (.int .u64 0), D.lit (.string { data := #[] }), iD 0, iD 0, iD 0, iD 0, iD 0, D.sl ([] : List D) 0]))]) (NlS.cons rfl (.same _) (NlS.cons rfl (.same _) NlS.nil)) (NlG.to (bc := .ds [D.lit (.int .u64 0), D.lit (.string { data := #[] }), iD 0, iD 0, iD 0, iD 0, iD 0, k9]) rfl (NlL.cons (.same _) (NlL.cons (.same _) (NlL.cons (.same _) (NlL.cons (.same _) (NlL.cons (.same _) (NlL.cons (.same _) (NlL.cons (.same _) (NlL.cons (.nil) NlL.nil)))))))) NlG.nil) ?_
            have hz0 : qR l = 5 := (u6o hm hM hp (by omega) (by omega) (by assumption) (hrb rfl))
            obtain ⟨hzI, hzN, h91, h92, h93, h94, h95, hzB⟩ := iA (l := l) zo
            refine AW.ret ?_
            exact kB (.inr rfl) [] (P := (((yK l) : Int) = 0) ∧ ((.string (strOfNums (uX l)) : Value) = .string { data := #[] }) ∧ (((yP l) : Int) = 0) ∧ (((yO l) : Int) = 0) ∧ (((yN l) : Int) = 0) ∧ (((yM l) : Int) = 0) ∧ (((yL l) : Int) = 0) ∧ (((kX (qK l)) : List D) = ([] : List D)) ∧ (((ka1 (qK l)) : Nat) = 0) ∧ (((qR l) : Int) = 5)) zk ⟨zo, (by rw [hzN]; rfl), zo, zo, zo, zo, zo, (by (rw [hzB]; rfl)), (by (rw [hzB]; rfl)), zo⟩
          · subst hx34
            by_cases hx35 : (((b : Nat) : Int) ≠ ((M : Nat) : Int))
            · obtain ⟨e8, g8, hz2⟩ := lR hI zo
              obtain ⟨hrb, hrg⟩ := k06 e1 g1 e2 g2 e3 g3 e4 g4 e5 g5 e6 g6 e7 g7 e8 g8
              refine AW.freeze 4 (l' := [(2, rV 0 0), (4, sV .u8 p M), (8, rV 1 0), (9, rV 2 0), (14, uV k), (102, bV false)]) (g' := [(0, some (31, .ds [D.lit (.int .u64 0), D.lit (.string { data := #[] }), iD 0, iD 0, iD 0, iD 0, iD 0, k9])), (1, some (66, .ds [db p M, uD b, D.lit (.bool false)])), (2, some (31, .ds [D.lit (.int .u64 (uW p (kO 4))), D.lit (.string (strOfNums (y7 p a1))), uD (kK p (kO a2)), uD (kK p (kO a3)), iD (qU p (kO a4)), uD (kK p (kO a5)), uD (kK p (kO a6)), D.sl (kX o) i]))]) rfl (FzS.cons rfl (.same _) (FzS.cons rfl (.same _) (FzS.cons rfl (.same _) (FzS.cons rfl (.same _) (FzS.cons rfl (.same _) (FzS.cons rfl (.same _) FzS.nil)))))) (qF rfl rfl (qF rfl rfl (FzG.to (bc := .cs [.d (D.lit (.int .u64 (uW p (kO 4)))), .d (D.lit (.string (strOfNums (y7 p a1)))), uC (kK p (kO a2)), uC (kK p (kO a3)), iC (qU p (kO a4)), uC (kK p (kO a5)), uC (kK p (kO a6)), .own 4 0 i 4 true]) rfl (by rfl) (FzL.cons (.same _) (FzL.cons (.same _) (FzL.cons (.same _) (FzL.cons (.same _) (FzL.cons (.same _) (FzL.cons (.same _) (FzL.cons (.same _) (FzL.cons (@FzC.own 4 ((kX o) : List D) 0 i 4 true ((kX o) : List D) gS u3) FzL.nil)))))))) FzG.nil))) ?_
              refine kG (kJ 11 [.b true, .no, .no]) (((b : Int) ≠ (M : Int))) [(2, rV 0 0), (9, rV 2 0), (112, bV true)] [(0, some (31, .ds [D.lit (.int .u64 0), D.lit (.string { data := #[] }), iD 0, iD 0, iD 0, iD 0, iD 0, k9])), (2, some (31, .ds [D.lit (.int .u64 (uW p (kO 4))), D.lit (.string (strOfNums (y7 p a1))), uD (kK p (kO a2)), uD (kK p (kO a3)), iD (qU p (kO a4)), uD (kK p (kO a5)), uD (kK p (kO a6)), D.sl (kX o) i]))] 5 zo ?_
              refine zt ?_
              refine kG [.no, .no, .no] True [(2, rV 0 0), (3, iV 5)] [(0, some (31, .ds [D.lit (.int .u64 0), D.lit (.string { data := #[] }), iD 0, iD 0, iD 0, iD 0, iD 0, k9]))] 5 trivial ?_
              refine y6 (l' := [(2, rV 0 0), (3, iV 5)]) (g' := [(0, some (31, .ds [D.lit (.int .u64 0), D.lit (.string { data := #[] }), iD 0, iD 0, iD 0, iD 0, iD 0, D.sl ([] : List D) 0]))]) (NlS.cons rfl (.same _) (NlS.cons rfl (.same _) NlS.nil)) (NlG.to (bc := .ds [D.lit (.int .u64 0), D.lit (.string { data := #[] }), iD 0, iD 0, iD 0, iD 0, iD 0, k9]) rfl (NlL.cons (.same _) (NlL.cons (.same _) (NlL.cons (.same _) (NlL.cons (.same _) (NlL.cons (.same _) (NlL.cons (.same _) (NlL.cons (.same _) (NlL.cons (.nil) NlL.nil)))))))) NlG.nil) ?_
              have hJ := u2r (hrg rfl) hz2
              have hz0 : qR l = 5 := (u8w hm hM hp (by omega) (by omega) (by assumption) hJ (by omega))
              obtain ⟨hzI, hzN, h91, h92, h93, h94, h95, hzB⟩ := iA (l := l) zo
              refine AW.ret ?_
              exact kB (.inr rfl) [] (P := (((yK l) : Int) = 0) ∧ ((.string (strOfNums (uX l)) : Value) = .string { data := #[] }) ∧ (((yP l) : Int) = 0) ∧ (((yO l) : Int) = 0) ∧ (((yN l) : Int) = 0) ∧ (((yM l) : Int) = 0) ∧ (((yL l) : Int) = 0) ∧ (((kX (qK l)) : List D) = ([] : List D)) ∧ (((ka1 (qK l)) : Nat) = 0) ∧ (((qR l) : Int) = 5)) zk ⟨zo, (by rw [hzN]; rfl), zo, zo, zo, zo, zo, (by (rw [hzB]; rfl)), (by (rw [hzB]; rfl)), zo⟩
            · obtain ⟨e8, g8, hz2⟩ := lR hI zo
              obtain ⟨hrb, hrg⟩ := k06 e1 g1 e2 g2 e3 g3 e4 g4 e5 g5 e6 g6 e7 g7 e8 g8
              refine AW.freeze 4 (l' := [(2, rV 0 0), (4, sV .u8 p M), (8, rV 1 0), (9, rV 2 0), (14, uV k), (102, bV false)]) (g' := [(0, some (31, .ds [D.lit (.int .u64 0), D.lit (.string { data := #[] }), iD 0, iD 0, iD 0, iD 0, iD 0, k9])), (1, some (66, .ds [db p M, uD b, D.lit (.bool false)])), (2, some (31, .ds [D.lit (.int .u64 (uW p (kO 4))), D.lit (.string (strOfNums (y7 p a1))), uD (kK p (kO a2)), uD (kK p (kO a3)), iD (qU p (kO a4)), uD (kK p (kO a5)), uD (kK p (kO a6)), D.sl (kX o) i]))]) rfl (FzS.cons rfl (.same _) (FzS.cons rfl (.same _) (FzS.cons rfl (.same _) (FzS.cons rfl (.same _) (FzS.cons rfl (.same _) (FzS.cons rfl (.same _) FzS.nil)))))) (qF rfl rfl (qF rfl rfl (FzG.to (bc := .cs [.d (D.lit (.int .u64 (uW p (kO 4)))), .d (D.lit (.string (strOfNums (y7 p a1)))), uC (kK p (kO a2)), uC (kK p (kO a3)), iC (qU p (kO a4)), uC (kK p (kO a5)), uC (kK p (kO a6)), .own 4 0 i 4 true]) rfl (by rfl) (FzL.cons (.same _) (FzL.cons (.same _) (FzL.cons (.same _) (FzL.cons (.same _) (FzL.cons (.same _) (FzL.cons (.same _) (FzL.cons (.same _) (FzL.cons (@FzC.own 4 ((kX o) : List D) 0 i 4 true ((kX o) : List D) gS u3) FzL.nil)))))))) FzG.nil))) ?_
              refine kG (kJ 11 [.b false, .no, .no]) (¬ ((b : Int) ≠ (M : Int))) [(2, rV 0 0), (9, rV 2 0), (112, bV false)] [(0, some (31, .ds [D.lit (.int .u64 0), D.lit (.string { data := #[] }), iD 0, iD 0, iD 0, iD 0, iD 0, k9])), (2, some (31, .ds [D.lit (.int .u64 (uW p (kO 4))), D.lit (.string (strOfNums (y7 p a1))), uD (kK p (kO a2)), uD (kK p (kO a3)), iD (qU p (kO a4)), uD (kK p (kO a5)), uD (kK p (kO a6)), D.sl (kX o) i]))] 5 zo ?_
              refine zf ?_
              rcases kb0 (vS (y7 p a1) (((kK p (kO a2)) : Nat) : Int) (((kK p (kO a3)) : Nat) : Int) (qU p (kO a4)) (((kK p (kO a5)) : Nat) : Int) (((kK p (kO a6)) : Nat) : Int) o) with hx36 | hx36
              · refine zr [.no, .call [] (bV true) [] 0 [] none, .no, .no] [2, 9, 127] [0, 2] (Fun 15 [.agg [.d (D.lit (.int .u64 (uW p (kO 4)))), .d (D.lit (.string (strOfNums (y7 p a1)))), uC (kK p (kO a2)), uC (kK p (kO a3)), iC (qU p (kO a4)), uC (kK p (kO a5)), uC (kK p (kO a6)), .d (D.sl (kX o) i)]] (kD []) 0 (bV true) (kD []) 0) [(2, rV 0 0), (9, rV 2 0), (127, bV false)] [(0, some (31, .ds [D.lit (.int .u64 0), D.lit (.string { data := #[] }), iD 0, iD 0, iD 0, iD 0, iD 0, k9])), (2, some (31, .ds [D.lit (.int .u64 (uW p (kO 4))), D.lit (.string (strOfNums (y7 p a1))), uD (kK p (kO a2)), uD (kK p (kO a3)), iD (qU p (kO a4)), uD (kK p (kO a5)), uD (kK p (kO a6)), D.sl (kX o) i]))] 5 (by have h0 := (rJ (uW p (kO 4)) (y7 p a1) (kK p (kO a2) : Int) (kK p (kO a3) : Int) (qU p (kO a4)) (kK p (kO a5) : Int) (kK p (kO a6) : Int) o i (zJ (kL : Byt p) _) zo zo zo (kL : BsW o)); rw [hx36] at h0; exact h0) ?_
                refine uM ?_
                refine kG [.no, .no, .no] True [(2, rV 0 0), (3, iV 0)] [(0, some (31, .ds [D.lit (.int .u64 (uW p (kO 4))), D.lit (.string (strOfNums (y7 p a1))), uD (kK p (kO a2)), uD (kK p (kO a3)), iD (qU p (kO a4)), uD (kK p (kO a5)), uD (kK p (kO a6)), D.sl (kX o) i]))] 5 trivial ?_
                have hJ := u2r (hrg rfl) hz2
                obtain ⟨hz0, hzI, hzN, h91, h92, h93, h94, h95, hzB⟩ := u8u hm hM hp zo zo (by assumption) hJ zo hx36
                refine AW.ret ?_
                exact kB (.inr rfl) [] (P := (((yK l) : Int) = (uW p (kO 4))) ∧ ((.string (strOfNums (uX l)) : Value) = .string (strOfNums (y7 p a1))) ∧ (((yP l) : Int) = (kK p (kO a2) : Int)) ∧ (((yO l) : Int) = (kK p (kO a3) : Int)) ∧ (((yN l) : Int) = (qU p (kO a4))) ∧ (((yM l) : Int) = (kK p (kO a5) : Int)) ∧ (((yL l) : Int) = (kK p (kO a6) : Int)) ∧ (((kX (qK l)) : List D) = (kX o)) ∧ (((ka1 (qK l)) : Nat) = i) ∧ (((qR l) : Int) = 0)) zk ⟨zo, (congrArg (fun x9 => Value.string (strOfNums x9)) (show (uX l) = (y7 p a1) from zo)), zo, zo, zo, zo, zo, (by (rw [hzB]; done)), (by (rw [hzB]; omega)), zo⟩
              · refine zr [.no, .call [] (bV false) [] 0 [] none, .no, .no] [2, 9, 127] [0, 2] (Fun 15 [.agg [.d (D.lit (.int .u64 (uW p (kO 4)))), .d (D.lit (.string (strOfNums (y7 p a1)))), uC (kK p (kO a2)), uC (kK p (kO a3)), iC (qU p (kO a4)), uC (kK p (kO a5)), uC (kK p (kO a6)), .d (D.sl (kX o) i)]] (kD []) 0 (bV false) (kD []) 0) [(2, rV 0 0), (9, rV 2 0), (127, bV true)] [(0, some (31, .ds [D.lit (.int .u64 0), D.lit (.string { data := #[] }), iD 0, iD 0, iD 0, iD 0, iD 0, k9])), (2, some (31, .ds [D.lit (.int .u64 (uW p (kO 4))), D.lit (.string (strOfNums (y7 p a1))), uD (kK p (kO a2)), uD (kK p (kO a3)), iD (qU p (kO a4)), uD (kK p (kO a5)), uD (kK p (kO a6)), D.sl (kX o) i]))] 5 (by have h0 := (rJ (uW p (kO 4)) (y7 p a1) (kK p (kO a2) : Int) (kK p (kO a3) : Int) (qU p (kO a4)) (kK p (kO a5) : Int) (kK p (kO a6) : Int) o i (zJ (kL : Byt p) _) zo zo zo (kL : BsW o)); rw [hx36] at h0; exact h0) ?_
                refine zt ?_
                refine kG [.no, .no, .no] True [(2, rV 0 0), (3, iV 1)] [(0, some (31, .ds [D.lit (.int .u64 0), D.lit (.string { data := #[] }), iD 0, iD 0, iD 0, iD 0, iD 0, k9]))] 5 trivial ?_
                refine y6 (l' := [(2, rV 0 0), (3, iV 1)]) (g' := [(0, some (31, .ds [D.lit (.int .u64 0), D.lit (.string { data := #[] }), iD 0, iD 0, iD 0, iD 0, iD 0, D.sl ([] : List D) 0]))]) (NlS.cons rfl (.same _) (NlS.cons rfl (.same _) NlS.nil)) (NlG.to (bc := .ds [D.lit (.int .u64 0), D.lit (.string { data := #[] }), iD 0, iD 0, iD 0, iD 0, iD 0, k9]) rfl (NlL.cons (.same _) (NlL.cons (.same _) (NlL.cons (.same _) (NlL.cons (.same _) (NlL.cons (.same _) (NlL.cons (.same _) (NlL.cons (.same _) (NlL.cons (.nil) NlL.nil)))))))) NlG.nil) ?_
                have hJ := u2r (hrg rfl) hz2
                have hz0 : qR l = 1 := (u8v hm hM hp (by omega) (by omega) (by assumption) hJ (by omega) hx36)
                obtain ⟨hzI, hzN, h91, h92, h93, h94, h95, hzB⟩ := iA (l := l) zo
                refine AW.ret ?_
                exact kB (.inr rfl) [] (P := (((yK l) : Int) = 0) ∧ ((.string (strOfNums (uX l)) : Value) = .string { data := #[] }) ∧ (((yP l) : Int) = 0) ∧ (((yO l) : Int) = 0) ∧ (((yN l) : Int) = 0) ∧ (((yM l) : Int) = 0) ∧ (((yL l) : Int) = 0) ∧ (((kX (qK l)) : List D) = ([] : List D)) ∧ (((ka1 (qK l)) : Nat) = 0) ∧ (((qR l) : Int) = 1)) zk ⟨zo, (by rw [hzN]; rfl), zo, zo, zo, zo, zo, (by (rw [hzB]; rfl)), (by (rw [hzB]; rfl)), zo⟩
      · refine zr [.no, .sls 0 4 4 (dI .u8 (ka2 4 p)), .st none (ka2 4 p), .b true] [2, 4, 40] [0] ((kQ 0) ∧ (kM 4) ∧ ((0 : Nat) ≤ 4) ∧ ((4 : Nat) ≤ M) ∧ ((4 : Nat) - 0 = 4) ∧ (ka2 (4 * 1) (ka5 (0 * 1) (dI .u8 p)) = (dI .u8 (ka2 4 p))) ∧ ((dI .u8 (ka2 4 p)).length = 4 * 1) ∧ (kY (dI .u8 (ka2 4 p))) ∧ ((!(ByteArray.toList (strOfNums (ka2 4 p)) == ByteArray.toList (ByteArray.mk #[83, 78, 68, 49]))) = true)) [(2, rV 0 0), (4, sV .u8 p M), (40, bV true)] [(0, some (31, .ds [D.lit (.int .u64 0), D.lit (.string { data := #[] }), iD 0, iD 0, iD 0, iD 0, iD 0, k9]))] 1 ⟨rfl, rfl, zo, zo, zo, nQ, u3, rfl, (by rw [show (ByteArray.toList (strOfNums (ka2 4 p)) == ByteArray.toList (ByteArray.mk #[83, 78, 68, 49])) = false from (u0k (Byt.take (kL : Byt p) _) (by assumption))]; rfl)⟩ ?_
        refine zt ?_
        refine kG [.no, .no, .no] True [(2, rV 0 0), (3, iV 5)] [(0, some (31, .ds [D.lit (.int .u64 0), D.lit (.string { data := #[] }), iD 0, iD 0, iD 0, iD 0, iD 0, k9]))] 1 trivial ?_
        refine y6 (l' := [(2, rV 0 0), (3, iV 5)]) (g' := [(0, some (31, .ds [D.lit (.int .u64 0), D.lit (.string { data := #[] }), iD 0, iD 0, iD 0, iD 0, iD 0, D.sl ([] : List D) 0]))]) (NlS.cons rfl (.same _) (NlS.cons rfl (.same _) NlS.nil)) (NlG.to (bc := .ds [D.lit (.int .u64 0), D.lit (.string { data := #[] }), iD 0, iD 0, iD 0, iD 0, iD 0, k9]) rfl (NlL.cons (.same _) (NlL.cons (.same _) (NlL.cons (.same _) (NlL.cons (.same _) (NlL.cons (.same _) (NlL.cons (.same _) (NlL.cons (.same _) (NlL.cons (.nil) NlL.nil)))))))) NlG.nil) ?_
        have hz0 : qR l = 5 := (u8x hm hM hp (by omega) (by omega) (by assumption))
        obtain ⟨hzI, hzN, h91, h92, h93, h94, h95, hzB⟩ := iA (l := l) zo
        refine AW.ret ?_
        exact kB (.inr rfl) [] (P := (((yK l) : Int) = 0) ∧ ((.string (strOfNums (uX l)) : Value) = .string { data := #[] }) ∧ (((yP l) : Int) = 0) ∧ (((yO l) : Int) = 0) ∧ (((yN l) : Int) = 0) ∧ (((yM l) : Int) = 0) ∧ (((yL l) : Int) = 0) ∧ (((kX (qK l)) : List D) = ([] : List D)) ∧ (((ka1 (qK l)) : Nat) = 0) ∧ (((qR l) : Int) = 5)) zk ⟨zo, (by rw [hzN]; rfl), zo, zo, zo, zo, zo, (by (rw [hzB]; rfl)), (by (rw [hzB]; rfl)), zo⟩
end Go.Proofs.YtdbjebdomdnbkaaGreat
