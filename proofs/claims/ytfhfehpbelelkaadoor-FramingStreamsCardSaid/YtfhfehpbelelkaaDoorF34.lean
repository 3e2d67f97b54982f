/- Frames. No statement is proved here. -/
import Derived.Test.YtfhfehpbelelkaaDoorIto
namespace Go.Proofs.YtfhfehpbelelkaaDoor
open Go.ChangeShapes Go.WideShapes Go.ChangeAt Go.RowKit
set_option linter.unusedVariables false
set_option linter.unusedSimpArgs false


/-! frames -/
structure NR where
  n : Int
  a : Nat
  e : Int
/-- the number at the beginning of bytes: its value, where its payload begins, the error; c numbers were read, n is their value -/
def nmF : List Int → Nat → Int → NR
  | [], _, _ => ⟨0, 0, 0⟩
  | c :: t, i, n => if c = 58 ∧ 0 < i then ⟨n, i + 1, 0⟩ else if c < 48 ∨ 57 < c ∨ (0 < i ∧ n = 0) then ⟨0, 0, 5⟩ else if 4096 < n * 10 + (c - 48) then ⟨0, 0, 3⟩ else nmF t (i + 1) (n * 10 + (c - 48))
def nmN (b : List Int) : Nat := (nmF b 0 0).n.toNat
def nmA (b : List Int) : Nat := (nmF b 0 0).a
def nmE (b : List Int) : Int := (nmF b 0 0).e
theorem drop_getD {l : List Int} {k : Nat} (h : k < l.length) : List.drop k l = List.getD l k 0 :: List.drop (k + 1) l := by
  rw [List.drop_eq_getElem_cons h, List.getD_eq_getElem?_getD, List.getElem?_eq_getElem h]; rfl
/-- what holds after k digits with value n -/
structure NSt (b : List Int) (k : Nat) (n : Int) : Prop where
  ev : nmF b 0 0 = nmF (List.drop k b) k n
  rng : 0 ≤ n ∧ n ≤ 4096
theorem NSt.zero (b : List Int) : NSt b 0 0 := ⟨by rw [List.drop_zero], by omega⟩
theorem NSt.cases {b : List Int} {k m : Nat} {n : Int} (hm : b.length = m) (s : NSt b k n) (hk : k ≤ m) : (m ≤ k ∧ nmN b = 0 ∧ nmA b = 0 ∧ nmE b = 0) ∨ (k < m ∧ ((List.getD b k 0 = 58 ∧ 1 ≤ k ∧ ((nmN b : Nat) : Int) = n ∧ nmA b = k + 1 ∧ nmE b = 0) ∨ (¬ (List.getD b k 0 = 58 ∧ 1 ≤ k) ∧ (((List.getD b k 0 < 48 ∨ 57 < List.getD b k 0 ∨ (1 ≤ k ∧ n = 0)) ∧ nmN b = 0 ∧ nmA b = 0 ∧ nmE b = 5) ∨ (48 ≤ List.getD b k 0 ∧ List.getD b k 0 ≤ 57 ∧ ¬ (1 ≤ k ∧ n = 0) ∧ ((4096 < n * 10 + (List.getD b k 0 - 48) ∧ nmN b = 0 ∧ nmA b = 0 ∧ nmE b = 3) ∨ n * 10 + (List.getD b k 0 - 48) ≤ 4096)))))) := by
  subst hm
  have hr := s.rng
  have e := s.ev
  by_cases h1 : k < b.length
  · right
    refine ⟨h1, ?_⟩
    rw [drop_getD h1] at e
    generalize List.getD b k 0 = c at e ⊢
    unfold nmN nmA nmE
    by_cases h2 : c = 58 ∧ 0 < k
    · have e : nmF b 0 0 = (if c = 58 ∧ 0 < k then (⟨n, k + 1, 0⟩ : NR) else _) := e
      rw [if_pos h2] at e
      left; rw [show nmF b 0 0 = ⟨n, k + 1, 0⟩ from e]
      exact ⟨h2.1, by omega, Int.toNat_of_nonneg hr.1, rfl, rfl⟩
    · have e : nmF b 0 0 = (if c = 58 ∧ 0 < k then (⟨n, k + 1, 0⟩ : NR) else if c < 48 ∨ 57 < c ∨ (0 < k ∧ n = 0) then ⟨0, 0, 5⟩ else if 4096 < n * 10 + (c - 48) then ⟨0, 0, 3⟩ else nmF (List.drop (k + 1) b) (k + 1) (n * 10 + (c - 48))) := e
      rw [if_neg h2] at e
      right
      refine ⟨by omega, ?_⟩
      by_cases h3 : c < 48 ∨ 57 < c ∨ (0 < k ∧ n = 0)
      · rw [if_pos h3] at e
        left; rw [show nmF b 0 0 = ⟨0, 0, 5⟩ from e]
        exact ⟨by omega, rfl, rfl, rfl⟩
      · rw [if_neg h3] at e
        right
        refine ⟨by omega, by omega, by omega, ?_⟩
        by_cases h4 : 4096 < n * 10 + (c - 48)
        · rw [if_pos h4] at e
          left; rw [show nmF b 0 0 = ⟨0, 0, 3⟩ from e]
          exact ⟨h4, rfl, rfl, rfl⟩
        · right; omega
  · left
    rw [List.drop_of_length_le (by omega)] at e
    unfold nmN nmA nmE
    rw [show nmF b 0 0 = ⟨0, 0, 0⟩ from e]
    exact ⟨by omega, rfl, rfl, rfl⟩
theorem NSt.step {b : List Int} {k : Nat} {n : Int} (s : NSt b k n) (h1 : k < b.length) (h2 : 48 ≤ List.getD b k 0 ∧ List.getD b k 0 ≤ 57) (h3 : ¬ (1 ≤ k ∧ n = 0)) (h4 : n * 10 + (List.getD b k 0 - 48) ≤ 4096) : NSt b (k + 1) (n * 10 + (List.getD b k 0 - 48)) := by
  have hr := s.rng
  have e := s.ev
  refine ⟨?_, by omega⟩
  rw [drop_getD h1] at e
  generalize List.getD b k 0 = c at e h2 h4 ⊢
  have e : nmF b 0 0 = (if c = 58 ∧ 0 < k then (⟨n, k + 1, 0⟩ : NR) else if c < 48 ∨ 57 < c ∨ (0 < k ∧ n = 0) then ⟨0, 0, 5⟩ else if 4096 < n * 10 + (c - 48) then ⟨0, 0, 3⟩ else nmF (List.drop (k + 1) b) (k + 1) (n * 10 + (c - 48))) := e
  rw [if_neg (by omega), if_neg (by omega), if_neg (by omega)] at e
  exact e
theorem nmF_in : ∀ (b : List Int) (k : Nat) (n : Int), 0 ≤ n ∧ n ≤ 4096 → (0 ≤ (nmF b k n).n ∧ (nmF b k n).n ≤ 4096) ∧ (nmF b k n).a ≤ k + b.length ∧ ((nmF b k n).a = 0 ∨ 2 ≤ (nmF b k n).a) ∧ (0 ≤ (nmF b k n).e ∧ (nmF b k n).e ≤ 5)
  | [], k, n, h => by unfold nmF; exact ⟨by show (0 : Int) ≤ 0 ∧ (0 : Int) ≤ 4096; omega, Nat.zero_le _, .inl rfl, by show (0 : Int) ≤ 0 ∧ (0 : Int) ≤ 5; omega⟩
  | c :: t, k, n, h => by
    unfold nmF
    split
    · exact ⟨h, by show k + 1 ≤ k + (t.length + 1); omega, .inr (by show 2 ≤ k + 1; omega), by show (0 : Int) ≤ 0 ∧ (0 : Int) ≤ 5; omega⟩
    · split
      · exact ⟨by show (0 : Int) ≤ 0 ∧ (0 : Int) ≤ 4096; omega, Nat.zero_le _, .inl rfl, by show (0 : Int) ≤ 5 ∧ (5 : Int) ≤ 5; omega⟩
      · split
        · exact ⟨by show (0 : Int) ≤ 0 ∧ (0 : Int) ≤ 4096; omega, Nat.zero_le _, .inl rfl, by show (0 : Int) ≤ 3 ∧ (3 : Int) ≤ 5; omega⟩
        · have ih := nmF_in t (k + 1) (n * 10 + (c - 48)) (by omega)
          rw [List.length_cons]
          exact ⟨ih.1, by omega, ih.2.2.1, ih.2.2.2⟩
/-- where the payload of the first frame begins, 0 if there is none; how long it is; the error -/
def frG (b : List Int) : Bool := decide (nmE b = 0 ∧ 1 ≤ nmA b ∧ nmA b + nmN b < b.length ∧ List.getD b (nmA b + nmN b) 0 = 44)
def frA (b : List Int) : Nat := if frG b then nmA b else 0
def frN (b : List Int) : Nat := if frG b then nmN b else 0
def frU (b : List Int) : Nat := if frG b then nmA b + nmN b + 1 else 0
def frE (b : List Int) : Int := if ¬ nmE b = 0 then nmE b else if nmA b = 0 ∨ b.length ≤ nmA b + nmN b then 0 else if List.getD b (nmA b + nmN b) 0 = 44 then 0 else 5
def frP (b : List Int) : List Int := List.take (frN b) (List.drop (frA b) b)
theorem fr_cases {b : List Int} {m : Nat} (hm : b.length = m) : (nmN b ≤ 4096 ∧ nmA b ≤ m ∧ (nmA b = 0 ∨ 2 ≤ nmA b) ∧ (0 ≤ nmE b ∧ nmE b ≤ 5)) ∧ ((¬ nmE b = 0 ∧ frA b = 0 ∧ frN b = 0 ∧ frU b = 0 ∧ frE b = nmE b) ∨ (nmE b = 0 ∧ ((nmA b = 0 ∧ frA b = 0 ∧ frN b = 0 ∧ frU b = 0 ∧ frE b = 0) ∨ (1 ≤ nmA b ∧ ((m ≤ nmA b + nmN b ∧ frA b = 0 ∧ frN b = 0 ∧ frU b = 0 ∧ frE b = 0) ∨ (nmA b + nmN b < m ∧ ((List.getD b (nmA b + nmN b) 0 = 44 ∧ frA b = nmA b ∧ frN b = nmN b ∧ frU b = nmA b + nmN b + 1 ∧ frE b = 0) ∨ (¬ List.getD b (nmA b + nmN b) 0 = 44 ∧ frA b = 0 ∧ frN b = 0 ∧ frU b = 0 ∧ frE b = 5)))))))) := by
  subst hm
  have hin := nmF_in b 0 0 (by omega)
  refine ⟨⟨by unfold nmN; omega, by unfold nmA; omega, hin.2.2.1, hin.2.2.2⟩, ?_⟩
  have no : frG b = false → frA b = 0 ∧ frN b = 0 ∧ frU b = 0 := fun h => by unfold frA frN frU; rw [h]; exact ⟨rfl, rfl, rfl⟩
  by_cases h1 : nmE b = 0
  · right
    refine ⟨h1, ?_⟩
    by_cases h2 : nmA b = 0
    · left
      have hq := no (decide_eq_false (by omega))
      exact ⟨h2, hq.1, hq.2.1, hq.2.2, by unfold frE; rw [if_neg (by omega), if_pos (.inl h2)]⟩
    · right
      refine ⟨by omega, ?_⟩
      by_cases h3 : nmA b + nmN b < b.length
      · right
        refine ⟨h3, ?_⟩
        by_cases h4 : List.getD b (nmA b + nmN b) 0 = 44
        · left
          have hg : frG b = true := decide_eq_true ⟨h1, by omega, h3, h4⟩
          unfold frA frN frU; rw [hg]
          exact ⟨h4, rfl, rfl, rfl, by unfold frE; rw [if_neg (by omega), if_neg (by omega), if_pos h4]⟩
        · right
          have hq := no (decide_eq_false (fun h => h4 h.2.2.2))
          exact ⟨h4, hq.1, hq.2.1, hq.2.2, by unfold frE; rw [if_neg (by omega), if_neg (by omega), if_neg h4]⟩
      · left
        have hq := no (decide_eq_false (by omega))
        exact ⟨by omega, hq.1, hq.2.1, hq.2.2, by unfold frE; rw [if_neg (by omega), if_pos (.inr (by omega))]⟩
  · left
    have hq := no (decide_eq_false (by omega))
    exact ⟨h1, hq.1, hq.2.1, hq.2.2, by unfold frE; rw [if_pos h1]⟩
theorem frP_len (b : List Int) : (frP b).length = frN b := by
  have hc := fr_cases (b := b) rfl
  unfold frP; rw [List.length_take, List.length_drop]; omega
theorem frP_byt {b : List Int} (h : Byt b) : Byt (frP b) := (h.drop _).take _
structure SR where
  rs : List (List Int)
  u : Nat
  e : Int
def spG : Nat → List Int → SR
  | 0, _ => ⟨[], 0, 0⟩
  | f + 1, b => if frA b = 0 then ⟨[], 0, frE b⟩ else ⟨frP b :: (spG f (List.drop (frU b) b)).rs, frU b + (spG f (List.drop (frU b) b)).u, (spG f (List.drop (frU b) b)).e⟩
theorem spG_nil (f : Nat) : spG f [] = ⟨[], 0, 0⟩ := by
  cases f with
  | zero => rfl
  | succ f => rfl
theorem spG_fuel : ∀ (f g : Nat) (b : List Int), b.length ≤ f → b.length ≤ g → spG f b = spG g b
  | 0, g, b, h1, _ => by
    obtain rfl : b = [] := List.length_eq_zero_iff.1 (by omega)
    rw [spG_nil, spG_nil]
  | f + 1, 0, b, _, h2 => by
    obtain rfl : b = [] := List.length_eq_zero_iff.1 (by omega)
    rw [spG_nil, spG_nil]
  | f + 1, g + 1, b, h1, h2 => by
    have hc := fr_cases (b := b) rfl
    show (if frA b = 0 then _ else _) = (if frA b = 0 then _ else _)
    by_cases h0 : frA b = 0
    · rw [if_pos h0, if_pos h0]
    · rw [if_neg h0, if_neg h0, spG_fuel f g (List.drop (frU b) b) (by rw [List.length_drop]; omega) (by rw [List.length_drop]; omega)]
theorem spG_z {b : List Int} (h : frA b = 0) {f : Nat} (hf : b.length ≤ f) : spG f b = ⟨[], 0, frE b⟩ := by
  rw [spG_fuel f (f + 1) b hf (by omega)]
  show (if frA b = 0 then _ else _) = _
  rw [if_pos h]
theorem spG_s {b : List Int} (h : ¬ frA b = 0) {f : Nat} (hf : b.length ≤ f) {r : SR} (hr : spG f (List.drop (frU b) b) = r) : spG f b = ⟨frP b :: r.rs, frU b + r.u, r.e⟩ := by
  subst hr
  rw [spG_fuel f (f + 1) b hf (by omega)]
  show (if frA b = 0 then _ else _) = _
  rw [if_neg h]
def spV (b : List Int) : SR := spG b.length b
def spRs (b : List Int) : List (List Int) := (spV b).rs
def spU (b : List Int) : Nat := (spV b).u
def spE (b : List Int) : Int := (spV b).e
structure SSt (b : List Int) (rs : List (List Int)) (u : Nat) : Prop where
  hu : u ≤ b.length
  ev : ∀ f, b.length - u ≤ f → spV b = ⟨rs ++ (spG f (List.drop u b)).rs, u + (spG f (List.drop u b)).u, (spG f (List.drop u b)).e⟩
  hb : BytL rs
theorem SSt.zero (b : List Int) : SSt b [] 0 where
  hu := Nat.zero_le _
  ev := fun f hf => by
    unfold spV
    rw [spG_fuel b.length f b (Nat.le_refl _) (by omega), List.drop_zero, Nat.zero_add]; rfl
  hb := BytL.nil
theorem SSt.step {b : List Int} {rs : List (List Int)} {u : Nat} (hb : Byt b) (s : SSt b rs u) (h : ¬ frA (List.drop u b) = 0) : SSt b (rs ++ [frP (List.drop u b)]) (u + frU (List.drop u b)) := by
  have hl : (List.drop u b).length = b.length - u := List.length_drop
  have hc := fr_cases hl
  have hu := s.hu
  refine ⟨by omega, fun f hf => ?_, s.hb.snoc (frP_byt (hb.drop u))⟩
  rw [s.ev (f + frU (List.drop u b)) (by omega), spG_s h (by omega) rfl, List.drop_drop, spG_fuel (f + frU (List.drop u b)) f _ (by rw [List.length_drop]; omega) (by rw [List.length_drop]; omega)]
  simp only [List.append_assoc, List.singleton_append, Nat.add_assoc]
theorem SSt.fin {b : List Int} {rs : List (List Int)} {u : Nat} (s : SSt b rs u) (h : frA (List.drop u b) = 0) : spRs b = rs ∧ spU b = u ∧ spE b = frE (List.drop u b) := by
  have e := s.ev (b.length - u) (Nat.le_refl _)
  rw [spG_z h (by rw [List.length_drop]; omega)] at e
  unfold spRs spU spE
  rw [e]
  exact ⟨List.append_nil _, rfl, rfl⟩
theorem spG_in : ∀ (f : Nat) (b : List Int), Byt b → (spG f b).u ≤ b.length ∧ BytL (spG f b).rs ∧ (spG f b).rs.length ≤ f ∧ (0 ≤ (spG f b).e ∧ (spG f b).e ≤ 5)
  | 0, b, _ => ⟨Nat.zero_le _, BytL.nil, Nat.le_refl _, by show (0 : Int) ≤ 0 ∧ (0 : Int) ≤ 5; omega⟩
  | f + 1, b, hb => by
    have hc := fr_cases (b := b) rfl
    unfold spG
    by_cases h0 : frA b = 0
    · rw [if_pos h0]; exact ⟨Nat.zero_le _, BytL.nil, Nat.zero_le _, by show 0 ≤ frE b ∧ frE b ≤ 5; omega⟩
    · rw [if_neg h0]
      obtain ⟨i1, i2, i3, i4⟩ := spG_in f (List.drop (frU b) b) (hb.drop _)
      rw [List.length_drop] at i1
      refine ⟨by show frU b + _ ≤ _; omega, ?_, by show (_ :: _).length ≤ _; rw [List.length_cons]; omega, i4⟩
      intro l hl
      rcases List.mem_cons.1 hl with rfl | hl
      · exact frP_byt hb
      · exact i2 l hl
theorem sp_in {b : List Int} {m : Nat} (hm : b.length = m) (hb : Byt b) : spU b ≤ m ∧ (spRs b).length ≤ m ∧ (0 ≤ spE b ∧ spE b ≤ 5) := by
  subst hm
  obtain ⟨h1, h2, h3, h4⟩ := spG_in b.length b hb
  exact ⟨h1, h3, h4⟩
theorem sp_byt {b : List Int} (hb : Byt b) : BytL (spRs b) := (spG_in b.length b hb).2.1
/-- where the next frame begins -/
def rsF : Nat → List Int → Nat → Nat
  | 0, b, _ => b.length
  | f + 1, b, k => if k < b.length then (if 1 ≤ frA (List.drop k b) then k else rsF f b (k + 1)) else b.length
def rsV (b : List Int) : Nat := rsF b.length b 1
structure RSt (b : List Int) (k : Nat) : Prop where
  ev : ∀ f, b.length - k ≤ f → rsV b = rsF f b k
theorem rsF_end {b : List Int} {k : Nat} (h : ¬ k < b.length) (f : Nat) : rsF f b k = b.length := by
  cases f with
  | zero => rfl
  | succ f => show (if _ then _ else _) = _; rw [if_neg h]
theorem rsF_fuel : ∀ (f g : Nat) (b : List Int) (k : Nat), b.length - k ≤ f → b.length - k ≤ g → rsF f b k = rsF g b k
  | 0, g, b, k, h1, _ => by rw [rsF_end (by omega), rsF_end (by omega)]
  | f + 1, 0, b, k, _, h2 => by rw [rsF_end (by omega), rsF_end (by omega)]
  | f + 1, g + 1, b, k, h1, h2 => by
    show (if k < b.length then _ else _) = (if k < b.length then _ else _)
    rw [rsF_fuel f g b (k + 1) (by omega) (by omega)]
theorem RSt.zero (b : List Int) : RSt b 1 := ⟨fun f hf => rsF_fuel _ _ _ _ (by omega) hf⟩
theorem RSt.step {b : List Int} {k : Nat} (s : RSt b k) (h : k < b.length) (h2 : ¬ 1 ≤ frA (List.drop k b)) : RSt b (k + 1) := ⟨fun f hf => by
  rw [s.ev (f + 1) (by omega)]
  show (if _ then _ else _) = _
  rw [if_pos h, if_neg h2]⟩
theorem RSt.found {b : List Int} {k : Nat} (s : RSt b k) (h : k < b.length) (h2 : 1 ≤ frA (List.drop k b)) : rsV b = k := by
  rw [s.ev (b.length - k + 1) (by omega)]
  show (if _ then _ else _) = _
  rw [if_pos h, if_pos h2]
theorem RSt.fin {b : List Int} {k : Nat} (s : RSt b k) (h : ¬ k < b.length) : rsV b = b.length := by
  rw [s.ev 0 (by omega)]; rfl
theorem rsF_in : ∀ (f : Nat) (b : List Int) (k : Nat), b.length - k ≤ f → k ≤ b.length → (k ≤ rsF f b k ∧ rsF f b k ≤ b.length) ∧ (rsF f b k < b.length → 1 ≤ frA (List.drop (rsF f b k) b)) ∧ ∀ j, k ≤ j → j < rsF f b k → frA (List.drop j b) = 0
  | 0, b, k, h, hk => by
    show (k ≤ b.length ∧ b.length ≤ b.length) ∧ (b.length < b.length → _) ∧ ∀ j, k ≤ j → j < b.length → _
    exact ⟨by omega, by omega, fun j h1 h2 => by omega⟩
  | f + 1, b, k, h, hk => by
    unfold rsF
    by_cases h1 : k < b.length
    · rw [if_pos h1]
      by_cases h2 : 1 ≤ frA (List.drop k b)
      · rw [if_pos h2]; exact ⟨by omega, fun _ => h2, fun j h3 h4 => by omega⟩
      · rw [if_neg h2]
        obtain ⟨i1, i2, i3⟩ := rsF_in f b (k + 1) (by omega) (by omega)
        refine ⟨by omega, i2, fun j h3 h4 => ?_⟩
        by_cases hj : j = k
        · subst hj; omega
        · exact i3 j (by omega) h4
    · rw [if_neg h1]; exact ⟨by omega, fun h => absurd h (by omega), fun j h3 h4 => by omega⟩
theorem rs_in {b : List Int} {m : Nat} (hm : b.length = m) : rsV b ≤ m ∧ (m = 0 ∨ (1 ≤ m ∧ 1 ≤ rsV b)) ∧ (m ≤ rsV b ∨ (rsV b < m ∧ (m = 0 ∨ 1 ≤ frA (List.drop (rsV b) b)))) := by
  subst hm
  by_cases h0 : b.length = 0
  · have e : rsV b = b.length := by unfold rsV; exact rsF_end (by omega) _
    omega
  · obtain ⟨i1, i2, i3⟩ := rsF_in b.length b 1 (by omega) (by omega)
    have e : rsV b = rsF b.length b 1 := rfl
    rw [← e] at i1 i2
    by_cases h1 : rsV b < b.length
    · have := i2 h1; omega
    · omega
theorem rs_all {b : List Int} (h : rsV b = b.length) (j : Nat) (h1 : 1 ≤ j) (h2 : j < b.length) : frA (List.drop j b) = 0 := by
  obtain ⟨i1, i2, i3⟩ := rsF_in b.length b 1 (by omega) (by omega)
  have e : rsV b = rsF b.length b 1 := rfl
  exact i3 j h1 (by omega)
/-- a frame -/
def enL (p : List Int) : List Int := dcL p.length ++ [58] ++ p ++ [44]
theorem enL_byt {p : List Int} (h : Byt p) : Byt (enL p) := (((dcL_byt _).app (Byt.cons (by omega) Byt.nil)).app h).app (Byt.cons (by omega) Byt.nil)
theorem enL_len (p : List Int) : (enL p).length = (dcL p.length).length + 2 + p.length := by unfold enL; simp only [List.length_append, List.length_cons, List.length_nil]; omega
theorem enL_len2 {p : List Int} {m : Nat} (h : p.length = m) : (enL p).length = (dcL m).length + 2 + m := by subst h; exact enL_len p
theorem nmF_d {c : Int} {t : List Int} {k : Nat} {n : Int} (h2 : 48 ≤ c ∧ c ≤ 57) (h3 : ¬ (1 ≤ k ∧ n = 0)) (h4 : n * 10 + (c - 48) ≤ 4096) : nmF (c :: t) k n = nmF t (k + 1) (n * 10 + (c - 48)) := by
  show (if c = 58 ∧ 0 < k then (⟨n, k + 1, 0⟩ : NR) else if c < 48 ∨ 57 < c ∨ (0 < k ∧ n = 0) then ⟨0, 0, 5⟩ else if 4096 < n * 10 + (c - 48) then ⟨0, 0, 3⟩ else nmF t (k + 1) (n * 10 + (c - 48))) = _
  rw [if_neg (by omega), if_neg (by omega), if_neg (by omega)]
theorem nmF_c {t : List Int} {k : Nat} {n : Int} (h : 1 ≤ k) : nmF (58 :: t) k n = ⟨n, k + 1, 0⟩ := by
  show (if (58 : Int) = 58 ∧ 0 < k then (⟨n, k + 1, 0⟩ : NR) else _) = _
  rw [if_pos ⟨rfl, by omega⟩]
theorem dcL_4 {u : Nat} (h : u ≤ 4096) : (u < 10 ∧ dcL u = [((48 + u : Nat) : Int)]) ∨ (10 ≤ u ∧ u < 100 ∧ dcL u = [((48 + u / 10 : Nat) : Int), ((48 + u % 10 : Nat) : Int)]) ∨ (100 ≤ u ∧ u < 1000 ∧ dcL u = [((48 + u / 10 / 10 : Nat) : Int), ((48 + u / 10 % 10 : Nat) : Int), ((48 + u % 10 : Nat) : Int)]) ∨ (1000 ≤ u ∧ dcL u = [((48 + u / 10 / 10 / 10 : Nat) : Int), ((48 + u / 10 / 10 % 10 : Nat) : Int), ((48 + u / 10 % 10 : Nat) : Int), ((48 + u % 10 : Nat) : Int)]) := by
  by_cases h1 : u < 10
  · exact .inl ⟨h1, dcL_s h1⟩
  by_cases h2 : u < 100
  · right; left; exact ⟨by omega, h2, by rw [dcL_b h1, dcL_s (by omega)]; rfl⟩
  by_cases h3 : u < 1000
  · right; right; left; exact ⟨by omega, h3, by rw [dcL_b h1, dcL_b (by omega), dcL_s (by omega)]; rfl⟩
  · right; right; right; exact ⟨by omega, by rw [dcL_b h1, dcL_b (by omega), dcL_b (by omega), dcL_s (by omega)]; rfl⟩
theorem nm_full {u : Nat} (h : u ≤ 4096) (t : List Int) : nmF (dcL u ++ 58 :: t) 0 0 = ⟨((u : Nat) : Int), (dcL u).length + 1, 0⟩ := by
  rcases dcL_4 h with ⟨h1, e⟩ | ⟨h1, h2, e⟩ | ⟨h1, h2, e⟩ | ⟨h1, e⟩ <;> rw [e]
  · show nmF (_ :: 58 :: t) 0 0 = _
    rw [nmF_d (by omega) (by omega) (by omega), nmF_c (by omega), NR.mk.injEq]
    exact ⟨by omega, rfl, rfl⟩
  · show nmF (_ :: _ :: 58 :: t) 0 0 = _
    rw [nmF_d (by omega) (by omega) (by omega), nmF_d (by omega) (by omega) (by omega), nmF_c (by omega), NR.mk.injEq]
    exact ⟨by omega, rfl, rfl⟩
  · show nmF (_ :: _ :: _ :: 58 :: t) 0 0 = _
    rw [nmF_d (by omega) (by omega) (by omega), nmF_d (by omega) (by omega) (by omega), nmF_d (by omega) (by omega) (by omega), nmF_c (by omega), NR.mk.injEq]
    exact ⟨by omega, rfl, rfl⟩
  · show nmF (_ :: _ :: _ :: _ :: 58 :: t) 0 0 = _
    rw [nmF_d (by omega) (by omega) (by omega), nmF_d (by omega) (by omega) (by omega), nmF_d (by omega) (by omega) (by omega), nmF_d (by omega) (by omega) (by omega), nmF_c (by omega), NR.mk.injEq]
    exact ⟨by omega, rfl, rfl⟩
theorem nm_part {u : Nat} (h : u ≤ 4096) {k : Nat} (hk : k ≤ (dcL u).length) : nmF (List.take k (dcL u)) 0 0 = ⟨0, 0, 0⟩ := by
  have z : ∀ k n, nmF [] k n = ⟨0, 0, 0⟩ := fun _ _ => rfl
  rcases dcL_4 h with ⟨h1, e⟩ | ⟨h1, h2, e⟩ | ⟨h1, h2, e⟩ | ⟨h1, e⟩ <;> rw [e] at hk ⊢
  · have hk : k ≤ 1 := hk
    rcases (by omega : k = 0 ∨ k = 1) with rfl | rfl
    · rfl
    · show nmF [_] 0 0 = _
      rw [nmF_d (by omega) (by omega) (by omega), z]
  · have hk : k ≤ 2 := hk
    rcases (by omega : k = 0 ∨ k = 1 ∨ k = 2) with rfl | rfl | rfl
    · rfl
    · show nmF [_] 0 0 = _
      rw [nmF_d (by omega) (by omega) (by omega), z]
    · show nmF [_, _] 0 0 = _
      rw [nmF_d (by omega) (by omega) (by omega), nmF_d (by omega) (by omega) (by omega), z]
  · have hk : k ≤ 3 := hk
    rcases (by omega : k = 0 ∨ k = 1 ∨ k = 2 ∨ k = 3) with rfl | rfl | rfl | rfl
    · rfl
    · show nmF [_] 0 0 = _
      rw [nmF_d (by omega) (by omega) (by omega), z]
    · show nmF [_, _] 0 0 = _
      rw [nmF_d (by omega) (by omega) (by omega), nmF_d (by omega) (by omega) (by omega), z]
    · show nmF [_, _, _] 0 0 = _
      rw [nmF_d (by omega) (by omega) (by omega), nmF_d (by omega) (by omega) (by omega), nmF_d (by omega) (by omega) (by omega), z]
  · have hk : k ≤ 4 := hk
    rcases (by omega : k = 0 ∨ k = 1 ∨ k = 2 ∨ k = 3 ∨ k = 4) with rfl | rfl | rfl | rfl | rfl
    · rfl
    · show nmF [_] 0 0 = _
      rw [nmF_d (by omega) (by omega) (by omega), z]
    · show nmF [_, _] 0 0 = _
      rw [nmF_d (by omega) (by omega) (by omega), nmF_d (by omega) (by omega) (by omega), z]
    · show nmF [_, _, _] 0 0 = _
      rw [nmF_d (by omega) (by omega) (by omega), nmF_d (by omega) (by omega) (by omega), nmF_d (by omega) (by omega) (by omega), z]
    · show nmF [_, _, _, _] 0 0 = _
      rw [nmF_d (by omega) (by omega) (by omega), nmF_d (by omega) (by omega) (by omega), nmF_d (by omega) (by omega) (by omega), nmF_d (by omega) (by omega) (by omega), z]
/-- what begins with a frame -/
theorem frame_1 {p : List Int} (hp : p.length ≤ 4096) (t : List Int) : frA (enL p ++ t) = (dcL p.length).length + 1 ∧ frP (enL p ++ t) = p ∧ frU (enL p ++ t) = (enL p).length ∧ frE (enL p ++ t) = 0 := by
  have hf : nmF (enL p ++ t) 0 0 = ⟨((p.length : Nat) : Int), (dcL p.length).length + 1, 0⟩ := by
    have e : enL p ++ t = dcL p.length ++ 58 :: (p ++ 44 :: t) := by unfold enL; simp
    rw [e]; exact nm_full hp _
  have hl : (enL p ++ t).length = (dcL p.length).length + 2 + p.length + t.length := by rw [List.length_append, enL_len]
  have hN : nmN (enL p ++ t) = p.length := by unfold nmN; rw [hf]; show ((p.length : Nat) : Int).toNat = _; omega
  have hA : nmA (enL p ++ t) = (dcL p.length).length + 1 := by unfold nmA; rw [hf]
  have hE : nmE (enL p ++ t) = 0 := by unfold nmE; rw [hf]
  have hg : List.getD (enL p ++ t) ((dcL p.length).length + 1 + p.length) 0 = 44 := by
    have e : enL p ++ t = (dcL p.length ++ [58] ++ p) ++ (44 :: t) := by unfold enL; simp
    have h9 : (dcL p.length ++ [58] ++ p).length = (dcL p.length).length + 1 + p.length := by simp only [List.length_append, List.length_cons, List.length_nil]
    rw [e, getD_app_r (by omega), h9, Nat.sub_self]; rfl
  have hc := fr_cases (b := enL p ++ t) rfl
  rw [hN, hA, hE, hg] at hc
  have h1 : frA (enL p ++ t) = (dcL p.length).length + 1 ∧ frN (enL p ++ t) = p.length ∧ frU (enL p ++ t) = (dcL p.length).length + 1 + p.length + 1 ∧ frE (enL p ++ t) = 0 := by omega
  refine ⟨h1.1, ?_, by rw [h1.2.2.1, enL_len]; omega, h1.2.2.2⟩
  unfold frP
  rw [h1.1, h1.2.1]
  have e : enL p ++ t = (dcL p.length ++ [58]) ++ (p ++ 44 :: t) := by unfold enL; simp
  rw [e, List.drop_left' (by simp), List.take_left' rfl]
/-- a frame that is cut -/
theorem frame_cut {p : List Int} (hp : p.length ≤ 4096) (t : List Int) {k : Nat} (hk : k < (enL p).length) : frA (List.take k (enL p ++ t)) = 0 ∧ frE (List.take k (enL p ++ t)) = 0 := by
  have hl := enL_len p
  have htk : (List.take k (enL p ++ t)).length = k := by rw [List.length_take, List.length_append]; omega
  have hc := fr_cases htk
  by_cases h1 : k ≤ (dcL p.length).length
  · have e : List.take k (enL p ++ t) = List.take k (dcL p.length) := by
      have e : enL p ++ t = dcL p.length ++ 58 :: (p ++ 44 :: t) := by unfold enL; simp
      rw [e, List.take_append_of_le_length h1]
    have hf := nm_part hp h1
    rw [← e] at hf
    have hA : nmA (List.take k (enL p ++ t)) = 0 := by unfold nmA; rw [hf]
    have hE : nmE (List.take k (enL p ++ t)) = 0 := by unfold nmE; rw [hf]
    omega
  · have e : List.take k (enL p ++ t) = dcL p.length ++ 58 :: List.take (k - ((dcL p.length).length + 1)) (p ++ 44 :: t) := by
      have e : enL p ++ t = (dcL p.length ++ [58]) ++ (p ++ 44 :: t) := by unfold enL; simp
      rw [e, List.take_append, List.take_of_length_le (by simp; omega)]
      simp
    have hf := nm_full hp (List.take (k - ((dcL p.length).length + 1)) (p ++ 44 :: t))
    rw [← e] at hf
    have hN : nmN (List.take k (enL p ++ t)) = p.length := by unfold nmN; rw [hf]; show ((p.length : Nat) : Int).toNat = _; omega
    have hA : nmA (List.take k (enL p ++ t)) = (dcL p.length).length + 1 := by unfold nmA; rw [hf]
    have hE : nmE (List.take k (enL p ++ t)) = 0 := by unfold nmE; rw [hf]
    rw [hN, hA, hE] at hc
    omega
/-- payloads and their frames -/
inductive SOK : List Int → List (List Int) → Prop where
  | nil : SOK [] []
  | cons {p : List Int} {b : List Int} {rs : List (List Int)} (hp : p.length ≤ 4096) (hb : Byt p) (h : SOK b rs) : SOK (enL p ++ b) (p :: rs)
theorem SOK.byt {b : List Int} {rs : List (List Int)} (h : SOK b rs) : Byt b := by
  induction h with
  | nil => exact Byt.nil
  | cons hp hb _ ih => exact (enL_byt hb).app ih
theorem SOK.bytl {b : List Int} {rs : List (List Int)} (h : SOK b rs) : BytL rs := by
  induction h with
  | nil => exact BytL.nil
  | cons hp hb _ ih =>
    intro l hl
    rcases List.mem_cons.1 hl with rfl | hl
    · exact hb
    · exact ih l hl
theorem SOK.snoc {b : List Int} {rs : List (List Int)} (h : SOK b rs) {p : List Int} (hp : p.length ≤ 4096) (hb : Byt p) : SOK (b ++ enL p) (rs ++ [p]) := by
  induction h with
  | nil => exact (by simpa using SOK.cons hp hb .nil)
  | cons hp' hb' _ ih => rw [List.append_assoc]; exact .cons hp' hb' ih
theorem SOK.ev {b : List Int} {rs : List (List Int)} (h : SOK b rs) : ∀ f, b.length ≤ f → spG f b = ⟨rs, b.length, 0⟩ := by
  induction h with
  | nil => intro f _; exact spG_nil f
  | @cons p b rs hp hb h ih =>
    intro f hf
    obtain ⟨f1, f2, f3, f4⟩ := frame_1 hp b
    rw [spG_s (by omega) hf rfl, f2, f3, List.drop_left' rfl, ih f (by rw [List.length_append] at hf; omega), List.length_append]
theorem SOK.fin {b : List Int} {rs : List (List Int)} (h : SOK b rs) : spRs b = rs ∧ spU b = b.length ∧ spE b = 0 := by
  unfold spRs spU spE spV
  rw [h.ev _ (Nat.le_refl _)]
  exact ⟨rfl, rfl, rfl⟩
theorem SOK.pre {b : List Int} {rs : List (List Int)} (h : SOK b rs) : ∀ k, k ≤ b.length → ∃ j n, j ≤ rs.length ∧ n ≤ k ∧ spG k (List.take k b) = ⟨List.take j rs, n, 0⟩ ∧ SOK (List.drop n b) (List.drop j rs) := by
  induction h with
  | nil => intro k _; exact ⟨0, 0, Nat.le_refl _, Nat.zero_le _, by rw [List.take_nil, spG_nil]; rfl, .nil⟩
  | @cons p b rs hp hb h ih =>
    intro k hk
    rw [List.length_append] at hk
    by_cases h1 : k < (enL p).length
    · obtain ⟨c1, c2⟩ := frame_cut hp b h1
      exact ⟨0, 0, Nat.zero_le _, Nat.zero_le _, by rw [spG_z c1 (by rw [List.length_take]; omega), c2]; rfl, .cons hp hb h⟩
    · obtain ⟨j, n, i1, i2, i3, i4⟩ := ih (k - (enL p).length) (by omega)
      have e : List.take k (enL p ++ b) = enL p ++ List.take (k - (enL p).length) b := by rw [List.take_append, List.take_of_length_le (by omega)]
      obtain ⟨f1, f2, f3, f4⟩ := frame_1 hp (List.take (k - (enL p).length) b)
      refine ⟨j + 1, (enL p).length + n, by rw [List.length_cons]; omega, by omega, ?_, ?_⟩
      · rw [e, spG_s (by omega) (by rw [List.length_append, List.length_take]; omega) rfl, f2, f3, List.drop_left' rfl, spG_fuel k (k - (enL p).length) _ (by rw [List.length_take]; omega) (by rw [List.length_take]; omega), i3]
        rfl
      · rw [List.drop_append, List.drop_of_length_le (by omega), List.nil_append, show (enL p).length + n - (enL p).length = n by omega]
        exact i4
theorem SOK.prefix' {b : List Int} {rs : List (List Int)} (h : SOK b rs) {k : Nat} (hk : k ≤ b.length) : ∃ j, j ≤ rs.length ∧ spU (List.take k b) ≤ k ∧ spRs (List.take k b) = List.take j rs ∧ spE (List.take k b) = 0 ∧ SOK (List.drop (spU (List.take k b)) b) (List.drop j rs) := by
  obtain ⟨j, n, i1, i2, i3, i4⟩ := h.pre k hk
  have hl : (List.take k b).length = k := by rw [List.length_take]; omega
  have e : spV (List.take k b) = ⟨List.take j rs, n, 0⟩ := by unfold spV; rw [hl]; exact i3
  unfold spU spRs spE
  rw [e]
  exact ⟨j, i1, i2, rfl, rfl, i4⟩
/-- where a frame begins something is found -/
theorem SOK.hit {raw b : List Int} {rs : List (List Int)} (h : SOK b rs) (h1 : 1 ≤ raw.length) (h2 : 1 ≤ rs.length) : rsV (raw ++ b) < (raw ++ b).length := by
  cases h with
  | nil => exact absurd h2 (by simp)
  | @cons p b rs hp hb h =>
    have hi := rs_in (b := raw ++ (enL p ++ b)) rfl
    have hl := enL_len p
    rcases Nat.lt_or_ge (rsV (raw ++ (enL p ++ b))) (raw ++ (enL p ++ b)).length with h3 | h3
    · exact h3
    · have h4 := rs_all (b := raw ++ (enL p ++ b)) (by omega) raw.length h1 (by rw [List.length_append, List.length_append]; omega)
      rw [List.drop_left' rfl] at h4
      obtain ⟨f1, _⟩ := frame_1 hp b
      omega
theorem sp_some {b : List Int} (h : 1 ≤ frA b) : 1 ≤ (spRs b).length ∧ 3 ≤ spU b := by
  have hc := fr_cases (b := b) rfl
  unfold spRs spU spV
  rw [spG_s (by omega) (Nat.le_refl _) rfl]
  exact ⟨by show 1 ≤ (_ :: _).length; rw [List.length_cons]; omega, by show 3 ≤ frU b + _; omega⟩
theorem frP_eq {l : List Int} {a n : Nat} (h1 : frA l = a) (h2 : frN l = n) : dI .u8 (frP l) = dI .u8 (List.take n (List.drop a l)) := by subst h1; subst h2; rfl
theorem frP_z {l : List Int} (h : frN l = 0) : dI .u8 (frP l) = [] := by unfold frP; rw [h]; rfl
theorem bs_fr {rs : List (List Int)} {l : List Int} {u a n : Nat} (h1 : u + frA (List.drop u l) = a) (h2 : frN (List.drop u l) = n) : bsD (rs ++ [frP (List.drop u l)]) = bsD (rs ++ [List.take n (List.drop a l)]) := by
  subst h1; subst h2; unfold frP; rw [List.drop_drop]
/-! payloads out of a deck -/
def chF (k : Nat) : Int := List.getD [48, 49, 50, 51, 58, 44, 97, 98, 10] k 0
theorem ch_fin : ∀ k : Fin 9, strAt (ByteArray.mk #[48, 49, 50, 51, 58, 44, 97, 98, 10]) ((k.val : Nat) : Int) = some (chF k.val) ∧ (0 ≤ chF k.val ∧ chF k.val ≤ 255) := by decide +kernel
theorem ch_at {k : Nat} (h : k < 9) : strAt (ByteArray.mk #[48, 49, 50, 51, 58, 44, 97, 98, 10]) ((k : Nat) : Int) = some (chF k) := (ch_fin ⟨k, h⟩).1
theorem ch_rng {k : Nat} (h : k < 9) : 0 ≤ chF k ∧ chF k ≤ 255 := (ch_fin ⟨k, h⟩).2
def rqA (l : List Int) (a : Nat) : Nat → Nat
  | 0 => a
  | k + 1 => dkA l (rqA l a k)
def rqL (l : List Int) (a : Nat) : Nat → List Int
  | 0 => []
  | k + 1 => rqL l a k ++ [chF (dkN l (rqA l a k) 9)]
theorem rqA_le {l : List Int} {a m : Nat} (hm : l.length = m) (h : a ≤ m) : ∀ k, rqA l a k ≤ m
  | 0 => h
  | k + 1 => dkA_le hm (rqA_le hm h k)
theorem rqL_len (l : List Int) (a : Nat) : ∀ k, (rqL l a k).length = k
  | 0 => rfl
  | k + 1 => by show (rqL l a k ++ [_]).length = _; rw [List.length_append, rqL_len l a k]; rfl
theorem rqL_byt (l : List Int) (a : Nat) : ∀ k, Byt (rqL l a k)
  | 0 => Byt.nil
  | k + 1 => (rqL_byt l a k).app (Byt.cons (ch_rng (by have := dkN_lt l (rqA l a k) (n := 9) (by omega); omega)) Byt.nil)
def smA (l : List Int) : Nat → Nat
  | 0 => dkA l 0
  | i + 1 => rqA l (dkA l (smA l i)) (dkN l (smA l i) 14)
def smX (l : List Int) (i : Nat) : List Int := rqL l (dkA l (smA l i)) (dkN l (smA l i) 14)
def smR (l : List Int) : Nat → List (List Int)
  | 0 => []
  | i + 1 => smR l i ++ [smX l i]
def smB (l : List Int) : Nat → List Int
  | 0 => []
  | i + 1 => smB l i ++ enL (smX l i)
theorem smA_le {l : List Int} {m : Nat} (hm : l.length = m) : ∀ i, smA l i ≤ m
  | 0 => dkA_le hm (Nat.zero_le _)
  | i + 1 => rqA_le hm (dkA_le hm (smA_le hm i)) _
theorem smX_len (l : List Int) (i : Nat) : (smX l i).length ≤ 13 := by
  unfold smX; rw [rqL_len]; have := dkN_lt l (smA l i) (n := 14) (by omega); omega
theorem smJ (l : List Int) : ∀ i, SOK (smB l i) (smR l i)
  | 0 => .nil
  | i + 1 => (smJ l i).snoc (by have := smX_len l i; omega) (rqL_byt _ _ _)
theorem smB_len (l : List Int) : ∀ i, (smB l i).length ≤ 20 * i
  | 0 => Nat.le_refl _
  | i + 1 => by
    show (smB l i ++ enL _).length ≤ _
    have h1 := smX_len l i
    have h2 := dcL_len (u := (smX l i).length) (by omega)
    rw [List.length_append, enL_len]; have := smB_len l i; omega
theorem smB_s (l : List Int) (i : Nat) : (smB l (i + 1)).length = (smB l i).length + (List.length (dcL (dkN l (smA l i) 14)) + 2 + dkN l (smA l i) 14) := by
  show (smB l i ++ enL _).length = _
  rw [List.length_append, enL_len]; unfold smX; rw [rqL_len]
theorem smR_len (l : List Int) : ∀ i, (smR l i).length = i
  | 0 => rfl
  | i + 1 => by show (smR l i ++ [_]).length = _; rw [List.length_append, smR_len l i]; rfl
theorem smR_byt (l : List Int) : ∀ i, BytL (smR l i)
  | 0 => BytL.nil
  | i + 1 => (smR_byt l i).snoc (rqL_byt _ _ _)
/-! lists of bytes compared -/
def sameB (xs ys : List (List Int)) : Bool := decide (xs = ys)
theorem sameB_rfl (xs : List (List Int)) : sameB xs xs = true := decide_eq_true rfl
theorem sameB_n {xs ys : List (List Int)} (h : ¬ xs.length = ys.length) : sameB xs ys = false := decide_eq_false (fun e => h (by rw [e]))
theorem sameB_x {xs ys : List (List Int)} {k : Nat} (h : ¬ List.getD xs k [] = List.getD ys k []) : sameB xs ys = false := decide_eq_false (fun e => h (by rw [e]))
theorem sameB_y {xs ys : List (List Int)} (h : xs.length = ys.length) (h2 : ∀ j, j < xs.length → List.getD xs j [] = List.getD ys j []) : sameB xs ys = true := decide_eq_true (by
  apply List.ext_getElem h
  intro i h3 h4
  have := h2 i h3
  rwa [List.getD_eq_getElem?_getD, List.getD_eq_getElem?_getD, List.getElem?_eq_getElem h3, List.getElem?_eq_getElem h4] at this)
theorem en_abc : enL [97, 98, 99] = [51, 58, 97, 98, 99, 44] := by
  unfold enL
  rw [show dcL (List.length ([97, 98, 99] : List Int)) = [51] from dcL_s (by decide)]; rfl

end Go.Proofs.YtfhfehpbelelkaaDoor
