/- Merged texts. -/
import Derived.Test.YtcfmjpnffembpaaGreatZU10
import Derived.Test.YtcfmjpnffembpaaGreatZL10T
namespace Go.Proofs.YtcfmjpnffembpaaGreat
open Go.ChangeShapes Go.WideShapes Go.ChangeAt Go.RowKit
set_option linter.unusedVariables false
set_option linter.unusedSimpArgs false
/-! chapter 10: what is blamed -/
theorem zP {xs ys : List Bx} {x : Int} : ∀ i, x ∈ gA xs ys i ↔ ∃ a k, a < i ∧ k < ys.length ∧ x = shE xs ys a k
  | 0 => ⟨fun h => (by cases h), fun ⟨a, _, h, _⟩ => absurd h (Nat.not_lt_zero a)⟩
  | i + 1 => by
    rw [gA, List.mem_append, zP i, List.mem_map]
    constructor
    · rintro (⟨a, k, h1, h2, h3⟩ | ⟨k, h1, h2⟩)
      · exact ⟨a, k, by omega, h2, h3⟩
      · exact ⟨i, k, by omega, List.mem_range.1 h1, h2.symm⟩
    · rintro ⟨a, k, h1, h2, h3⟩
      by_cases e : a = i
      · subst e; exact .inr ⟨k, List.mem_range.2 h2, h3.symm⟩
      · exact .inl ⟨a, k, by omega, h2, h3⟩
theorem z0 {l : List Int} {s : Int} : tM l l.length s = true ↔ ∃ x ∈ l, qH x s = s := by
  unfold tM; rw [decide_eq_true_iff]
  constructor
  · intro h
    obtain ⟨k, hk, h1⟩ := k1u h
    have h1 : stB (List.getD l k 0) s = true := h1
    rw [List.getD_eq_getElem?_getD, List.getElem?_eq_getElem hk] at h1
    exact ⟨l[k], List.getElem_mem hk, of_decide_eq_true h1⟩
  · rintro ⟨x, hx, h⟩
    obtain ⟨k, hk, rfl⟩ := List.mem_iff_getElem.1 hx
    by_cases e : 0 ≤ xQ l s l.length
    · exact e
    · have h1 := sN e k hk
      have h1 : stB (List.getD l k 0) s = false := h1
      rw [List.getD_eq_getElem?_getD, List.getElem?_eq_getElem hk] at h1
      exact absurd h (of_decide_eq_false h1)
theorem k1l (l : List Int) (v : Int) : ∀ n, n ≤ l.length → (0 ≤ qQ l v n ↔ ∃ k, k < n ∧ List.getD l k 0 = v)
  | 0, _ => ⟨fun h => absurd (show (0 : Int) ≤ -1 from h) (by decide), fun ⟨k, hk, _⟩ => absurd hk (Nat.not_lt_zero k)⟩
  | n + 1, hn => by
    have ih := k1l l v n (by omega)
    show 0 ≤ (if 0 ≤ qQ l v n then qQ l v n else if List.getD l n 0 = v then (n : Int) else -1) ↔ _
    by_cases h : 0 ≤ qQ l v n
    · rw [if_pos h]
      obtain ⟨k, hk, e⟩ := ih.1 h
      exact ⟨fun _ => ⟨k, by omega, e⟩, fun _ => h⟩
    · rw [if_neg h]
      by_cases e : List.getD l n 0 = v
      · rw [if_pos e]; exact ⟨fun _ => ⟨n, by omega, e⟩, fun _ => by omega⟩
      · rw [if_neg e]
        refine ⟨fun h9 => absurd h9 (by decide), fun ⟨k, hk, e2⟩ => absurd (ih.2 ⟨k, ?_, e2⟩) h⟩
        by_cases e3 : k = n
        · subst e3; exact absurd e2 e
        · omega
theorem k79 {l : List Int} {v : Int} : ctB l l.length v = true ↔ v ∈ l := by
  unfold ctB; rw [decide_eq_true_iff, k1l l v _ (Nat.le_refl _)]
  constructor
  · rintro ⟨k, hk, rfl⟩
    rw [List.getD_eq_getElem?_getD, List.getElem?_eq_getElem hk]; exact List.getElem_mem hk
  · intro h
    obtain ⟨k, hk, rfl⟩ := List.mem_iff_getElem.1 h
    exact ⟨k, hk, by rw [List.getD_eq_getElem?_getD, List.getElem?_eq_getElem hk]; rfl⟩
theorem n4 (l : List Int) (n : Nat) (hn : 1 ≤ n) : ∀ i : Nat, i ≤ 14 → (gD l n i = 15 ∨ (14 - (i : Int) < gD l n i ∧ gD l n i ≤ 14 ∧ tM l n (gD l n i) = false)) ∧ ∀ s : Int, 14 - (i : Int) < s → s ≤ 14 → tM l n s = false → uM (gD l n i) ≤ uM s
  | 0, _ => ⟨.inl rfl, fun s h1 h2 => by omega⟩
  | i + 1, hi => by
    obtain ⟨h1, h2⟩ := n4 l n hn i zo
    rw [gD]
    by_cases hc : 1 ≤ n ∧ tM l n (14 - (i : Int)) = false ∧ uM (14 - (i : Int)) ≤ uM (gD l n i)
    · rw [if_pos hc]
      refine ⟨.inr ⟨by omega, by omega, hc.2.1⟩, fun s h3 h4 h5 => ?_⟩
      by_cases e : s = 14 - (i : Int)
      · rw [e]; exact Int.le_refl _
      · exact Int.le_trans hc.2.2 (h2 s (by omega) h4 h5)
    · rw [if_neg hc]
      refine ⟨h1.imp id fun h => ⟨by omega, h.2⟩, fun s h3 h4 h5 => ?_⟩
      by_cases e : s = 14 - (i : Int)
      · subst e
        by_cases h6 : uM (14 - (i : Int)) ≤ uM (gD l n i)
        · exact absurd ⟨hn, h5, h6⟩ hc
        · omega
      · exact h2 s (by omega) h4 h5
/-! dimensions as bits -/
def bdC : Bool := (List.range 2).all fun p => (List.range 2).all fun q => (List.range 2).all fun r => (List.range 2).all fun s => (List.range 16).all fun d => decide (qH ((p : Int) + 2 * (q : Int) + 4 * (r : Int) + 8 * (s : Int)) (d : Int) = (d : Int)) == ((decide (qH (d : Int) 1 = 0) || decide (p = 1)) && ((decide (qH (d : Int) 2 = 0) || decide (q = 1)) && ((decide (qH (d : Int) 4 = 0) || decide (r = 1)) && (decide (qH (d : Int) 8 = 0) || decide (s = 1)))))
theorem u5o : bdC = true := by kernel_rfl
theorem u39 {p q r s d : Int} (hp : 0 ≤ p ∧ p ≤ 1) (hq : 0 ≤ q ∧ q ≤ 1) (hr : 0 ≤ r ∧ r ≤ 1) (hs : 0 ≤ s ∧ s ≤ 1) (hd : 0 ≤ d ∧ d ≤ 15) : qH (p + 2 * q + 4 * r + 8 * s) d = d ↔ (¬ qH d 1 = 0 → p = 1) ∧ (¬ qH d 2 = 0 → q = 1) ∧ (¬ qH d 4 = 0 → r = 1) ∧ (¬ qH d 8 = 0 → s = 1) := by
  obtain ⟨p, rfl⟩ : ∃ n : Nat, p = (n : Int) := ⟨p.toNat, by omega⟩
  obtain ⟨q, rfl⟩ : ∃ n : Nat, q = (n : Int) := ⟨q.toNat, by omega⟩
  obtain ⟨r, rfl⟩ : ∃ n : Nat, r = (n : Int) := ⟨r.toNat, by omega⟩
  obtain ⟨s, rfl⟩ : ∃ n : Nat, s = (n : Int) := ⟨s.toNat, by omega⟩
  obtain ⟨d, rfl⟩ : ∃ n : Nat, d = (n : Int) := ⟨d.toNat, by omega⟩
  have M := fun {n k : Nat} (h : n < k) => List.mem_range.2 h
  have h := (beq_iff_eq).1 (List.all_eq_true.1 (List.all_eq_true.1 (List.all_eq_true.1 (List.all_eq_true.1 (List.all_eq_true.1 u5o p (M (by omega))) q (M (by omega))) r (M (by omega))) s (M (by omega))) d (M (by omega)))
  refine Iff.trans decide_eq_true_iff.symm ?_
  rw [h, Bool.and_eq_true, Bool.and_eq_true, Bool.and_eq_true, Bool.or_eq_true, Bool.or_eq_true, Bool.or_eq_true, Bool.or_eq_true]
  simp only [decide_eq_true_iff]
  have e : ∀ (a : Prop) [Decidable a] (n : Nat), (a ∨ n = 1) ↔ (¬ a → (n : Int) = 1) := fun a _ n => by
    constructor
    · rintro (h | h) h2
      · exact absurd h h2
      · omega
    · intro h2
      by_cases h3 : a
      · exact .inl h3
      · exact .inr (by have := h2 h3; omega)
  rw [e, e, e, e]
theorem k45 (xs ys : List Bx) (i j : Nat) : ∃ p q r s : Int, (0 ≤ p ∧ p ≤ 1) ∧ (0 ≤ q ∧ q ≤ 1) ∧ (0 ≤ r ∧ r ≤ 1) ∧ (0 ≤ s ∧ s ≤ 1) ∧ shE xs ys i j = p + 2 * q + 4 * r + 8 * s ∧ (p = 1 ↔ (shP xs ys i j).1) ∧ (q = 1 ↔ (shP xs ys i j).2.1) ∧ (r = 1 ↔ (shP xs ys i j).2.2.1) ∧ (s = 1 ↔ (shP xs ys i j).2.2.2) := by
  have one : ∀ (a : Prop) [Decidable a] (b : Int), ∃ p : Int, (0 ≤ p ∧ p ≤ 1) ∧ (if a then 0 else b) = b * p ∧ (p = 1 ↔ ¬ a) := fun a _ b => by
    by_cases h : a
    · exact ⟨0, by omega, by rw [if_pos h]; simp, by simp [h]⟩
    · exact ⟨1, by omega, by rw [if_neg h]; simp, by simp [h]⟩
  obtain ⟨p, p1, p2, p3⟩ := one (qH (qJ xs i) (qJ ys j) = 0) 1
  obtain ⟨q, q1, q2, q3⟩ := one (uR (kB (qR xs i) (qM xs i)) (kB (qR ys j) (qM ys j)) = 0) 2
  obtain ⟨r, r1, r2, r3⟩ := one (List.length (uP (kY xs i) (kY ys j) (List.length (kY xs i))) = 0) 4
  obtain ⟨s, s1, s2, s3⟩ := one (uR (kB (qS xs i) (qN xs i)) (kB (qS ys j) (qN ys j)) = 0) 8
  refine ⟨p, q, r, s, p1, q1, r1, s1, ?_, p3, ?_, ?_, ?_⟩
  · unfold shE tI; rw [p2, q2, r2, s2]; omega
  · rw [q3]; show _ ↔ 1 ≤ uR _ _; omega
  · rw [r3]; show _ ↔ 1 ≤ List.length _; omega
  · rw [s3]; show _ ↔ 1 ≤ uR _ _; omega
theorem u3y (xs ys : List Bx) (i j : Nat) {d : Int} (hd : 0 ≤ d ∧ d ≤ 15) : qH (shE xs ys i j) d = d ↔ (¬ qH d 1 = 0 → (shP xs ys i j).1) ∧ (¬ qH d 2 = 0 → (shP xs ys i j).2.1) ∧ (¬ qH d 4 = 0 → (shP xs ys i j).2.2.1) ∧ (¬ qH d 8 = 0 → (shP xs ys i j).2.2.2) := by
  obtain ⟨p, q, r, s, p1, q1, r1, s1, e, p3, q3, r3, s3⟩ := k45 xs ys i j
  rw [e, u39 p1 q1 r1 s1 hd, p3, q3, r3, s3]
def adF : Bool := (List.range 16).all fun m => decide (qH (m : Int) 15 = (m : Int) ∧ qH (m : Int) 0 = 0) && ([1, 2, 4, 8].all fun k : Nat => decide (qH (m : Int) (k : Int) = 0) || decide (anW (m : Int) (k : Int) = (m : Int) - (k : Int) ∧ (k : Int) ≤ (m : Int) ∧ uM ((m : Int) - (k : Int)) < uM (m : Int)))
theorem u5s : adF = true := by kernel_rfl
theorem k7f {m : Int} (h : 0 ≤ m ∧ m ≤ 15) : qH m 15 = m ∧ qH m 0 = 0 := by
  obtain ⟨n, rfl⟩ : ∃ n : Nat, m = (n : Int) := ⟨m.toNat, by omega⟩
  have h1 := List.all_eq_true.1 u5s n (List.mem_range.2 (by omega))
  rw [Bool.and_eq_true] at h1
  exact of_decide_eq_true h1.1
/-! the law's parts -/
set_option linter.unusedSectionVars false
section
variable {xs bs : List Bx} (h : BsV xs) (h2 : BsV bs) (f : BsF xs) (f2 : BsF bs) (hn : xs.length ≤ 5 ∧ bs.length ≤ 5)
include h h2 f f2 hn
end
theorem u03 (a b : Int) : qH a b = qH b a := by
  show IntKind.i64.wrap (((BitVec.ofInt 64 a &&& BitVec.ofInt 64 b).toNat : Nat) : Int) = IntKind.i64.wrap (((BitVec.ofInt 64 b &&& BitVec.ofInt 64 a).toNat : Nat) : Int)
  rw [BitVec.and_comm]
end Go.Proofs.YtcfmjpnffembpaaGreat
namespace Go.Proofs.YtcfmjpnffembpaaGreat
open Go.ChangeShapes Go.WideShapes Go.ChangeAt Go.RowKit
set_option linter.unusedVariables false
set_option linter.unusedSimpArgs false
/-! chapter 10: what the reference blames is what the code blames -/
theorem u18 (a b : List Int) : 1 ≤ qD a b ↔ 1 ≤ uR a b := by
  rw [(u53 (a := a) (b := b) rfl).2]; omega
theorem u3s {xs : List Bx} (h : hY xs = true) {i : Nat} (hi : i < xs.length) : ¬ qJ xs i = 0 ∧ 1 ≤ List.length (kY xs i) ∧ 1 ≤ qM xs i ∧ 1 ≤ qN xs i := by
  have h1 := (of_decide_eq_true h).2 i hi
  obtain ⟨p1, p2, p3, p4⟩ := w6 h1
  exact ⟨p1.1, u08 p3, (k0i p2).2.2.2, (k0i p4).2.2.2⟩
theorem k1d {xs ys : List Bx} {d : Int} {i j : Nat} (hx : hY xs = true) (hi : i < xs.length) (hd : 0 ≤ d ∧ d ≤ 15) : meD xs ys d i j = 1 ↔ qH (shE xs ys i j) d = d := by
  obtain ⟨k1, k2, k3, k4⟩ := u3s hx hi
  rw [u3y xs ys i j hd]
  have e : meD xs ys d i j = 1 ↔ ¬ zK d (qJ xs i) (qH (qJ xs i) (qJ ys j)) = 0 ∧ 1 ≤ List.length (zM d 4 (kY xs i) (uP (kY xs i) (kY ys j) (List.length (kY xs i)))) ∧ 1 ≤ zN d 2 (qM xs i) (qD (kB (qR xs i) (qM xs i)) (kB (qR ys j) (qM ys j))) ∧ 1 ≤ zN d 8 (qN xs i) (qD (kB (qS xs i) (qN xs i)) (kB (qS ys j) (qN ys j))) := by
    unfold meD o5; split
    · exact ⟨fun _ => by assumption, fun _ => rfl⟩
    · exact ⟨fun e9 => (by cases e9), fun e9 => absurd e9 (by assumption)⟩
  rw [e]
  have one : ∀ {p q r : Prop} (b : Int), (qH d b = 0 → (p ↔ True)) → (¬ qH d b = 0 → (p ↔ q)) → (p ↔ (¬ qH d b = 0 → q)) := fun {p q r} b h1 h2 => by
    by_cases c : qH d b = 0
    · exact ⟨fun _ e9 => absurd c e9, fun _ => (h1 c).2 trivial⟩
    · rw [h2 c]; exact ⟨fun a _ => a, fun a => a c⟩
  have e1 : ¬ zK d (qJ xs i) (qH (qJ xs i) (qJ ys j)) = 0 ↔ (¬ qH d 1 = 0 → (shP xs ys i j).1) := one (r := True) 1 (fun c => by unfold zK; rw [if_pos c]; exact ⟨fun _ => trivial, fun _ => k1⟩) (fun c => by unfold zK; rw [if_neg c]; exact Iff.rfl)
  have e2 : 1 ≤ zN d 2 (qM xs i) (qD (kB (qR xs i) (qM xs i)) (kB (qR ys j) (qM ys j))) ↔ (¬ qH d 2 = 0 → (shP xs ys i j).2.1) := one (r := True) 2 (fun c => by unfold zN; rw [if_pos c]; exact ⟨fun _ => trivial, fun _ => k3⟩) (fun c => by unfold zN; rw [if_neg c]; exact u18 _ _)
  have e3 : 1 ≤ List.length (zM d 4 (kY xs i) (uP (kY xs i) (kY ys j) (List.length (kY xs i)))) ↔ (¬ qH d 4 = 0 → (shP xs ys i j).2.2.1) := one (r := True) 4 (fun c => by unfold zM; rw [if_pos c]; exact ⟨fun _ => trivial, fun _ => k2⟩) (fun c => by unfold zM; rw [if_neg c]; exact Iff.rfl)
  have e4 : 1 ≤ zN d 8 (qN xs i) (qD (kB (qS xs i) (qN xs i)) (kB (qS ys j) (qN ys j))) ↔ (¬ qH d 8 = 0 → (shP xs ys i j).2.2.2) := one (r := True) 8 (fun c => by unfold zN; rw [if_pos c]; exact ⟨fun _ => trivial, fun _ => k4⟩) (fun c => by unfold zN; rw [if_neg c]; exact u18 _ _)
  rw [e1, e2, e3, e4]
  exact ⟨fun ⟨a, b, c, d⟩ => ⟨a, c, b, d⟩, fun ⟨a, c, b, d⟩ => ⟨a, b, c, d⟩⟩
theorem k1e {b : Bool} {xs ys : List Bx} {d : Int} {i : Nat} : ∀ j, jP b xs ys d i j = true ↔ b = true ∨ ∃ k, k < j ∧ meD xs ys d i k = 1
  | 0 => ⟨fun h => .inl h, fun h => h.elim id fun ⟨k, hk, _⟩ => absurd hk (Nat.not_lt_zero k)⟩
  | j + 1 => by
    rw [jP, Bool.or_eq_true, k1e j, decide_eq_true_iff]
    constructor
    · rintro ((h | ⟨k, hk, h⟩) | h)
      · exact .inl h
      · exact .inr ⟨k, by omega, h⟩
      · exact .inr ⟨j, by omega, h⟩
    · rintro (h | ⟨k, hk, h⟩)
      · exact .inl (.inl h)
      · by_cases e : k = j
        · subst e; exact .inr h
        · exact .inl (.inr ⟨k, by omega, h⟩)
theorem k1f {xs ys : List Bx} {d : Int} {m : Nat} : ∀ i, fV xs ys d m i = true ↔ ∃ a k, a < i ∧ k < m ∧ meD xs ys d a k = 1
  | 0 => ⟨fun h => (by cases h), fun ⟨a, _, h, _⟩ => absurd h (Nat.not_lt_zero a)⟩
  | i + 1 => by
    rw [fV, k1e, k1f i]
    constructor
    · rintro (⟨a, k, h1, h2, h3⟩ | ⟨k, h2, h3⟩)
      · exact ⟨a, k, by omega, h2, h3⟩
      · exact ⟨i, k, by omega, h2, h3⟩
    · rintro ⟨a, k, h1, h2, h3⟩
      by_cases e : a = i
      · subst e; exact .inr ⟨k, h2, h3⟩
      · exact .inl ⟨a, k, by omega, h2, h3⟩
theorem k58 {xs ys : List Bx} {d : Int} (hx : hY xs = true) (hd : 0 ≤ d ∧ d ≤ 15) : fV xs ys d ys.length xs.length = tM (gA xs ys xs.length) (gA xs ys xs.length).length d := Bool.eq_iff_iff.2 (by
  rw [k1f, z0]
  constructor
  · rintro ⟨a, k, h1, h2, h3⟩
    exact ⟨_, (zP _).2 ⟨a, k, h1, h2, rfl⟩, (k1d hx h1 hd).1 h3⟩
  · rintro ⟨x, hm, h3⟩
    obtain ⟨a, k, h1, h2, rfl⟩ := (zP _).1 hm
    exact ⟨a, k, h1, h2, (k1d hx h1 hd).2 h3⟩)
def kyV (x : Int) : Int := uM x * 16 + x
theorem wT {p : Int → Bool} {a : Int} : ∀ (l : List Int), l.Pairwise (fun x y => kyV x < kyV y) → a ∈ l → p a = true → (∀ b ∈ l, p b = true → kyV a ≤ kyV b) → l.find? p = some a
  | [], _, h, _, _ => by cases h
  | x :: l, hs, hm, hp, hl => by
    obtain ⟨s1, s2⟩ := List.pairwise_cons.1 hs
    cases e : p x with
    | true =>
      rw [List.find?_cons_of_pos e]
      rcases List.mem_cons.1 hm with rfl | h
      · rfl
      · have h1 := s1 _ h
        have h2 := hl x (List.mem_cons_self ..) e
        omega
    | false =>
      rw [List.find?_cons_of_neg (by rw [e]; decide)]
      rcases List.mem_cons.1 hm with rfl | h
      · rw [hp] at e; cases e
      · exact wT l s2 h hp fun b hb => hl b (List.mem_cons_of_mem _ hb)
theorem u2b {s : Int} (h : 1 ≤ s ∧ s ≤ 14) : uM s ≤ 3 := by
  have : ∀ n : Fin 15, uM (n.1 : Int) ≤ 3 := by unfold uM; decide
  have := this ⟨s.toNat, by omega⟩
  rwa [show (((⟨s.toNat, by omega⟩ : Fin 15).1 : Nat) : Int) = s from by show ((s.toNat : Nat) : Int) = s; omega] at this
theorem k25 (l : List Int) (n : Nat) (hn : 1 ≤ n) : ∀ i : Nat, i ≤ 14 → ∀ s : Int, 14 - (i : Int) < s → s ≤ 14 → tM l n s = false → kyV (gD l n i) ≤ kyV s
  | 0, _ => fun s h1 h2 => by omega
  | i + 1, hi => by
    intro s h3 h4 h5
    have h1 := (n4 l n hn i (by omega)).1
    have ih := k25 l n hn i (by omega)
    rw [gD]
    by_cases hc : 1 ≤ n ∧ tM l n (14 - (i : Int)) = false ∧ uM (14 - (i : Int)) ≤ uM (gD l n i)
    · rw [if_pos hc]
      have hk : kyV (14 - (i : Int)) ≤ kyV (gD l n i) := by
        have := hc.2.2; unfold kyV; omega
      by_cases e : s = 14 - (i : Int)
      · rw [e]; exact Int.le_refl _
      · exact Int.le_trans hk (ih s (by omega) h4 h5)
    · rw [if_neg hc]
      by_cases e : s = 14 - (i : Int)
      · subst e
        have h6 : uM (gD l n i) < uM (14 - (i : Int)) := by
          by_cases h6 : uM (14 - (i : Int)) ≤ uM (gD l n i)
          · exact absurd ⟨hn, h5, h6⟩ hc
          · omega
        unfold kyV; omega
      · exact ih s (by omega) h4 h5
theorem u29 : q6.Pairwise (fun x y => kyV x < kyV y) := by unfold kyV uM; decide
theorem sA {x : Int} : x ∈ q6 ↔ 1 ≤ x ∧ x ≤ 15 := by
  constructor
  · intro h
    have : ∀ x ∈ q6, (1 : Int) ≤ x ∧ x ≤ 15 := by decide
    exact this x h
  · intro h
    have : ∀ n : Fin 16, 1 ≤ n.1 → (n.1 : Int) ∈ q6 := by decide
    have := this ⟨x.toNat, by omega⟩ (by show 1 ≤ x.toNat; omega)
    rwa [show ((⟨x.toNat, by omega⟩ : Fin 16).1 : Int) = x from by show ((x.toNat : Nat) : Int) = x; omega] at this
theorem u7a {s : Int} (h : 0 ≤ s ∧ s ≤ 15) : qH 15 s = s := by rw [u03]; exact (k7f h).1
theorem u5q {xs ys : List Bx} (hx : hY xs = true) (hn : 1 ≤ xs.length) (hm : 1 ≤ ys.length) : apI xs ys xs.length ys.length = blP (gA xs ys xs.length) := by
  have hp : 1 ≤ (gA xs ys xs.length).length := by rw [rR]; exact Nat.mul_pos hn hm
  unfold apI blP
  cases hc : ctB (gA xs ys xs.length) (gA xs ys xs.length).length 15 with
  | true =>
    rw [if_pos rfl]
    have h15 := k79.1 hc
    rw [List.find?_eq_none.2 fun d hd => by
      have hd := sA.1 hd
      rw [k58 hx (by omega), z0.2 ⟨15, h15, u7a (by omega)⟩]; decide]
    rfl
  | false =>
    rw [if_neg (by decide)]
    have h1 := (n4 (gA xs ys xs.length) _ hp 14 (Nat.le_refl _)).1
    have h2 := k25 (gA xs ys xs.length) _ hp 14 (Nat.le_refl _)
    have hu : tM (gA xs ys xs.length) (gA xs ys xs.length).length 15 = false := by
      rw [← Bool.not_eq_true, z0]
      rintro ⟨x, h3, h4⟩
      have h5 := (k7f (k0w xs ys _ x h3)).1
      rw [h5] at h4; subst h4
      rw [k79.2 h3] at hc; cases hc
    rw [wT (a := gD (gA xs ys xs.length) (gA xs ys xs.length).length 14) q6 u29 (sA.2 (by omega)) (by
      rw [k58 hx (by omega)]
      rcases h1 with h1 | h1
      · rw [h1, hu]; rfl
      · rw [h1.2.2]; rfl) (fun b hb h3 => by
      have hb := sA.1 hb
      rw [k58 hx (by omega)] at h3
      have h3 : tM (gA xs ys xs.length) (gA xs ys xs.length).length b = false := by
        revert h3; cases tM (gA xs ys xs.length) (gA xs ys xs.length).length b <;> simp
      by_cases e : b ≤ 14
      · exact h2 b (by omega) e h3
      · obtain rfl : b = 15 := by omega
        rcases h1 with h1 | h1
        · rw [h1]; exact Int.le_refl _
        · have := u2b (s := gD (gA xs ys xs.length) (gA xs ys xs.length).length 14) (by omega)
          have e15 : uM 15 = 4 := by decide
          unfold kyV; omega)]
    rfl
theorem u1l (a : List Bx) : hY (kE a) = true := by
  cases e : hY a with
  | true => rw [w7 e]; exact e
  | false => rw [k22 e]; exact u1k rfl
theorem u11 (a b : List Bx) : brV a b = eL a b := by
  unfold brV eL
  by_cases h : List.length (kE a) = 0 ∨ List.length (kE b) = 0
  · rw [if_pos h]
    have : gA (kE a) (kE b) (List.length (kE a)) = [] := List.eq_nil_of_length_eq_zero (by
      rw [rR]; rcases h with h | h <;> rw [h]
      · exact Nat.zero_mul _
      · exact Nat.mul_zero _)
    rw [this]; rfl
  · rw [if_neg h]
    exact u5q (u1l a) (by omega) (by omega)
end Go.Proofs.YtcfmjpnffembpaaGreat
