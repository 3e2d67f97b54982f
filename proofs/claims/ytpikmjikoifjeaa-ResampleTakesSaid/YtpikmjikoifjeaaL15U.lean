/- Taking and finishing: one truth value, one error. No statement is proved here. -/
import Derived.Test.YtpikmjikoifjeaaL15T
namespace Go.Proofs.Ytpikmjikoifjeaa
open Go.ChangeShapes Go.WideShapes Go.ChangeAt Go.RowKit
set_option linter.unusedVariables false
set_option linter.unusedSimpArgs false


def wN (ch : Int) (l : List Int) : Nat := List.length l / Int.toNat ch
def vB (ch n d a p f : Int) (l : List Int) : Bool := phB n d a p f && okB ch l
def posB (n d a p f : Int) (k : Nat) : Bool := decide (p + mvV f (stp n a) k / (d * 65536) ≤ 1125899906842624)
def rngB (x : Int) : Bool := decide (0 ≤ x ∧ x ≤ 65536)
def ndB (ch n d a f : Int) (l : List Int) (x : Int) : Bool := decide (needV f (stp n a) (d * 65536) (Int.toNat x) ≤ ((wN ch l : Nat) : Int))
def tkB (ch n d a p f : Int) (l : List Int) (x : Int) : Bool := vB ch n d a p f l && rngB x && ndB ch n d a f l x && posB n d a p f (Int.toNat x)
def tkE (ch n d a p f : Int) (l : List Int) (x : Int) : Int := if vB ch n d a p f l = false then 1 else if rngB x = false then 2 else if ndB ch n d a f l x = false then 4 else 2
def fnB (ch n d a p f : Int) (l : List Int) (x : Int) : Bool := vB ch n d a p f l && rngB x && posB n d a p f (leftV (wN ch l) f (stp n a) (d * 65536) (Int.toNat x))
def fnE (ch n d a p f : Int) (l : List Int) (x : Int) : Int := if vB ch n d a p f l = false then 1 else 2
def cvB (ch n d a p f : Int) (l : List Int) (c2 : Int) (m : List Int) : Bool := vB ch n d a p f l && okB c2 m && decide (c2 = ch) && posB n d a p f (mkF f (stp n a) (d * 65536) ((wN ch l + wN c2 m : Nat) : Int))
def cvE (ch n d a p f : Int) (l : List Int) (c2 : Int) (m : List Int) : Int := if vB ch n d a p f l = false then 1 else if okB c2 m = false then 1 else if ¬ c2 = ch then 11 else 2
theorem wN_eq {ch W : Nat} {l : List Int} (h : BV ch W l) : wN ((ch : Nat) : Int) l = W := by
  unfold wN
  rw [h.len, Int.toNat_natCast]
  exact Nat.mul_div_cancel _ (by have := h.c1; omega)
theorem vB_of {ch n d a p f : Int} {l : List Int} (h : vB ch n d a p f l = true) : ∃ c W : Nat, ch = ((c : Nat) : Int) ∧ BV c W l ∧ PhV n d a p f := by
  unfold vB at h
  rw [Bool.and_eq_true] at h
  obtain ⟨c, W, e, hv⟩ := BV.of h.2
  exact ⟨c, W, e, hv, PhV.of h.1⟩
theorem vB_f {ch n d a p f : Int} {l : List Int} (h : ¬ vB ch n d a p f l = true) : vB ch n d a p f l = false := by simpa using h
theorem posB_f {n d a p f : Int} {k : Nat} (h : posB n d a p f k = false) : 1125899906842624 < p + mvV f (stp n a) k / (d * 65536) := by
  have := of_decide_eq_false h; omega
theorem tkB_at {n d a p f : Int} {c W : Nat} {l : List Int} {x : Int} (hv : BV c W l) (h : tkB ((c : Nat) : Int) n d a p f l x = true) : (0 ≤ x ∧ x ≤ 65536) ∧ needV f (stp n a) (d * 65536) (Int.toNat x) ≤ ((W : Nat) : Int) ∧ p + mvV f (stp n a) (Int.toNat x) / (d * 65536) ≤ 1125899906842624 := by
  unfold tkB at h
  simp only [Bool.and_eq_true] at h
  have h3 := of_decide_eq_true h.1.2
  rw [wN_eq hv] at h3
  exact ⟨of_decide_eq_true h.1.1.2, h3, of_decide_eq_true h.2⟩
theorem fnB_at {n d a p f : Int} {c W : Nat} {l : List Int} {x : Int} (hv : BV c W l) (h : fnB ((c : Nat) : Int) n d a p f l x = true) : (0 ≤ x ∧ x ≤ 65536) ∧ p + mvV f (stp n a) (leftV W f (stp n a) (d * 65536) (Int.toNat x)) / (d * 65536) ≤ 1125899906842624 := by
  unfold fnB at h
  simp only [Bool.and_eq_true] at h
  rw [wN_eq hv] at h
  exact ⟨of_decide_eq_true h.1.2, of_decide_eq_true h.2⟩
theorem vB_W {ch n d a p f : Int} {l : List Int} {q : Nat} (h : vB ch n d a p f l = true) (hq : List.length l = q) (hl : q ≤ 300) : ∃ W : Nat, BV (Int.toNat ch) W l ∧ PhV n d a p f ∧ (1 ≤ ch ∧ ch ≤ 8) ∧ W ≤ 300 := by
  obtain ⟨c, W, rfl, hv, hp⟩ := vB_of h
  have h1 := hv.c1
  have h8 := hv.c8
  have e1 := hv.len
  have e3 : W * 1 ≤ W * c := Nat.mul_le_mul_left _ hv.c1
  exact ⟨W, by rw [Int.toNat_natCast]; exact hv, hp, by omega, by omega⟩
theorem tkB_of {ch n d a p f : Int} {l : List Int} {x : Int} {q : Nat} (h : tkB ch n d a p f l x = true) (hq : List.length l = q) (hl : q ≤ 300) : ∃ W : Nat, BV (Int.toNat ch) W l ∧ PhV n d a p f ∧ (1 ≤ ch ∧ ch ≤ 8) ∧ W ≤ 300 ∧ (0 ≤ x ∧ x ≤ 65536) ∧ needV f (stp n a) (d * 65536) (Int.toNat x) ≤ ((W : Nat) : Int) ∧ p + mvV f (stp n a) (Int.toNat x) / (d * 65536) ≤ 1125899906842624 := by
  have h0 : vB ch n d a p f l = true := by unfold tkB at h; simp only [Bool.and_eq_true] at h; exact h.1.1.1
  obtain ⟨W, h1, h2, h3, h4⟩ := vB_W h0 hq hl
  rw [show ch = ((Int.toNat ch : Nat) : Int) by omega] at h
  exact ⟨W, h1, h2, h3, h4, tkB_at h1 h⟩
theorem fnB_of {ch n d a p f : Int} {l : List Int} {x : Int} {q : Nat} (h : fnB ch n d a p f l x = true) (hq : List.length l = q) (hl : q ≤ 300) : ∃ W : Nat, BV (Int.toNat ch) W l ∧ PhV n d a p f ∧ (1 ≤ ch ∧ ch ≤ 8) ∧ W ≤ 300 ∧ (0 ≤ x ∧ x ≤ 65536) ∧ p + mvV f (stp n a) (leftV W f (stp n a) (d * 65536) (Int.toNat x)) / (d * 65536) ≤ 1125899906842624 := by
  have h0 : vB ch n d a p f l = true := by unfold fnB at h; simp only [Bool.and_eq_true] at h; exact h.1.1
  obtain ⟨W, h1, h2, h3, h4⟩ := vB_W h0 hq hl
  rw [show ch = ((Int.toNat ch : Nat) : Int) by omega] at h
  exact ⟨W, h1, h2, h3, h4, fnB_at h1 h⟩
theorem cvB_m {n d a p f : Int} {c W F : Nat} {l m : List Int} {c2 : Int} (hv : BV c W l) (hw : BV c F m) (h : cvB ((c : Nat) : Int) n d a p f l c2 m = true) : p + mvV f (stp n a) (mkF f (stp n a) (d * 65536) ((W + F : Nat) : Int)) / (d * 65536) ≤ 1125899906842624 := by
  unfold cvB at h
  simp only [Bool.and_eq_true] at h
  have h2 := of_decide_eq_true h.1.2
  subst h2
  rw [wN_eq hv, wN_eq hw] at h
  exact of_decide_eq_true h.2
theorem cvB_n {n d a p f : Int} {c W z : Nat} {l m : List Int} {c2 : Int} (hv : BV c W l) (h : cvB ((c : Nat) : Int) n d a p f l c2 m = true) (hz : List.length m = z) (hzl : z ≤ 300) : ∃ F : Nat, BV c F m ∧ F ≤ 300 ∧ c2 = ((c : Nat) : Int) ∧ p + mvV f (stp n a) (mkF f (stp n a) (d * 65536) ((W + F : Nat) : Int)) / (d * 65536) ≤ 1125899906842624 := by
  have h' := h
  unfold cvB at h'
  simp only [Bool.and_eq_true] at h'
  have h2 := of_decide_eq_true h'.1.2
  obtain ⟨c9, F, e9, hw⟩ := BV.of h'.1.1.2
  obtain rfl : c = c9 := by omega
  have e2 := hw.len
  have e4 : F * 1 ≤ F * c := Nat.mul_le_mul_left _ hv.c1
  exact ⟨F, hw, by omega, h2, cvB_m hv hw h⟩
theorem cvB_of {ch n d a p f : Int} {l m : List Int} {c2 : Int} {q z : Nat} (h : cvB ch n d a p f l c2 m = true) (hq : List.length l = q) (hl : q ≤ 300) (hz : List.length m = z) (hzl : z ≤ 300) : ∃ W F : Nat, BV (Int.toNat ch) W l ∧ PhV n d a p f ∧ (1 ≤ ch ∧ ch ≤ 8) ∧ W ≤ 300 ∧ BV (Int.toNat ch) F m ∧ F ≤ 300 ∧ c2 = ch ∧ p + mvV f (stp n a) (mkF f (stp n a) (d * 65536) ((W + F : Nat) : Int)) / (d * 65536) ≤ 1125899906842624 := by
  have h0 : vB ch n d a p f l = true := by unfold cvB at h; simp only [Bool.and_eq_true] at h; exact h.1.1.1
  obtain ⟨W, h1, h2, h3, h4⟩ := vB_W h0 hq hl
  rw [show ch = ((Int.toNat ch : Nat) : Int) by omega] at h
  obtain ⟨F, g1, g2, g3, g4⟩ := cvB_n h1 h hz hzl
  exact ⟨W, F, h1, h2, h3, h4, g1, g2, by omega, g4⟩
/-- what is given, and what is there after it -/
structure TR (n d a p f : Int) (ch W : Nat) (l : List Int) (q k : Nat) (o2 : List Int) (N2 : Nat) (l2 : List Int) (r2 : Nat) (p2 f2 : Int) : Prop where
  oE : o2 = prV ch W l f (stp n a) (d * 65536) k
  nE : N2 = k * ch
  lE : l2 = List.drop (goneV W f (stp n a) (d * 65536) k * ch) l
  rE : r2 = q - goneV W f (stp n a) (d * 65536) k * ch
  pE : p2 = p + mvV f (stp n a) k / (d * 65536)
  fE : f2 = mvV f (stp n a) k % (d * 65536)
theorem TR.same {n d a p f : Int} {ch W : Nat} {l : List Int} {q k : Nat} {o2 l2 o3 l3 : List Int} {N2 r2 N3 r3 : Nat} {p2 f2 p3 f3 : Int} (h : TR n d a p f ch W l q k o2 N2 l2 r2 p2 f2) (h' : TR n d a p f ch W l q k o3 N3 l3 r3 p3 f3) : o2 = o3 ∧ N2 = N3 ∧ l2 = l3 ∧ r2 = r3 ∧ p2 = p3 ∧ f2 = f3 := by
  obtain ⟨a1, a2, a3, a4, a5, a6⟩ := h
  obtain ⟨b1, b2, b3, b4, b5, b6⟩ := h'
  exact ⟨a1.trans b1.symm, a2.trans b2.symm, a3.trans b3.symm, a4.trans b4.symm, a5.trans b5.symm, a6.trans b6.symm⟩

theorem Q_TakeErr (ch n d a p f : Int) (l : List Int) (q : Nat) (x : Int) (hq : List.length l = q) (hm : q ≤ 100000000000000) (hF : tkB ch n d a p f l x = false) : Fun 25 [.agg [iC ch, iC n, iC d, iC a, iC p, iC f, .d (D.sl (dI .i32 l) q)], iE x] (toG []) 0 (.tup [.agg [iC 0, .d (D.lit (.slice none 0 0))], .agg [iC 0, iC 0, iC 0, iC 0, iC 0, iC 0, .d (D.lit (.slice none 0 0))], iE (tkE ch n d a p f l x)]) (toG []) 0 := by
  by_cases h1 : vB ch n d a p f l = true
  · obtain ⟨c, W, rfl, hv, hp⟩ := vB_of h1
    by_cases h2 : rngB x = true
    · have h2' := of_decide_eq_true h2
      obtain ⟨k, rfl⟩ : ∃ k : Nat, x = ((k : Nat) : Int) := ⟨Int.toNat x, by omega⟩
      by_cases h3 : ndB ((c : Nat) : Int) n d a f l ((k : Nat) : Int) = true
      · have h4 : posB n d a p f k = false := by
          unfold tkB at hF
          rw [h1, h2, h3, Int.toNat_natCast] at hF
          simpa using hF
        rw [show tkE ((c : Nat) : Int) n d a p f l ((k : Nat) : Int) = 2 by unfold tkE; simp [h1, h2, h3]]
        have h3' := of_decide_eq_true h3
        rw [wN_eq hv, Int.toNat_natCast] at h3'
        exact Q_TakeE4 c W n d a p f l q k hq hv hp (by omega) h3' (posB_f h4)
      · rw [show tkE ((c : Nat) : Int) n d a p f l ((k : Nat) : Int) = 4 by unfold tkE; simp [h1, h2, h3]]
        have h3' := of_decide_eq_false (show ndB ((c : Nat) : Int) n d a f l ((k : Nat) : Int) = false by simpa using h3)
        rw [wN_eq hv, Int.toNat_natCast] at h3'
        exact Q_TakeE3 c W n d a p f l q k hq hv hp (by omega) (by omega)
    · have h2' := of_decide_eq_false (show rngB x = false by simpa using h2)
      rw [show tkE ((c : Nat) : Int) n d a p f l x = 2 by unfold tkE; simp [h1, h2]]
      exact Q_TakeE2 c W n d a p f l q x hq hv hp (by omega)
  · have h1 := vB_f h1
    rw [show tkE ch n d a p f l x = 1 by unfold tkE; simp [h1]]
    exact Q_TakeE1 ch n d a p f l q x hq hm h1

theorem Q_FinishErr (ch n d a p f : Int) (l : List Int) (q : Nat) (x : Int) (hq : List.length l = q) (hm : q ≤ 100000000000000) (hF : fnB ch n d a p f l x = false) : Fun 27 [.agg [iC ch, iC n, iC d, iC a, iC p, iC f, .d (D.sl (dI .i32 l) q)], iE x] (toG []) 0 (.tup [.agg [iC 0, .d (D.lit (.slice none 0 0))], .agg [iC 0, iC 0, iC 0, iC 0, iC 0, iC 0, .d (D.lit (.slice none 0 0))], iE (fnE ch n d a p f l x)]) (toG []) 0 := by
  by_cases h1 : vB ch n d a p f l = true
  · obtain ⟨c, W, rfl, hv, hp⟩ := vB_of h1
    rw [show fnE ((c : Nat) : Int) n d a p f l x = 2 by unfold fnE; simp [h1]]
    by_cases h2 : rngB x = true
    · have h2' := of_decide_eq_true h2
      obtain ⟨k, rfl⟩ : ∃ k : Nat, x = ((k : Nat) : Int) := ⟨Int.toNat x, by omega⟩
      have h4 : posB n d a p f (leftV W f (stp n a) (d * 65536) k) = false := by
        unfold fnB at hF
        rw [h1, h2, wN_eq hv, Int.toNat_natCast] at hF
        simpa using hF
      exact Q_FinishE4 c W n d a p f l q k hq hv hp (by omega) (posB_f h4)
    · have h2' := of_decide_eq_false (show rngB x = false by simpa using h2)
      exact Q_FinishE2 c W n d a p f l q x hq hv hp (by omega)
  · have h1 := vB_f h1
    rw [show fnE ch n d a p f l x = 1 by unfold fnE; simp [h1]]
    exact Q_FinishE1 ch n d a p f l q x hq hm h1

theorem Q_rTakeErr (ch n d a p f : Int) (l : List Int) (q : Nat) (x : Int) (hq : List.length l = q) (hm : q ≤ 100000000000000) (hF : tkB ch n d a p f l x = false) : Fun 26 [.agg [iC ch, iC n, iC d, iC a, iC p, iC f, .d (D.sl (dI .i32 l) q)], iE x] (toG []) 0 (.tup [.agg [iC 0, .d (D.lit (.slice none 0 0))], .agg [iC 0, iC 0, iC 0, iC 0, iC 0, iC 0, .d (D.lit (.slice none 0 0))], iE (tkE ch n d a p f l x)]) (toG []) 0 := by
  by_cases h1 : vB ch n d a p f l = true
  · obtain ⟨c, W, rfl, hv, hp⟩ := vB_of h1
    by_cases h2 : rngB x = true
    · have h2' := of_decide_eq_true h2
      obtain ⟨k, rfl⟩ : ∃ k : Nat, x = ((k : Nat) : Int) := ⟨Int.toNat x, by omega⟩
      by_cases h3 : ndB ((c : Nat) : Int) n d a f l ((k : Nat) : Int) = true
      · have h4 : posB n d a p f k = false := by
          unfold tkB at hF
          rw [h1, h2, h3, Int.toNat_natCast] at hF
          simpa using hF
        rw [show tkE ((c : Nat) : Int) n d a p f l ((k : Nat) : Int) = 2 by unfold tkE; simp [h1, h2, h3]]
        have h3' := of_decide_eq_true h3
        rw [wN_eq hv, Int.toNat_natCast] at h3'
        exact Q_rTakeE4 c W n d a p f l q k hq hv hp (by omega) h3' (posB_f h4)
      · rw [show tkE ((c : Nat) : Int) n d a p f l ((k : Nat) : Int) = 4 by unfold tkE; simp [h1, h2, h3]]
        have h3' := of_decide_eq_false (show ndB ((c : Nat) : Int) n d a f l ((k : Nat) : Int) = false by simpa using h3)
        rw [wN_eq hv, Int.toNat_natCast] at h3'
        exact Q_rTakeE3 c W n d a p f l q k hq hv hp (by omega) (by omega)
    · have h2' := of_decide_eq_false (show rngB x = false by simpa using h2)
      rw [show tkE ((c : Nat) : Int) n d a p f l x = 2 by unfold tkE; simp [h1, h2]]
      exact Q_rTakeE2 c W n d a p f l q x hq hv hp (by omega)
  · have h1 := vB_f h1
    rw [show tkE ch n d a p f l x = 1 by unfold tkE; simp [h1]]
    exact Q_rTakeE1 ch n d a p f l q x hq hm h1

theorem Q_rFinishErr (ch n d a p f : Int) (l : List Int) (q : Nat) (x : Int) (hq : List.length l = q) (hm : q ≤ 100000000000000) (hF : fnB ch n d a p f l x = false) : Fun 28 [.agg [iC ch, iC n, iC d, iC a, iC p, iC f, .d (D.sl (dI .i32 l) q)], iE x] (toG []) 0 (.tup [.agg [iC 0, .d (D.lit (.slice none 0 0))], .agg [iC 0, iC 0, iC 0, iC 0, iC 0, iC 0, .d (D.lit (.slice none 0 0))], iE (fnE ch n d a p f l x)]) (toG []) 0 := by
  by_cases h1 : vB ch n d a p f l = true
  · obtain ⟨c, W, rfl, hv, hp⟩ := vB_of h1
    rw [show fnE ((c : Nat) : Int) n d a p f l x = 2 by unfold fnE; simp [h1]]
    by_cases h2 : rngB x = true
    · have h2' := of_decide_eq_true h2
      obtain ⟨k, rfl⟩ : ∃ k : Nat, x = ((k : Nat) : Int) := ⟨Int.toNat x, by omega⟩
      have h4 : posB n d a p f (leftV W f (stp n a) (d * 65536) k) = false := by
        unfold fnB at hF
        rw [h1, h2, wN_eq hv, Int.toNat_natCast] at hF
        simpa using hF
      exact Q_rFinishE4 c W n d a p f l q k hq hv hp (by omega) (posB_f h4)
    · have h2' := of_decide_eq_false (show rngB x = false by simpa using h2)
      exact Q_rFinishE2 c W n d a p f l q x hq hv hp (by omega)
  · have h1 := vB_f h1
    rw [show fnE ch n d a p f l x = 1 by unfold fnE; simp [h1]]
    exact Q_rFinishE1 ch n d a p f l q x hq hm h1

theorem Q_ConvertErr (ch n d a p f : Int) (l : List Int) (q : Nat) (c2 : Int) (m : List Int) (z : Nat) (hq : List.length l = q) (hm : q ≤ 1000) (hz : List.length m = z) (hmz : z ≤ 1000) (hF : cvB ch n d a p f l c2 m = false) : Fun 30 [.agg [iC ch, iC n, iC d, iC a, iC p, iC f, .d (D.sl (dI .i32 l) q)], .agg [iC c2, .d (D.sl (dI .i32 m) z)]] (toG []) 0 (.tup [.agg [iC 0, .d (D.lit (.slice none 0 0))], .agg [iC 0, iC 0, iC 0, iC 0, iC 0, iC 0, .d (D.lit (.slice none 0 0))], iE (cvE ch n d a p f l c2 m)]) (toG []) 0 := by
  by_cases h1 : vB ch n d a p f l = true
  · by_cases h2 : okB c2 m = true
    · by_cases h3 : c2 = ch
      · subst h3
        obtain ⟨c, W, rfl, hv, hp⟩ := vB_of h1
        obtain ⟨c9, F, e9, hw⟩ := BV.of h2
        obtain rfl : c = c9 := by omega
        have h4 : posB n d a p f (mkF f (stp n a) (d * 65536) ((W + F : Nat) : Int)) = false := by
          unfold cvB at hF
          rw [h1, h2, wN_eq hv, wN_eq hw] at hF
          simpa using hF
        rw [show cvE ((c : Nat) : Int) n d a p f l ((c : Nat) : Int) m = 2 by unfold cvE; simp [h1, h2]]
        have e1 := hv.len
        have e2 := hw.len
        have e3 : W * 1 ≤ W * c := Nat.mul_le_mul_left _ hv.c1
        have e4 : F * 1 ≤ F * c := Nat.mul_le_mul_left _ hv.c1
        exact Q_ConvertE4 c W F n d a p f l q m z hq hv hp hz hw (by omega) (posB_f h4)
      · rw [show cvE ch n d a p f l c2 m = 11 by unfold cvE; simp [h1, h2, h3]]
        exact Q_ConvertE3 ch n d a p f l q c2 m z hq (by omega) hz (by omega) h1 h2 h3
    · have h2 : okB c2 m = false := by simpa using h2
      rw [show cvE ch n d a p f l c2 m = 1 by unfold cvE; simp [h1, h2]]
      exact Q_ConvertE2 ch n d a p f l q c2 m z hq (by omega) hz (by omega) h1 h2
  · have h1 := vB_f h1
    rw [show cvE ch n d a p f l c2 m = 1 by unfold cvE; simp [h1]]
    exact Q_ConvertE1 ch n d a p f l q c2 m z hq (by omega) hz (by omega) h1

theorem Q_rConvertErr (ch n d a p f : Int) (l : List Int) (q : Nat) (c2 : Int) (m : List Int) (z : Nat) (hq : List.length l = q) (hm : q ≤ 1000) (hz : List.length m = z) (hmz : z ≤ 1000) (hF : cvB ch n d a p f l c2 m = false) : Fun 31 [.agg [iC ch, iC n, iC d, iC a, iC p, iC f, .d (D.sl (dI .i32 l) q)], .agg [iC c2, .d (D.sl (dI .i32 m) z)]] (toG []) 0 (.tup [.agg [iC 0, .d (D.lit (.slice none 0 0))], .agg [iC 0, iC 0, iC 0, iC 0, iC 0, iC 0, .d (D.lit (.slice none 0 0))], iE (cvE ch n d a p f l c2 m)]) (toG []) 0 := by
  by_cases h1 : vB ch n d a p f l = true
  · by_cases h2 : okB c2 m = true
    · by_cases h3 : c2 = ch
      · subst h3
        obtain ⟨c, W, rfl, hv, hp⟩ := vB_of h1
        obtain ⟨c9, F, e9, hw⟩ := BV.of h2
        obtain rfl : c = c9 := by omega
        have h4 : posB n d a p f (mkF f (stp n a) (d * 65536) ((W + F : Nat) : Int)) = false := by
          unfold cvB at hF
          rw [h1, h2, wN_eq hv, wN_eq hw] at hF
          simpa using hF
        rw [show cvE ((c : Nat) : Int) n d a p f l ((c : Nat) : Int) m = 2 by unfold cvE; simp [h1, h2]]
        have e1 := hv.len
        have e2 := hw.len
        have e3 : W * 1 ≤ W * c := Nat.mul_le_mul_left _ hv.c1
        have e4 : F * 1 ≤ F * c := Nat.mul_le_mul_left _ hv.c1
        exact Q_rConvertE4 c W F n d a p f l q m z hq hv hp hz hw (by omega) (posB_f h4)
      · rw [show cvE ch n d a p f l c2 m = 11 by unfold cvE; simp [h1, h2, h3]]
        exact Q_rConvertE3 ch n d a p f l q c2 m z hq (by omega) hz (by omega) h1 h2 h3
    · have h2 : okB c2 m = false := by simpa using h2
      rw [show cvE ch n d a p f l c2 m = 1 by unfold cvE; simp [h1, h2]]
      exact Q_rConvertE2 ch n d a p f l q c2 m z hq (by omega) hz (by omega) h1 h2
  · have h1 := vB_f h1
    rw [show cvE ch n d a p f l c2 m = 1 by unfold cvE; simp [h1]]
    exact Q_rConvertE1 ch n d a p f l q c2 m z hq (by omega) hz (by omega) h1

theorem X_Take (ch W : Nat) (n d a p f : Int) (l : List Int) (q k : Nat) (hq : List.length l = q) (hv : BV ch W l) (hp : PhV n d a p f) (hk : k ≤ 65536) (hnd : needV f (stp n a) (d * 65536) k ≤ (W : Int)) (hb : p + (mvV f (stp n a) k / (d * 65536)) ≤ 1125899906842624) : ∃ (o2 : List Int) (N2 : Nat) (l2 : List Int) (r2 : Nat) (p2 : Int) (f2 : Int), (List.length o2 = N2) ∧ (N2 ≤ 524288) ∧ (List.length l2 = r2) ∧ (r2 ≤ 1048576) ∧ (TR n d a p f ch W l q k o2 N2 l2 r2 p2 f2) ∧ (Fun 25 [.agg [iC ((ch : Nat) : Int), iC n, iC d, iC a, iC p, iC f, .d (D.sl (dI .i32 l) q)], iE ((k : Nat) : Int)] (toG []) 0 (.tup [.agg [iC ((ch : Nat) : Int), .own 0 0 N2 1 true], .agg [iC ((ch : Nat) : Int), iC n, iC d, iC a, iC p2, iC f2, .own 1 0 r2 1 true], iE 0]) (toG [(0, some (21, .ds (dI .i32 o2))), (1, some (21, .ds (dI .i32 l2)))]) 2) := ⟨(prV ch W l f (stp n a) (d * 65536) k), (k * ch), (List.drop ((goneV W f (stp n a) (d * 65536) k) * ch) l), (q - ((goneV W f (stp n a) (d * 65536) k) * ch)), (p + ((mvV f (stp n a) k) / (d * 65536))), ((mvV f (stp n a) k) % (d * 65536)), prV_len _ _ _ _ _ _ _, Nat.le_trans (Nat.mul_le_mul hk hv.c8) (by decide), (by rw [List.length_drop, hq]), (by have h9 := hv.big; have h8 := hv.len; omega), ⟨rfl, rfl, rfl, rfl, rfl, rfl⟩, Q_Take ch W n d a p f l q k hq hv hp hk hnd hb⟩

theorem X_Finish (ch W : Nat) (n d a p f : Int) (l : List Int) (q k : Nat) (hq : List.length l = q) (hv : BV ch W l) (hp : PhV n d a p f) (hk : k ≤ 65536) (hb : p + (mvV f (stp n a) (leftV W f (stp n a) (d * 65536) k) / (d * 65536)) ≤ 1125899906842624) : ∃ (o2 : List Int) (N2 : Nat) (l2 : List Int) (r2 : Nat) (p2 : Int) (f2 : Int), (List.length o2 = N2) ∧ (N2 ≤ 524288) ∧ (List.length l2 = r2) ∧ (r2 ≤ 1048576) ∧ (TR n d a p f ch W l q (leftV W f (stp n a) (d * 65536) k) o2 N2 l2 r2 p2 f2) ∧ (Fun 27 [.agg [iC ((ch : Nat) : Int), iC n, iC d, iC a, iC p, iC f, .d (D.sl (dI .i32 l) q)], iE ((k : Nat) : Int)] (toG []) 0 (.tup [.agg [iC ((ch : Nat) : Int), .own 0 0 N2 1 true], .agg [iC ((ch : Nat) : Int), iC n, iC d, iC a, iC p2, iC f2, .own 1 0 r2 1 true], iE 0]) (toG [(0, some (21, .ds (dI .i32 o2))), (1, some (21, .ds (dI .i32 l2)))]) 2) := ⟨(prV ch W l f (stp n a) (d * 65536) (leftV W f (stp n a) (d * 65536) k)), ((leftV W f (stp n a) (d * 65536) k) * ch), (List.drop ((goneV W f (stp n a) (d * 65536) (leftV W f (stp n a) (d * 65536) k)) * ch) l), (q - ((goneV W f (stp n a) (d * 65536) (leftV W f (stp n a) (d * 65536) k)) * ch)), (p + ((mvV f (stp n a) (leftV W f (stp n a) (d * 65536) k)) / (d * 65536))), ((mvV f (stp n a) (leftV W f (stp n a) (d * 65536) k)) % (d * 65536)), prV_len _ _ _ _ _ _ _, Nat.le_trans (Nat.mul_le_mul (Nat.le_trans (leftV_le hp.b.2.2.2.2.1).1 hk) hv.c8) (by decide), (by rw [List.length_drop, hq]), (by have h9 := hv.big; have h8 := hv.len; omega), ⟨rfl, rfl, rfl, rfl, rfl, rfl⟩, Q_Finish ch W n d a p f l q k hq hv hp hk hb⟩

theorem X_Cv (ch W F : Nat) (n d a p f : Int) (l : List Int) (q : Nat) (m : List Int) (z : Nat) (hq : List.length l = q) (hv : BV ch W l) (hp : PhV n d a p f) (hz : List.length m = z) (hw : BV ch F m) (hWF : W + F ≤ 65536) (hb : p + (mvV f (stp n a) (mkF f (stp n a) (d * 65536) ((W + F : Nat) : Int)) / (d * 65536)) ≤ 1125899906842624) : ∃ (o2 : List Int) (N2 : Nat) (l2 : List Int) (r2 : Nat) (p2 : Int) (f2 : Int), (List.length o2 = N2) ∧ (N2 ≤ 524288) ∧ (List.length l2 = r2) ∧ (r2 ≤ 1048576) ∧ (TR n d a p f ch (W + F) (l ++ m) (q + z) (mkF f (stp n a) (d * 65536) ((W + F : Nat) : Int)) o2 N2 l2 r2 p2 f2) ∧ (Fun 30 [.agg [iC ((ch : Nat) : Int), iC n, iC d, iC a, iC p, iC f, .d (D.sl (dI .i32 l) q)], .agg [iC ((ch : Nat) : Int), .d (D.sl (dI .i32 m) z)]] (toG []) 0 (.tup [.agg [iC ((ch : Nat) : Int), .own 0 0 N2 1 true], .agg [iC ((ch : Nat) : Int), iC n, iC d, iC a, iC p2, iC f2, .own 1 0 r2 1 true], iE 0]) (toG [(0, some (21, .ds (dI .i32 o2))), (1, some (21, .ds (dI .i32 l2)))]) 2) := ⟨(prV ch (W + F) (l ++ m) f (stp n a) (d * 65536) (mkF f (stp n a) (d * 65536) (((W + F) : Nat) : Int))), ((mkF f (stp n a) (d * 65536) (((W + F) : Nat) : Int)) * ch), (List.drop ((goneV (W + F) f (stp n a) (d * 65536) (mkF f (stp n a) (d * 65536) (((W + F) : Nat) : Int))) * ch) (l ++ m)), ((q + z) - ((goneV (W + F) f (stp n a) (d * 65536) (mkF f (stp n a) (d * 65536) (((W + F) : Nat) : Int))) * ch)), (p + ((mvV f (stp n a) (mkF f (stp n a) (d * 65536) (((W + F) : Nat) : Int))) / (d * 65536))), ((mvV f (stp n a) (mkF f (stp n a) (d * 65536) (((W + F) : Nat) : Int))) % (d * 65536)), prV_len _ _ _ _ _ _ _, Nat.le_trans (Nat.mul_le_mul (mkF_need (by omega)).2 hv.c8) (by decide), (by rw [List.length_drop, List.length_append, hq, hz]), (by have h9 := hv.big; have h8 := hv.len; have h7 := hw.big; have h6 := hw.len; omega), ⟨rfl, rfl, rfl, rfl, rfl, rfl⟩, Q_Convert ch W F n d a p f l q m z hq hv hp hz hw hWF hb⟩

theorem X_rTake (ch W : Nat) (n d a p f : Int) (l : List Int) (q k : Nat) (hq : List.length l = q) (hv : BV ch W l) (hp : PhV n d a p f) (hk : k ≤ 65536) (hnd : needV f (stp n a) (d * 65536) k ≤ (W : Int)) (hb : p + (mvV f (stp n a) k / (d * 65536)) ≤ 1125899906842624) : ∃ (o2 : List Int) (N2 : Nat) (l2 : List Int) (r2 : Nat) (p2 : Int) (f2 : Int), (List.length o2 = N2) ∧ (N2 ≤ 524288) ∧ (List.length l2 = r2) ∧ (r2 ≤ 1048576) ∧ (TR n d a p f ch W l q k o2 N2 l2 r2 p2 f2) ∧ (Fun 26 [.agg [iC ((ch : Nat) : Int), iC n, iC d, iC a, iC p, iC f, .d (D.sl (dI .i32 l) q)], iE ((k : Nat) : Int)] (toG []) 0 (.tup [.agg [iC ((ch : Nat) : Int), .own 0 0 N2 1 true], .agg [iC ((ch : Nat) : Int), iC n, iC d, iC a, iC p2, iC f2, .own 1 0 r2 1 true], iE 0]) (toG [(0, some (21, .ds (dI .i32 o2))), (1, some (21, .ds (dI .i32 l2)))]) 2) := ⟨(prV ch W l f (stp n a) (d * 65536) k), (k * ch), (List.drop ((goneV W f (stp n a) (d * 65536) k) * ch) l), (q - ((goneV W f (stp n a) (d * 65536) k) * ch)), (p + ((mvV f (stp n a) k) / (d * 65536))), ((mvV f (stp n a) k) % (d * 65536)), prV_len _ _ _ _ _ _ _, Nat.le_trans (Nat.mul_le_mul hk hv.c8) (by decide), (by rw [List.length_drop, hq]), (by have h9 := hv.big; have h8 := hv.len; omega), ⟨rfl, rfl, rfl, rfl, rfl, rfl⟩, Q_rTake ch W n d a p f l q k hq hv hp hk hnd hb⟩

theorem X_rFinish (ch W : Nat) (n d a p f : Int) (l : List Int) (q k : Nat) (hq : List.length l = q) (hv : BV ch W l) (hp : PhV n d a p f) (hk : k ≤ 65536) (hb : p + (mvV f (stp n a) (leftV W f (stp n a) (d * 65536) k) / (d * 65536)) ≤ 1125899906842624) : ∃ (o2 : List Int) (N2 : Nat) (l2 : List Int) (r2 : Nat) (p2 : Int) (f2 : Int), (List.length o2 = N2) ∧ (N2 ≤ 524288) ∧ (List.length l2 = r2) ∧ (r2 ≤ 1048576) ∧ (TR n d a p f ch W l q (leftV W f (stp n a) (d * 65536) k) o2 N2 l2 r2 p2 f2) ∧ (Fun 28 [.agg [iC ((ch : Nat) : Int), iC n, iC d, iC a, iC p, iC f, .d (D.sl (dI .i32 l) q)], iE ((k : Nat) : Int)] (toG []) 0 (.tup [.agg [iC ((ch : Nat) : Int), .own 0 0 N2 1 true], .agg [iC ((ch : Nat) : Int), iC n, iC d, iC a, iC p2, iC f2, .own 1 0 r2 1 true], iE 0]) (toG [(0, some (21, .ds (dI .i32 o2))), (1, some (21, .ds (dI .i32 l2)))]) 2) := ⟨(prV ch W l f (stp n a) (d * 65536) (leftV W f (stp n a) (d * 65536) k)), ((leftV W f (stp n a) (d * 65536) k) * ch), (List.drop ((goneV W f (stp n a) (d * 65536) (leftV W f (stp n a) (d * 65536) k)) * ch) l), (q - ((goneV W f (stp n a) (d * 65536) (leftV W f (stp n a) (d * 65536) k)) * ch)), (p + ((mvV f (stp n a) (leftV W f (stp n a) (d * 65536) k)) / (d * 65536))), ((mvV f (stp n a) (leftV W f (stp n a) (d * 65536) k)) % (d * 65536)), prV_len _ _ _ _ _ _ _, Nat.le_trans (Nat.mul_le_mul (Nat.le_trans (leftV_le hp.b.2.2.2.2.1).1 hk) hv.c8) (by decide), (by rw [List.length_drop, hq]), (by have h9 := hv.big; have h8 := hv.len; omega), ⟨rfl, rfl, rfl, rfl, rfl, rfl⟩, Q_rFinish ch W n d a p f l q k hq hv hp hk hb⟩

theorem X_rCv (ch W F : Nat) (n d a p f : Int) (l : List Int) (q : Nat) (m : List Int) (z : Nat) (hq : List.length l = q) (hv : BV ch W l) (hp : PhV n d a p f) (hz : List.length m = z) (hw : BV ch F m) (hWF : W + F ≤ 65536) (hb : p + (mvV f (stp n a) (mkF f (stp n a) (d * 65536) ((W + F : Nat) : Int)) / (d * 65536)) ≤ 1125899906842624) : ∃ (o2 : List Int) (N2 : Nat) (l2 : List Int) (r2 : Nat) (p2 : Int) (f2 : Int), (List.length o2 = N2) ∧ (N2 ≤ 524288) ∧ (List.length l2 = r2) ∧ (r2 ≤ 1048576) ∧ (TR n d a p f ch (W + F) (l ++ m) (q + z) (mkF f (stp n a) (d * 65536) ((W + F : Nat) : Int)) o2 N2 l2 r2 p2 f2) ∧ (Fun 31 [.agg [iC ((ch : Nat) : Int), iC n, iC d, iC a, iC p, iC f, .d (D.sl (dI .i32 l) q)], .agg [iC ((ch : Nat) : Int), .d (D.sl (dI .i32 m) z)]] (toG []) 0 (.tup [.agg [iC ((ch : Nat) : Int), .own 0 0 N2 1 true], .agg [iC ((ch : Nat) : Int), iC n, iC d, iC a, iC p2, iC f2, .own 1 0 r2 1 true], iE 0]) (toG [(0, some (21, .ds (dI .i32 o2))), (1, some (21, .ds (dI .i32 l2)))]) 2) := ⟨(prV ch (W + F) (l ++ m) f (stp n a) (d * 65536) (mkF f (stp n a) (d * 65536) (((W + F) : Nat) : Int))), ((mkF f (stp n a) (d * 65536) (((W + F) : Nat) : Int)) * ch), (List.drop ((goneV (W + F) f (stp n a) (d * 65536) (mkF f (stp n a) (d * 65536) (((W + F) : Nat) : Int))) * ch) (l ++ m)), ((q + z) - ((goneV (W + F) f (stp n a) (d * 65536) (mkF f (stp n a) (d * 65536) (((W + F) : Nat) : Int))) * ch)), (p + ((mvV f (stp n a) (mkF f (stp n a) (d * 65536) (((W + F) : Nat) : Int))) / (d * 65536))), ((mvV f (stp n a) (mkF f (stp n a) (d * 65536) (((W + F) : Nat) : Int))) % (d * 65536)), prV_len _ _ _ _ _ _ _, Nat.le_trans (Nat.mul_le_mul (mkF_need (by omega)).2 hv.c8) (by decide), (by rw [List.length_drop, List.length_append, hq, hz]), (by have h9 := hv.big; have h8 := hv.len; have h7 := hw.big; have h6 := hw.len; omega), ⟨rfl, rfl, rfl, rfl, rfl, rfl⟩, Q_rConvert ch W F n d a p f l q m z hq hv hp hz hw hWF hb⟩

end Go.Proofs.Ytpikmjikoifjeaa
