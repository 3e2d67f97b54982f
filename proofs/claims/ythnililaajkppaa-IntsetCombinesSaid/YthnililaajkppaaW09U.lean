/- Sets of integers: what they come to. No statement is proved here. -/
import Derived.Test.YthnililaajkppaaW09
namespace Go.Proofs.Ythnililaajkppaa
open Go.ChangeShapes Go.WideShapes Go.ChangeAt Go.RowKit
set_option linter.unusedVariables false
set_option linter.unusedSimpArgs false

/-! valid sets and what they come to -/
def VA (l : List Int) (n : Nat) : Prop := vaB l n = true
def unS (a b : List Int) : List Int := jdS (a ++ b)
def unN (a b : List Int) : Nat := jdN (a ++ b)
theorem un_len (a b : List Int) : (unS a b).length = unN a b * 2 := jd_len _
theorem VA.ok {l : List Int} {n : Nat} (h : VA l n) (hl : l.length = n * 2) : okP (prs l) := ((vaB_iff hl).1 h).2
theorem VA.rg {l : List Int} {n : Nat} (h : VA l n) (hl : l.length = n * 2) : RG l n := RG.of hl (okP_v (h.ok hl))
theorem VA.n {l : List Int} {n : Nat} (h : VA l n) : n ≤ 64 := of_decide_eq_true (Bool.and_eq_true_iff.1 h).1
theorem va_is {a b : List Int} {n m : Nat} (ha : a.length = n * 2) (hb : b.length = m * 2) (va : VA a n) (vb : VA b m) : VA (isS a b) (isN a b) := (vaB_iff (is_len a b)).2 ⟨is_le a b, by
  unfold isS; rw [prs_fl]
  have h := it_ok (va.ok ha) (vb.ok hb)
  have e := List.take_append_drop 64 (itP (prs a) (prs b))
  generalize List.take 64 (itP (prs a) (prs b)) = t at *
  generalize List.drop 64 (itP (prs a) (prs b)) = d at *
  rw [← e] at h
  clear e
  induction t with
  | nil => trivial
  | cons p t ih => exact ⟨h.1, fun q hq => h.2.1 q (List.mem_append_left _ hq), ih h.2.2⟩⟩
theorem is_n {a b : List Int} {n m : Nat} (ha : a.length = n * 2) (hb : b.length = m * 2) (va : VA a n) (vb : VA b m) : isN a b ≤ n + m := by
  have := it_len _ (prs a) (prs b) (Nat.le_refl _) (va.ok ha) (vb.ok hb)
  rw [prs_len ha, prs_len hb] at this
  unfold isN; rw [List.length_take]; omega
theorem me_is {a b : List Int} {n m : Nat} (ha : a.length = n * 2) (hb : b.length = m * 2) (va : VA a n) (vb : VA b m) (hq : n + m ≤ 64) (z : Int) : meP (prs (isS a b)) z ↔ meP (prs a) z ∧ meP (prs b) z := by
  have := it_len _ (prs a) (prs b) (Nat.le_refl _) (va.ok ha) (vb.ok hb)
  rw [prs_len ha, prs_len hb] at this
  unfold isS; rw [prs_fl, List.take_of_length_le (by omega)]
  exact it_me _ _ z
theorem un_rg {a b : List Int} {n m : Nat} (ha : a.length = n * 2) (hb : b.length = m * 2) (va : VA a n) (vb : VA b m) : RG (a ++ b) (n + m) := rg_app ha hb (va.rg ha) (vb.rg hb)
theorem un_n {a b : List Int} {n m : Nat} (ha : a.length = n * 2) (hb : b.length = m * 2) (va : VA a n) (vb : VA b m) : unN a b ≤ n + m := jd_le (by rw [List.length_append]; omega) (un_rg ha hb va vb)
theorem va_jd {l : List Int} {n : Nat} (hl : l.length = n * 2) (hr : RG l n) (h : jdN l ≤ 64) : VA (jdS l) (jdN l) := (vaB_iff (jd_len l)).2 ⟨h, by unfold jdS; rw [prs_fl]; exact (mk_ok (hr.v hl)).1⟩
theorem va_un {a b : List Int} {n m : Nat} (ha : a.length = n * 2) (hb : b.length = m * 2) (va : VA a n) (vb : VA b m) (hq : n + m ≤ 64) : VA (unS a b) (unN a b) :=
  va_jd (n := n + m) (by rw [List.length_append]; omega) (un_rg ha hb va vb) (by have := un_n ha hb va vb; unfold unN at this; omega)
theorem me_jd {l : List Int} {n : Nat} (hl : l.length = n * 2) (hr : RG l n) (z : Int) : meP (prs (jdS l)) z ↔ meP (prs l) z := by
  unfold jdS; rw [prs_fl]; exact (mk_ok (hr.v hl)).2.1 z
theorem me_un {a b : List Int} {n m : Nat} (ha : a.length = n * 2) (hb : b.length = m * 2) (va : VA a n) (vb : VA b m) (z : Int) : meP (prs (unS a b)) z ↔ meP (prs a) z ∨ meP (prs b) z := by
  unfold unS
  rw [me_jd (n := n + m) (by rw [List.length_append]; omega) (un_rg ha hb va vb) z, prs_app ha, meP_app]
theorem un_ok {a b : List Int} {n m : Nat} (ha : a.length = n * 2) (hb : b.length = m * 2) (va : VA a n) (vb : VA b m) (hq : n + m ≤ 64) : mkE (a ++ b) (n + m) = 0 ∧ mkL (a ++ b) (n + m) = unS a b ∧ mkN (a ++ b) (n + m) = unN a b :=
  mk_good (rg_iff.2 (un_rg ha hb va vb)) (by have := un_n ha hb va vb; unfold unN at this; omega)
theorem me_eq {a b : List Int} {n m : Nat} (ha : a.length = n * 2) (hb : b.length = m * 2) (oa : okP (prs a)) (ob : okP (prs b)) (h : ∀ z, meP (prs a) z ↔ meP (prs b) z) : a = b := by
  have e := okP_eq oa ob h
  rw [← fl_prs n a ha, ← fl_prs m b hb, e]
theorem sq_me {a b : List Int} {n m : Nat} (ha : a.length = n * 2) (hb : b.length = m * 2) (va : VA a n) (vb : VA b m) (h : ∀ z, meP (prs a) z ↔ meP (prs b) z) : sqB a b = true := sqB_of (me_eq ha hb (va.ok ha) (vb.ok hb) h)
theorem in_me {a b : List Int} {n m : Nat} (ha : a.length = n * 2) (hb : b.length = m * 2) (va : VA a n) (vb : VA b m) (h : ∀ z, meP (prs a) z → meP (prs b) z) : inB a b = true := inP_of (va.ok ha) (vb.ok hb) h
theorem hs_is_y {a b : List Int} {n m : Nat} {z : Int} (ha : a.length = n * 2) (hb : b.length = m * 2) (va : VA a n) (vb : VA b m) (hq : n + m ≤ 64) (h1 : hsB a z = true) (h2 : hsB b z = true) : hsB (isS a b) z = true := hs_iff.2 ((me_is ha hb va vb hq z).2 ⟨hs_iff.1 h1, hs_iff.1 h2⟩)
theorem hs_no {a : List Int} {z : Int} (h : ¬ meP (prs a) z) : hsB a z = false := by
  cases e : hsB a z with
  | false => rfl
  | true => exact absurd (hs_iff.1 e) h
theorem hs_of_no {a : List Int} {z : Int} (h : hsB a z = false) : ¬ meP (prs a) z := fun h2 => by rw [hs_iff.2 h2] at h; cases h
theorem hs_is_n1 {a b : List Int} {n m : Nat} {z : Int} (ha : a.length = n * 2) (hb : b.length = m * 2) (va : VA a n) (vb : VA b m) (hq : n + m ≤ 64) (h1 : hsB a z = false) : hsB (isS a b) z = false := hs_no fun h => hs_of_no h1 ((me_is ha hb va vb hq z).1 h).1
theorem hs_is_n2 {a b : List Int} {n m : Nat} {z : Int} (ha : a.length = n * 2) (hb : b.length = m * 2) (va : VA a n) (vb : VA b m) (hq : n + m ≤ 64) (h1 : hsB b z = false) : hsB (isS a b) z = false := hs_no fun h => hs_of_no h1 ((me_is ha hb va vb hq z).1 h).2
theorem hs_un_y1 {a b : List Int} {n m : Nat} {z : Int} (ha : a.length = n * 2) (hb : b.length = m * 2) (va : VA a n) (vb : VA b m) (h1 : hsB a z = true) : hsB (unS a b) z = true := hs_iff.2 ((me_un ha hb va vb z).2 (.inl (hs_iff.1 h1)))
theorem hs_un_y2 {a b : List Int} {n m : Nat} {z : Int} (ha : a.length = n * 2) (hb : b.length = m * 2) (va : VA a n) (vb : VA b m) (h1 : hsB b z = true) : hsB (unS a b) z = true := hs_iff.2 ((me_un ha hb va vb z).2 (.inr (hs_iff.1 h1)))
theorem hs_un_n {a b : List Int} {n m : Nat} {z : Int} (ha : a.length = n * 2) (hb : b.length = m * 2) (va : VA a n) (vb : VA b m) (h1 : hsB a z = false) (h2 : hsB b z = false) : hsB (unS a b) z = false := hs_no fun h => ((me_un ha hb va vb z).1 h).elim (hs_of_no h1) (hs_of_no h2)
/-! sets out of bytes -/
def maL (l : List Int) : Nat → List Int
  | 0 => []
  | k + 1 => maL l k ++ [List.getD l (k * 2) 0, List.getD l (k * 2) 0 + List.getD l (k * 2 + 1) 0 % 20]
theorem maL_len (l : List Int) : ∀ k, (maL l k).length = k * 2
  | 0 => rfl
  | k + 1 => by show (maL l k ++ [_, _]).length = _; rw [List.length_append, maL_len l k]; simp only [List.length_cons, List.length_nil]; omega
theorem maL_rg {l : List Int} {n : Nat} (hn : l.length = n) (hy : Byt l) : ∀ k, k * 2 ≤ n → ∀ p ∈ prs (maL l k), spV p
  | 0, _, p, hp => by cases hp
  | k + 1, hk, p, hp => by
    have h1 := hy.at (k * 2) (by omega)
    have h2 := hy.at (k * 2 + 1) (by omega)
    have hp : p ∈ prs (maL l k ++ [List.getD l (k * 2) 0, List.getD l (k * 2) 0 + List.getD l (k * 2 + 1) 0 % 20]) := hp
    rw [prs_snoc (maL_len l k)] at hp
    rcases List.mem_append.1 hp with hp | hp
    · exact maL_rg hn hy k (by omega) p hp
    · rw [List.mem_singleton.1 hp]
      exact ⟨by show 0 ≤ List.getD l (k * 2) 0; omega, by show List.getD l (k * 2) 0 ≤ List.getD l (k * 2) 0 + List.getD l (k * 2 + 1) 0 % 20; omega, by show List.getD l (k * 2) 0 + List.getD l (k * 2 + 1) 0 % 20 ≤ 2147483647; omega⟩
def maK (n : Nat) : Nat := if n / 2 ≤ 20 then n / 2 else 20
def mdS (l : List Int) (n : Nat) : List Int := jdS (maL l (maK n))
def mdN (l : List Int) (n : Nat) : Nat := jdN (maL l (maK n))
theorem maK_le (n : Nat) : maK n * 2 ≤ n ∧ maK n ≤ 20 := by unfold maK; split <;> omega
theorem md_len (l : List Int) (n : Nat) : (mdS l n).length = mdN l n * 2 := jd_len _
theorem md_rg {l : List Int} {n : Nat} (hn : l.length = n) (hy : Byt l) : RG (maL l (maK n)) (maK n) := RG.of (maL_len _ _) (maL_rg hn hy _ (maK_le n).1)
theorem md_n {l : List Int} {n : Nat} (hn : l.length = n) (hy : Byt l) : mdN l n ≤ 20 := by
  have := jd_le (maL_len _ _) (md_rg hn hy)
  have := maK_le n
  unfold mdN; omega
theorem va_md {l : List Int} {n : Nat} (hn : l.length = n) (hy : Byt l) : VA (mdS l n) (mdN l n) := va_jd (maL_len _ _) (md_rg hn hy) (by have := md_n hn hy; unfold mdN at this; omega)
theorem md_fin {l o : List Int} {n k : Nat} (hn : l.length = n) (hy : Byt l) (ho : o = maL l k) (hk : (n ≤ k * 2 + 1 ∨ 20 ≤ k) ∧ k * 2 ≤ n ∧ k ≤ 20) : mkL o k = mdS l n ∧ mkN o k = mdN l n := by
  have e : k = maK n := by unfold maK; split <;> omega
  subst e
  rw [ho]
  have h := mk_good (rg_iff.2 (md_rg hn hy)) (by have := md_n hn hy; unfold mdN at this; omega)
  exact ⟨h.2.1, h.2.2⟩
/-! the nearest one -/
theorem nr_none {z : Int} {a : List Int} {n : Nat} (ha : a.length = n * 2) (h : nrF z a = false) : nrV z a = 0 ∧ n = 0 := by
  unfold nrF nrV at *
  have hp := prs_len ha
  cases e : prs a with
  | nil => rw [e] at hp; exact ⟨rfl, hp.symm⟩
  | cons p r =>
    rw [e] at h
    obtain ⟨w, hw⟩ := nr_some z r (clP z p)
    have h : (nrP z r (some (clP z p))).isSome = false := h
    rw [hw] at h; cases h
theorem nr_law {z : Int} {a : List Int} {n : Nat} (ha : a.length = n * 2) (va : VA a n) (h : nrF z a = true) : hsB a (nrV z a) = true ∧ (0 ≤ nrV z a ∧ nrV z a ≤ 2147483647) ∧ ∀ x, hsB a x = true → dsP (nrV z a) z < dsP x z ∨ (dsP (nrV z a) z = dsP x z ∧ nrV z a ≤ x) := by
  have ok := va.ok ha
  have key : ∃ w, nrP z (prs a) none = some w ∧ meP (prs a) w ∧ ∀ x, meP (prs a) x → dsP w z < dsP x z ∨ (dsP w z = dsP x z ∧ w ≤ x) := by
    unfold nrF at h
    cases e : prs a with
    | nil => rw [e] at h; cases h
    | cons p r =>
      rw [e] at ok
      have hv := ok.1
      unfold spV at hv
      obtain ⟨w, hw⟩ := nr_some z r (clP z p)
      have hc : p.1 ≤ clP z p ∧ clP z p ≤ p.2 := by unfold clP; omega
      obtain ⟨h1, h2, h3⟩ := nr_best z r (clP z p) w ok.2.2 (fun q hq => by have := ok.2.1 q hq; omega) hw
      refine ⟨w, hw, meP_cons.2 (h1.imp (fun e => by rw [e]; exact hc) id), fun x hx => ?_⟩
      rcases meP_cons.1 hx with hx | hx
      · have := cl_near hv.2.1 z x hx
        rcases this with h9 | h9 | h9
        · omega
        · rw [← h9]; omega
        · omega
      · exact h3 x hx
  obtain ⟨w, h1, h2, h3⟩ := key
  have e : nrV z a = w := by unfold nrV; rw [h1]; rfl
  rw [e]
  refine ⟨hs_iff.2 h2, ?_, fun x hx => h3 x (hs_iff.1 hx)⟩
  obtain ⟨p, hp, h4⟩ := h2
  have := okP_v ok p hp
  unfold spV at this; omega
theorem ds_at (a b : Int) : (b < a ∧ dsP a b = a - b) ∨ (¬ b < a ∧ dsP a b = b - a) := by
  unfold dsP; split
  · exact .inl ⟨by assumption, rfl⟩
  · exact .inr ⟨by assumption, rfl⟩
/-! one form -/
theorem jd_same {a b : List Int} {n m : Nat} (ha : a.length = n * 2) (hb : b.length = m * 2) (ra : RG a n) (ob : okP (prs b)) (h : ∀ z, meP (prs a) z ↔ meP (prs b) z) : jdS a = b ∧ jdN a = m := by
  have e := okP_eq (mk_ok (ra.v ha)).1 ob (fun z => ((mk_ok (ra.v ha)).2.1 z).trans (h z))
  unfold jdS jdN
  rw [e]
  exact ⟨fl_prs m b hb, prs_len hb⟩

end Go.Proofs.Ythnililaajkppaa
