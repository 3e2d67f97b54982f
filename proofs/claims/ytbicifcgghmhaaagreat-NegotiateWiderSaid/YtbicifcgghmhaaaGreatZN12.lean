/- Merged texts. -/
import Derived.Test.YtbicifcgghmhaaaGreatZU10
import Derived.Test.YtbicifcgghmhaaaGreatZD12
namespace Go.Proofs.YtbicifcgghmhaaaGreat
open Go.ChangeShapes Go.WideShapes Go.ChangeAt Go.RowKit
set_option linter.unusedVariables false
set_option linter.unusedSimpArgs false
/-! chapter 10: intersections of any lists, as the reference makes them -/
theorem k4j (a b : List Int) : qK a b = min (gZ a b) 64 := (u51 (a := a) (b := b) rfl).2
theorem u80 {a b : List Int} {x : Int} (h : bA (uF a b) x = true) : bA a x = true ∧ bA b x = true := by
  have h1 := yZ.1 h
  unfold uF at h1; rw [gO] at h1
  obtain ⟨p, hp, h2⟩ := h1
  have h3 := (nI _ _ x).1 ⟨p, List.mem_of_mem_take hp, h2⟩
  exact ⟨yZ.2 h3.1, yZ.2 h3.2⟩
theorem v42 {z : BitVec 64} (h : IntKind.i64.wrap ((z.toNat : Nat) : Int) = 0) : z = 0#64 := by
  have h1 := z.isLt
  apply BitVec.eq_of_toNat_eq
  show z.toNat = 0
  unfold IntKind.wrap at h
  simp [IntKind.bits, IntKind.signed] at h
  omega
theorem v41 (z : BitVec 64) : BitVec.ofInt 64 (IntKind.i64.wrap ((z.toNat : Nat) : Int)) = z := by
  have h1 := z.isLt
  apply BitVec.eq_of_toInt_eq
  rw [BitVec.toInt_ofInt, BitVec.toInt_eq_toNat_bmod]
  unfold IntKind.wrap
  simp [IntKind.bits, IntKind.signed, Int.bmod]
  omega
theorem v3a {k k2 : Int} (h : jE k = 0) : jE (qG k k2) = 0 := by
  have h1 : BitVec.ofInt 64 k &&& ~~~ BitVec.ofInt 64 254 = 0#64 := v42 h
  show IntKind.i64.wrap (((BitVec.ofInt 64 (IntKind.i64.wrap (((BitVec.ofInt 64 k &&& BitVec.ofInt 64 k2).toNat : Nat) : Int)) &&& ~~~ BitVec.ofInt 64 254).toNat : Nat) : Int) = 0
  rw [v41]
  have h2 : BitVec.ofInt 64 k &&& BitVec.ofInt 64 k2 &&& ~~~ BitVec.ofInt 64 254 = 0#64 := by
    rw [BitVec.and_assoc, BitVec.and_comm (BitVec.ofInt 64 k2), ← BitVec.and_assoc, h1]; exact BitVec.zero_and
  rw [h2]; rfl
theorem zZ {xs : List Bx} (h : BsW xs) (hv : cF xs = true) {i : Nat} (hi : i < xs.length) : List.length (kY xs i) = kV xs i * 2 ∧ List.length (kX xs i) = kU xs i * 2 ∧ (¬ kQ xs i = 0 ∧ jE (kQ xs i) = 0) ∧ eG (kY xs i) (kV xs i) 1000 768000 = true ∧ mM (kT xs i) = true ∧ eG (kX xs i) (kU xs i) 1 65536 = true := by
  have h1 := (of_decide_eq_true hv).2 i hi
  obtain ⟨p1, p2, p3, p4⟩ := vQ h1
  exact ⟨(h.at i).1, (h.at i).2.1, p1, p2, p3, p4⟩
theorem u45 {a b : List Int} {n m : Nat} {lo hi : Int} (ha : a.length = n * 2) (hb : b.length = m * 2) (h : eG a n lo hi = true) (h1 : 1 ≤ qK (kB a n) (kB b m)) : eG (uF (kB a n) (kB b m)) (qK (kB a n) (kB b m)) lo hi = true :=
  k50 (uR _ _) (k0j ha hb) h1 fun x hx => mK ha h (by have := (u80 hx).1; rwa [(dG h).2.1] at this)
def k5j (xs ys : List Bx) (i j : Nat) : Nat := smN (qG (kQ xs i) (kQ ys j)) (List.length (uS (kT xs i) (kT ys j) (List.length (kT xs i)))) (gZ (kB (kY xs i) (kV xs i)) (kB (kY ys j) (kV ys j))) (gZ (kB (kX xs i) (kU xs i)) (kB (kX ys j) (kU ys j)))
def mnB (n m : Nat) : Bool := decide (64 < n ∨ 64 < m)
def mnE (xs ys : List Bx) (i j : Nat) : Bool := mnB (gZ (kB (kY xs i) (kV xs i)) (kB (kY ys j) (kV ys j))) (gZ (kB (kX xs i) (kU xs i)) (kB (kX ys j) (kU ys j)))
theorem k5i {k : Int} {c n m : Nat} : smN k c n m = 1 ↔ ¬ k = 0 ∧ 1 ≤ c ∧ 1 ≤ n ∧ 1 ≤ m := by
  unfold smN; split
  · exact ⟨fun _ => by assumption, fun _ => rfl⟩
  · exact ⟨fun e => (by cases e), fun e => absurd e (by assumption)⟩
theorem k9q {xs ys : List Bx} (hx : BsW xs) (hy : BsW ys) (vx : cF xs = true) {i j : Nat} (hi : i < xs.length) : zO xs ys i j = true ↔ k5j xs ys i j = 1 := by
  obtain ⟨a1, a2, a3, a4, a5, a6⟩ := zZ hx vx hi
  have b1 := (hy.at j).1; have b2 := (hy.at j).2.1
  unfold k5j
  rw [k5i]
  have er : 1 ≤ gZ (kB (kY xs i) (kV xs i)) (kB (kY ys j) (kV ys j)) ↔ 1 ≤ qK (kB (kY xs i) (kV xs i)) (kB (kY ys j) (kV ys j)) := by rw [k4j]; omega
  have es : 1 ≤ gZ (kB (kX xs i) (kU xs i)) (kB (kX ys j) (kU ys j)) ↔ 1 ≤ qK (kB (kX xs i) (kU xs i)) (kB (kX ys j) (kU ys j)) := by rw [k4j]; omega
  rw [er, es]
  constructor
  · intro h
    obtain ⟨p1, p2, p3, p4⟩ := vQ (show fF _ _ _ _ _ _ = true from h)
    exact ⟨p1.1, k52 p3, (dG p2).2.2.2, (dG p4).2.2.2⟩
  · rintro ⟨h1, h2, h3, h4⟩
    exact k4g ⟨h1, v3a a3.2⟩ (u45 a1 b1 a4 h3) (v2n a5 h2) (u45 a2 b2 a6 h4)
/-! the part of a set above a number -/
def zR (v : Int) : List Sp → List Sp
  | [] => []
  | p :: r => if v < p.2 then (max p.1 (v + 1), p.2) :: zR v r else zR v r
theorem k35 (v : Int) : ∀ a b : List Sp, zR v (a ++ b) = zR v a ++ zR v b
  | [], _ => rfl
  | p :: a, b => by
    show (if v < p.2 then _ :: zR v (a ++ b) else zR v (a ++ b)) = _
    rw [k35 v a b, zR]; split <;> rfl
theorem tJ {v : Int} : ∀ {a : List Sp} {q : Sp}, q ∈ zR v a → ∃ p ∈ a, p.1 ≤ q.1 ∧ q.2 = p.2
  | [], q, h => by cases h
  | p :: a, q, h => by
    rw [zR] at h
    split at h
    · rcases List.mem_cons.1 h with rfl | h
      · exact ⟨p, List.mem_cons_self .., by show p.1 ≤ max p.1 (v + 1); omega, rfl⟩
      · obtain ⟨p', h1, h2⟩ := tJ h; exact ⟨p', List.mem_cons_of_mem _ h1, h2⟩
    · obtain ⟨p', h1, h2⟩ := tJ h; exact ⟨p', List.mem_cons_of_mem _ h1, h2⟩
theorem tH {v : Int} : ∀ {a : List Sp}, bW a → bW (zR v a)
  | [], _ => trivial
  | p :: a, h => by
    rw [zR]
    split
    · refine ⟨?_, fun q hq => ?_, tH h.2.2⟩
      · have := h.1; unfold dD at this ⊢; simp only; omega
      · obtain ⟨p', h1, h2, _⟩ := tJ hq
        have := h.2.1 p' h1
        simp only; omega
    · exact tH h.2.2
theorem tI {v x : Int} : ∀ {a : List Sp}, bZ (zR v a) x ↔ bZ a x ∧ v < x
  | [] => ⟨fun h => absurd h (bY x), fun h => absurd h.1 (bY x)⟩
  | p :: a => by
    rw [zR, qP]
    split
    · rw [qP, tI (a := a)]; simp only
      constructor
      · rintro (h | h)
        · exact ⟨.inl (by omega), by omega⟩
        · exact ⟨.inr h.1, h.2⟩
      · rintro ⟨h | h, h2⟩
        · exact .inl (by omega)
        · exact .inr ⟨h, h2⟩
    · rw [tI (a := a)]
      constructor
      · rintro ⟨h, h2⟩; exact ⟨.inr h, h2⟩
      · rintro ⟨h | h, h2⟩
        · omega
        · exact ⟨h, h2⟩
theorem u0f {l : List Int} {v : Int} {n : Nat} (hl : l.length = n * 2) : ∀ k, k ≤ n → qO (dQ l v k) = zR v (List.take k (qO l))
  | 0, _ => rfl
  | k + 1, hk => by
    have ih := u0f (v := v) hl k (by omega)
    have e : List.take (k + 1) (qO l) = List.take k (qO l) ++ [(List.getD l (k * 2) 0, List.getD l (k * 2 + 1) 0)] := by
      rw [List.take_succ_eq_append_getElem (by rw [qZ hl]; omega), rS hl (by omega)]
    rw [e, k35, ← ih, dQ]
    have hL := (tG l v k).1
    by_cases h : v < List.getD l (k * 2 + 1) 0
    · rw [if_pos h, iA hL]
      show _ = _ ++ (if v < List.getD l (k * 2 + 1) 0 then _ else _)
      rw [if_pos h]; rfl
    · rw [if_neg h]
      show _ = _ ++ (if v < List.getD l (k * 2 + 1) 0 then _ else _)
      rw [if_neg h]; exact (List.append_nil _).symm
theorem u4w {a b : List Int} {n m : Nat} (ha : a.length = n * 2) (hb : b.length = m * 2) (va : eH a n = true) (vb : eH b m = true) : lW a n b m = true ↔ gZ (kB a n) (kB b m) ≤ 64 := by
  obtain ⟨na, oa⟩ := (aD ha).1 va
  obtain ⟨nb, ob⟩ := (aD hb).1 vb
  have hi := k4j (kB a n) (kB b m)
  by_cases h : qK (kB a n) (kB b m) < 64
  · exact ⟨fun _ => by omega, fun _ => u7r h⟩
  have h64 : 64 ≤ gZ (kB a n) (kB b m) := by omega
  have hL : bW (aP (qO (kB a n)) (qO (kB b m))) := k2d (bC ha) (bC hb)
  have hn : (aP (qO (kB a n)) (qO (kB b m))).length = gZ (kB a n) (kB b m) := rfl
  have ev : List.getD (uF (kB a n) (kB b m)) 127 0 = ((aP (qO (kB a n)) (qO (kB b m)))[63]'(by omega)).2 := by
    have h1 := rS (uR (kB a n) (kB b m)) (show 63 < qK (kB a n) (kB b m) by omega)
    have h2 : qO (uF (kB a n) (kB b m)) = List.take 64 (aP (qO (kB a n)) (qO (kB b m))) := by unfold uF; exact gO _
    have h3 : (qO (uF (kB a n) (kB b m)))[63]? = some ((aP (qO (kB a n)) (qO (kB b m)))[63]'(by omega)) := by
      rw [h2, List.getElem?_take_of_lt (by decide), List.getElem?_eq_getElem (by omega)]
    rw [List.getElem?_eq_getElem (by rw [qZ (uR _ _)]; omega), h1] at h3
    have h4 := congrArg Prod.snd (Option.some.inj h3)
    exact h4
  generalize hv : List.getD (uF (kB a n) (kB b m)) 127 0 = v at *
  have hav := tG a v n
  have eav : qO (dQ a v n) = zR v (qO a) := by
    rw [u0f ha n (Nat.le_refl _), List.take_of_length_le (by rw [qZ ha]; omega)]
  have vav : eH (dQ a v n) (lH a v n) = true := (aD hav.1).2 ⟨by omega, by rw [eav]; exact tH oa⟩
  have ea : kB a n = a := (n7 va).1
  have hr := k4j (kB (dQ a v n) (lH a v n)) (kB b m)
  rw [(n7 vav).1] at hr
  have key : 1 ≤ gZ (dQ a v n) (kB b m) ↔ 64 < gZ (kB a n) (kB b m) := by
    constructor
    · intro h1
      obtain ⟨p, hp⟩ := List.exists_mem_of_length_pos (show 0 < (aP (qO (dQ a v n)) (qO (kB b m))).length from h1)
      have ho : bW (aP (qO (dQ a v n)) (qO (kB b m))) := k2d (by rw [eav]; exact tH oa) (bC hb)
      have hp2 := cW ho p hp
      unfold dD at hp2
      have h2 := (nI _ _ p.1).1 ⟨p, hp, Int.le_refl _, hp2.2.1⟩
      rw [eav, tI] at h2
      have h3 : bZ (aP (qO (kB a n)) (qO (kB b m))) p.1 := (nI _ _ _).2 ⟨by rw [ea]; exact h2.1.1, h2.2⟩
      obtain ⟨q, hq, h4, h5⟩ := h3
      obtain ⟨z, hz, rfl⟩ := List.mem_iff_getElem.1 hq
      by_cases hz2 : 64 ≤ z
      · omega
      · exfalso
        have mono : ∀ d, z + d ≤ 63 → ((aP (qO (kB a n)) (qO (kB b m)))[z]'hz).2 ≤ ((aP (qO (kB a n)) (qO (kB b m)))[63]'(by omega)).2 ∨ d + z < 63 := fun d => by
          intro _
          by_cases e : d + z = 63
          · left
            have : ∀ d (hd : z + d < (aP (qO (kB a n)) (qO (kB b m))).length), ((aP (qO (kB a n)) (qO (kB b m)))[z]'hz).2 ≤ ((aP (qO (kB a n)) (qO (kB b m)))[z + d]'hd).2 := fun d => by
              induction d with
              | zero => intro _; exact Int.le_refl _
              | succ d ih =>
                intro hd
                have i1 := ih (by omega)
                have g := iF _ hL (z + d) _ _ (List.getElem?_eq_getElem (by omega)) (List.getElem?_eq_getElem (by omega))
                have v2 := cW hL _ (List.getElem_mem (show z + d + 1 < _ from hd))
                unfold dD at v2
                exact Int.le_trans i1 (by have := v2.2.1; show _ ≤ ((aP (qO (kB a n)) (qO (kB b m)))[z + d + 1]'hd).2; omega)
            have h9 := this (63 - z) (by omega)
            simpa [show z + (63 - z) = 63 by omega] using h9
          · right; omega
        rcases mono (63 - z) (by omega) with h9 | h9
        · have := h2.1.2; omega
        · omega
    · intro h1
      have h64' : 64 < (aP (qO (kB a n)) (qO (kB b m))).length := h1
      have g := iF _ hL 63 _ _ (List.getElem?_eq_getElem (by omega)) (List.getElem?_eq_getElem (by omega))
      have hm := List.getElem_mem h64'
      have v2 := cW hL _ hm
      unfold dD at v2
      have h2 := (nI _ _ ((aP (qO (kB a n)) (qO (kB b m)))[64]'h64').1).1 ⟨_, hm, Int.le_refl _, v2.2.1⟩
      have hg : v < ((aP (qO (kB a n)) (qO (kB b m)))[64]'h64').1 := by
        rw [ev]; have : ((aP (qO (kB a n)) (qO (kB b m)))[63]'(by omega)).2 + 1 < ((aP (qO (kB a n)) (qO (kB b m)))[64]'h64').1 := g
        omega
      clear v2 hm g
      revert h2 hg
      generalize ((aP (qO (kB a n)) (qO (kB b m)))[64]'h64').1 = x
      intro h2 hg
      rw [ea] at h2
      have h3 : bZ (aP (qO (dQ a v n)) (qO (kB b m))) x := (nI _ _ _).2 ⟨by rw [eav, tI]; exact ⟨h2.1, hg⟩, h2.2⟩
      obtain ⟨p, hp, _⟩ := h3
      exact List.length_pos_of_mem hp
  unfold lW
  rw [hv, decide_eq_false h, Bool.false_or, decide_eq_true_iff, (n7 vav).1]
  constructor
  · intro h1; by_cases h2 : 64 < gZ (kB a n) (kB b m)
    · have := key.2 h2; omega
    · omega
  · intro h1; by_cases h2 : 1 ≤ gZ (dQ a v n) (kB b m)
    · have := key.1 h2; omega
    · omega
theorem v2j {xs ys : List Bx} (hx : BsW xs) (hy : BsW ys) (vx : cF xs = true) (vy : cF ys = true) {i j : Nat} (hi : i < xs.length) (hj : j < ys.length) : crS xs ys i j = !(mnE xs ys i j) := by
  obtain ⟨a1, a2, _, a4, _, a6⟩ := zZ hx vx hi
  obtain ⟨b1, b2, _, b4, _, b6⟩ := zZ hy vy hj
  have e1 := u4w a1 b1 (dG a4).1 (dG b4).1
  have e2 := u4w a2 b2 (dG a6).1 (dG b6).1
  apply Bool.eq_iff_iff.2
  show (lW _ _ _ _ && lW _ _ _ _) = true ↔ _
  unfold mnE mnB
  rw [Bool.and_eq_true, e1, e2, Bool.not_eq_true', decide_eq_false_iff_not]
  omega
theorem v2k {xs ys : List Bx} {i j : Nat} (h : mnE xs ys i j = false) : crB xs ys i j = kE (qG (kQ xs i) (kQ ys j)) (alS (kB (kY xs i) (kV xs i)) (kB (kY ys j) (kV ys j))) (gZ (kB (kY xs i) (kV xs i)) (kB (kY ys j) (kV ys j))) (uS (kT xs i) (kT ys j) (List.length (kT xs i))) (alS (kB (kX xs i) (kU xs i)) (kB (kX ys j) (kU ys j))) (gZ (kB (kX xs i) (kU xs i)) (kB (kX ys j) (kU ys j))) := by
  have h1 := of_decide_eq_false (show decide _ = false from h)
  obtain ⟨r1, r2⟩ := k7q (show gZ (kB (kY xs i) (kV xs i)) (kB (kY ys j) (kV ys j)) ≤ 64 by omega)
  obtain ⟨s1, s2⟩ := k7q (show gZ (kB (kX xs i) (kU xs i)) (kB (kX ys j) (kU ys j)) ≤ 64 by omega)
  unfold crB; rw [r1, r2, s1, s2]
/-! the steps of the reference's loops -/
theorem CJ2.rn {xs ys : List Bx} {i j : Nat} {o : List Bx} (h : CJ2 xs ys i j o) (hx : BsW xs) (hy : BsW ys) (vx : cF xs = true) (hi : i < xs.length) (h1 : ¬ k5j xs ys i j = 1) : CJ2 xs ys i (j + 1) o := h.n (by
  rw [← Bool.not_eq_true, k9q hx hy vx hi]; exact h1)
theorem CJ2.ry {xs ys : List Bx} {i j : Nat} {o : List Bx} (h : CJ2 xs ys i j o) (hx : BsW xs) (hy : BsW ys) (vx : cF xs = true) (vy : cF ys = true) (hi : i < xs.length) (hj : j < ys.length) (h1 : k5j xs ys i j = 1) (h2 : mnE xs ys i j = false) (h3 : ¬ 64 ≤ List.length o) : CJ2 xs ys i (j + 1) (o ++ [kE (qG (kQ xs i) (kQ ys j)) (alS (kB (kY xs i) (kV xs i)) (kB (kY ys j) (kV ys j))) (gZ (kB (kY xs i) (kV xs i)) (kB (kY ys j) (kV ys j))) (uS (kT xs i) (kT ys j) (List.length (kT xs i))) (alS (kB (kX xs i) (kU xs i)) (kB (kX ys j) (kU ys j))) (gZ (kB (kX xs i) (kU xs i)) (kB (kX ys j) (kU ys j)))]) := by
  rw [← v2k h2]
  exact h.y ((k9q hx hy vx hi).2 h1) (by rw [v2j hx hy vx vy hi hj, h2]; rfl) (by omega)
end Go.Proofs.YtbicifcgghmhaaaGreat
namespace Go.Proofs.YtbicifcgghmhaaaGreat
open Go.ChangeShapes Go.WideShapes Go.ChangeAt Go.RowKit
set_option linter.unusedVariables false
set_option linter.unusedSimpArgs false
/-! chapter 10: what is blamed -/
theorem k67 {xs ys : List Bx} {x : Int} : ∀ i, x ∈ o4 xs ys i ↔ ∃ a k, a < i ∧ k < ys.length ∧ x = shE xs ys a k
  | 0 => ⟨fun h => (by cases h), fun ⟨a, _, h, _⟩ => absurd h (Nat.not_lt_zero a)⟩
  | i + 1 => by
    rw [o4, List.mem_append, k67 i, List.mem_map]
    constructor
    · rintro (⟨a, k, h1, h2, h3⟩ | ⟨k, h1, h2⟩)
      · exact ⟨a, k, by omega, h2, h3⟩
      · exact ⟨i, k, by omega, List.mem_range.1 h1, h2.symm⟩
    · rintro ⟨a, k, h1, h2, h3⟩
      by_cases e : a = i
      · subst e; exact .inr ⟨k, List.mem_range.2 h2, h3.symm⟩
      · exact .inl ⟨a, k, by omega, h2, h3⟩
theorem k0e {l : List Int} {s : Int} : jD l l.length s = true ↔ ∃ x ∈ l, qG x s = s := by
  unfold jD; rw [decide_eq_true_iff]
  constructor
  · intro h
    obtain ⟨k, hk, h1⟩ := pM h
    have h1 : stB (List.getD l k 0) s = true := h1
    rw [List.getD_eq_getElem?_getD, List.getElem?_eq_getElem hk] at h1
    exact ⟨l[k], List.getElem_mem hk, of_decide_eq_true h1⟩
  · rintro ⟨x, hx, h⟩
    obtain ⟨k, hk, rfl⟩ := List.mem_iff_getElem.1 hx
    by_cases e : 0 ≤ lB l s l.length
    · exact e
    · have h1 := jW e k hk
      have h1 : stB (List.getD l k 0) s = false := h1
      rw [List.getD_eq_getElem?_getD, List.getElem?_eq_getElem hk] at h1
      exact absurd h (of_decide_eq_false h1)
theorem k2b (l : List Int) (v : Int) : ∀ n, n ≤ l.length → (0 ≤ uH l v n ↔ ∃ k, k < n ∧ List.getD l k 0 = v)
  | 0, _ => ⟨fun h => absurd (show (0 : Int) ≤ -1 from h) (by decide), fun ⟨k, hk, _⟩ => absurd hk (Nat.not_lt_zero k)⟩
  | n + 1, hn => by
    have ih := k2b l v n (by omega)
    show 0 ≤ (if 0 ≤ uH l v n then uH l v n else if List.getD l n 0 = v then (n : Int) else -1) ↔ _
    by_cases h : 0 ≤ uH l v n
    · rw [if_pos h]
      obtain ⟨k, hk, e⟩ := ih.1 h
      exact ⟨fun _ => ⟨k, by omega, e⟩, fun _ => h⟩
    · rw [if_neg h]
      by_cases e : List.getD l n 0 = v
      · rw [if_pos e]; exact ⟨fun _ => ⟨n, by omega, e⟩, fun _ => by omega⟩
      · rw [if_neg e]
        refine ⟨fun h9 => absurd h9 (by decide), fun ⟨k, hk, e2⟩ => absurd (ih.2 ⟨k, ?_, e2⟩) h⟩
        by_cases e3 : k = n
        · subst e3; exact absurd e2 e
        · omega
theorem k9p {l : List Int} {v : Int} : ctB l l.length v = true ↔ v ∈ l := by
  unfold ctB; rw [decide_eq_true_iff, k2b l v _ (Nat.le_refl _)]
  constructor
  · rintro ⟨k, hk, rfl⟩
    rw [List.getD_eq_getElem?_getD, List.getElem?_eq_getElem hk]; exact List.getElem_mem hk
  · intro h
    obtain ⟨k, hk, rfl⟩ := List.mem_iff_getElem.1 h
    exact ⟨k, hk, by rw [List.getD_eq_getElem?_getD, List.getElem?_eq_getElem hk]; rfl⟩
theorem nP (l : List Int) (n : Nat) (hn : 1 ≤ n) : ∀ i : Nat, i ≤ 14 → (bI l n i = 15 ∨ (14 - (i : Int) < bI l n i ∧ bI l n i ≤ 14 ∧ jD l n (bI l n i) = false)) ∧ ∀ s : Int, 14 - (i : Int) < s → s ≤ 14 → jD l n s = false → uB (bI l n i) ≤ uB s
  | 0, _ => ⟨.inl rfl, fun s h1 h2 => by omega⟩
  | i + 1, hi => by
    obtain ⟨h1, h2⟩ := nP l n hn i zo
    rw [bI]
    by_cases hc : 1 ≤ n ∧ jD l n (14 - (i : Int)) = false ∧ uB (14 - (i : Int)) ≤ uB (bI l n i)
    · rw [if_pos hc]
      refine ⟨.inr ⟨by omega, by omega, hc.2.1⟩, fun s h3 h4 h5 => ?_⟩
      by_cases e : s = 14 - (i : Int)
      · rw [e]; exact Int.le_refl _
      · exact Int.le_trans hc.2.2 (h2 s (by omega) h4 h5)
    · rw [if_neg hc]
      refine ⟨h1.imp id fun h => ⟨by omega, h.2⟩, fun s h3 h4 h5 => ?_⟩
      by_cases e : s = 14 - (i : Int)
      · subst e
        by_cases h6 : uB (14 - (i : Int)) ≤ uB (bI l n i)
        · exact absurd ⟨hn, h5, h6⟩ hc
        · omega
      · exact h2 s (by omega) h4 h5
theorem k5k (xs ys : List Bx) (i j : Nat) : ∃ p q r s : Int, (0 ≤ p ∧ p ≤ 1) ∧ (0 ≤ q ∧ q ≤ 1) ∧ (0 ≤ r ∧ r ≤ 1) ∧ (0 ≤ s ∧ s ≤ 1) ∧ shE xs ys i j = p + 2 * q + 4 * r + 8 * s ∧ (p = 1 ↔ (shP xs ys i j).1) ∧ (q = 1 ↔ (shP xs ys i j).2.1) ∧ (r = 1 ↔ (shP xs ys i j).2.2.1) ∧ (s = 1 ↔ (shP xs ys i j).2.2.2) := by
  have one : ∀ (a : Prop) [Decidable a] (b : Int), ∃ p : Int, (0 ≤ p ∧ p ≤ 1) ∧ (if a then 0 else b) = b * p ∧ (p = 1 ↔ ¬ a) := fun a _ b => by
    by_cases h : a
    · exact ⟨0, by omega, by rw [if_pos h]; simp, by simp [h]⟩
    · exact ⟨1, by omega, by rw [if_neg h]; simp, by simp [h]⟩
  obtain ⟨p, p1, p2, p3⟩ := one (qG (kQ xs i) (kQ ys j) = 0) 1
  obtain ⟨q, q1, q2, q3⟩ := one (qK (kB (kY xs i) (kV xs i)) (kB (kY ys j) (kV ys j)) = 0) 2
  obtain ⟨r, r1, r2, r3⟩ := one (List.length (uS (kT xs i) (kT ys j) (List.length (kT xs i))) = 0) 4
  obtain ⟨s, s1, s2, s3⟩ := one (qK (kB (kX xs i) (kU xs i)) (kB (kX ys j) (kU ys j)) = 0) 8
  refine ⟨p, q, r, s, p1, q1, r1, s1, ?_, p3, ?_, ?_, ?_⟩
  · unfold shE tU; rw [p2, q2, r2, s2]; omega
  · rw [q3]; show _ ↔ 1 ≤ qK _ _; omega
  · rw [r3]; show _ ↔ 1 ≤ List.length _; omega
  · rw [s3]; show _ ↔ 1 ≤ qK _ _; omega
theorem u4f (xs ys : List Bx) (i j : Nat) : shE xs ys i j = 15 ↔ (shP xs ys i j).1 ∧ (shP xs ys i j).2.1 ∧ (shP xs ys i j).2.2.1 ∧ (shP xs ys i j).2.2.2 := by
  obtain ⟨p, q, r, s, p1, q1, r1, s1, e, p3, q3, r3, s3⟩ := k5k xs ys i j
  rw [e, ← p3, ← q3, ← r3, ← s3]; omega
/-! the law's parts -/
set_option linter.unusedSectionVars false
section
variable {xs bs : List Bx} (h : BsV xs) (h2 : BsV bs) (f : BsF xs) (f2 : BsF bs) (hn : xs.length ≤ 5 ∧ bs.length ≤ 5)
include h h2 f f2 hn
end
end Go.Proofs.YtbicifcgghmhaaaGreat
namespace Go.Proofs.YtbicifcgghmhaaaGreat
open Go.ChangeShapes Go.WideShapes Go.ChangeAt Go.RowKit
set_option linter.unusedVariables false
set_option linter.unusedSimpArgs false
/-! chapter 12: what is refused -/
def cC (d : Int) (x y : Bx) : Bx := kE (zK d y.k x.k) (zL d 2 y.r x.r) (zN d 2 y.rn x.rn) (zM d 4 y.m x.m) (zL d 8 y.s x.s) (zN d 8 y.sn x.sn)
theorem k3u (d : Int) {x y : Bx} (hx : BxV x) (hy : BxV y) : BxV (cC d x y) ∧ (cC d x y).rn ≤ max x.rn y.rn ∧ (cC d x y).sn ≤ max x.sn y.sn := by
  obtain ⟨⟨w1, w2, w3, w4, w5, w6⟩, k1, o1⟩ := hy
  obtain ⟨⟨v1, v2, v3, v4, v5, v6⟩, k2, o2⟩ := hx
  obtain ⟨p1, p2, p3, p4⟩ := vQ o1
  obtain ⟨q1, q2, q3, q4⟩ := vQ o2
  have e1 : (KG (cC d x y).k ∧ (¬ (cC d x y).k = 0 ∧ jE (cC d x y).k = 0)) := by
    show KG (zK d y.k x.k) ∧ (¬ zK d y.k x.k = 0 ∧ jE (zK d y.k x.k) = 0)
    unfold zK; split
    · exact ⟨k1, p1⟩
    · exact ⟨k2, q1⟩
  have e2 : (cC d x y).r.length = (cC d x y).rn * 2 ∧ (cC d x y).rn ≤ 1000000 ∧ (cC d x y).rn ≤ max x.rn y.rn ∧ eG (cC d x y).r (cC d x y).rn 1000 768000 = true := by
    show (zL d 2 _ _).length = zN d 2 _ _ * 2 ∧ zN d 2 _ _ ≤ 1000000 ∧ zN d 2 _ _ ≤ _ ∧ eG (zL d 2 _ _) (zN d 2 _ _) 1000 768000 = true
    unfold zL zN; split
    · exact ⟨w1, w3, by omega, p2⟩
    · exact ⟨v1, v3, by omega, q2⟩
  have e3 : (cC d x y).m.length ≤ 1000000 ∧ MsW (cC d x y).m ∧ mM (cC d x y).m = true := by
    show (zM d 4 _ _).length ≤ 1000000 ∧ MsW (zM d 4 _ _) ∧ mM (zM d 4 _ _) = true
    unfold zM; split
    · exact ⟨w5, w6, p3⟩
    · exact ⟨v5, v6, q3⟩
  have e4 : (cC d x y).s.length = (cC d x y).sn * 2 ∧ (cC d x y).sn ≤ 1000000 ∧ (cC d x y).sn ≤ max x.sn y.sn ∧ eG (cC d x y).s (cC d x y).sn 1 65536 = true := by
    show (zL d 8 _ _).length = zN d 8 _ _ * 2 ∧ zN d 8 _ _ ≤ 1000000 ∧ zN d 8 _ _ ≤ _ ∧ eG (zL d 8 _ _) (zN d 8 _ _) 1 65536 = true
    unfold zL zN; split
    · exact ⟨w2, w4, by omega, p4⟩
    · exact ⟨v2, v4, by omega, q4⟩
  exact ⟨⟨⟨e2.1, e4.1, e2.2.1, e4.2.1, e3.1, e3.2.1⟩, e1.1, k4g e1.2 e2.2.2.2 e3.2.2 e4.2.2.2⟩, e2.2.2.1, e4.2.2.1⟩
theorem k7o {a b : List Int} (h : ∃ x, bA a x = true ∧ bA b x = true) : 1 ≤ qK a b := by
  obtain ⟨x, h1, h2⟩ := h
  obtain ⟨p, hp, _⟩ := (nI _ _ x).2 ⟨yZ.1 h1, yZ.1 h2⟩
  have : 1 ≤ gZ a b := List.length_pos_of_mem hp
  rw [k4j]; omega
theorem u3j {a : Bx} (ha : BxV a) : ¬ qG a.k a.k = 0 ∧ 1 ≤ qK (kB a.r a.rn) (kB a.r a.rn) ∧ 1 ≤ (uS a.m a.m a.m.length).length ∧ 1 ≤ qK (kB a.s a.sn) (kB a.s a.sn) := by
  obtain ⟨⟨a1, a2, a0⟩, a3, a4, a9⟩ := BxV.sets ha
  have p3 := (vQ ha.2.2).2.2.1
  obtain ⟨m, hm⟩ := List.exists_mem_of_length_pos (k52 p3)
  obtain ⟨x, hx⟩ := k74 ha.1.1 ((aD ha.1.1).1 a1).2 a0
  obtain ⟨y, hy⟩ := k74 ha.1.2.1 ((aD ha.1.2.1).1 a3).2 a9
  exact ⟨u3u ha.2.1, k7o ⟨x, by rw [a2]; exact ⟨hx, hx⟩⟩, List.length_pos_of_mem (k9x.2 ⟨hm, hm⟩), k7o ⟨y, by rw [a4]; exact ⟨hy, hy⟩⟩⟩
def gB (x y : Bx) : Prop × Prop × Prop × Prop := (¬ qG x.k y.k = 0, 1 ≤ qK (kB x.r x.rn) (kB y.r y.rn), 1 ≤ (uS x.m y.m x.m.length).length, 1 ≤ qK (kB x.s x.sn) (kB y.s y.sn))
theorem k63 {d : Int} {x y : Bx} (hx : BxV x) : ((gB x (cC d x y)).1 ↔ (qG d 1 = 0 → (gB x y).1)) ∧ ((gB x (cC d x y)).2.1 ↔ (qG d 2 = 0 → (gB x y).2.1)) ∧ ((gB x (cC d x y)).2.2.1 ↔ (qG d 4 = 0 → (gB x y).2.2.1)) ∧ ((gB x (cC d x y)).2.2.2 ↔ (qG d 8 = 0 → (gB x y).2.2.2)) := by
  obtain ⟨s1, s2, s3, s4⟩ := u3j hx
  refine ⟨?_, ?_, ?_, ?_⟩
  · show ¬ qG x.k (zK d y.k x.k) = 0 ↔ _
    unfold zK; by_cases c : qG d 1 = 0
    · rw [if_pos c]; exact ⟨fun a _ => a, fun a => a c⟩
    · rw [if_neg c]; exact ⟨fun _ e => absurd e c, fun _ => s1⟩
  · show 1 ≤ qK (kB x.r x.rn) (kB (zL d 2 y.r x.r) (zN d 2 y.rn x.rn)) ↔ _
    unfold zL zN; by_cases c : qG d 2 = 0
    · rw [if_pos c, if_pos c]; exact ⟨fun a _ => a, fun a => a c⟩
    · rw [if_neg c, if_neg c]; exact ⟨fun _ e => absurd e c, fun _ => s2⟩
  · show 1 ≤ (uS x.m (zM d 4 y.m x.m) x.m.length).length ↔ _
    unfold zM; by_cases c : qG d 4 = 0
    · rw [if_pos c]; exact ⟨fun a _ => a, fun a => a c⟩
    · rw [if_neg c]; exact ⟨fun _ e => absurd e c, fun _ => s3⟩
  · show 1 ≤ qK (kB x.s x.sn) (kB (zL d 8 y.s x.s) (zN d 8 y.sn x.sn)) ↔ _
    unfold zL zN; by_cases c : qG d 8 = 0
    · rw [if_pos c, if_pos c]; exact ⟨fun a _ => a, fun a => a c⟩
    · rw [if_neg c, if_neg c]; exact ⟨fun _ e => absurd e c, fun _ => s4⟩
theorem u8x {x z : Bx} (hx : BxV x) (hz : BxV z) : vR [x] [z] = 0 ↔ (gB x z).1 ∧ (gB x z).2.1 ∧ (gB x z).2.2.1 ∧ (gB x z).2.2.2 := by
  have e : vR [x] [z] = blP (o4 [x] [z] 1) := by
    unfold vR; rw [(BsV.one hx).eq (by show 1 ≤ 64; decide), (BsV.one hz).eq (by show 1 ≤ 64; decide)]; rfl
  have hl : (o4 [x] [z] 1).length = 1 := by rw [k1q]; rfl
  have hm : (15 : Int) ∈ o4 [x] [z] 1 ↔ shE [x] [z] 0 0 = 15 := by
    rw [k67]
    constructor
    · rintro ⟨a, k, h1, h2, h3⟩
      have h2 : k < 1 := h2
      obtain rfl : a = 0 := by omega
      obtain rfl : k = 0 := by omega
      exact h3.symm
    · intro h; exact ⟨0, 0, Nat.one_pos, show 0 < 1 from Nat.one_pos, h.symm⟩
  rw [e]
  unfold blP
  cases hc : ctB (o4 [x] [z] 1) (o4 [x] [z] 1).length 15 with
  | true =>
    rw [if_pos rfl]
    have := (u4f [x] [z] 0 0).1 (hm.1 (k9p.1 hc))
    exact ⟨fun _ => ⟨this.1, this.2.1, this.2.2.1, this.2.2.2⟩, fun _ => rfl⟩
  | false =>
    rw [if_neg (by decide)]
    have h1 := (nP (o4 [x] [z] 1) (o4 [x] [z] 1).length (by omega) 14 (Nat.le_refl _)).1
    constructor
    · intro h2; omega
    · rintro ⟨a, b, c, d⟩
      have := k9p.2 (hm.2 ((u4f [x] [z] 0 0).2 ⟨a, b, c, d⟩))
      rw [this] at hc; cases hc
/-! the dimensions of a pair -/
def oQ (d : Int) (p q r s : Bool) : Int :=
  let a := if p then f5 d 1 else d
  let b := if q then f5 a 2 else a
  let c := if r then f5 b 4 else b
  if s then f5 c 8 else c
def b2 (n : Nat) : Bool := n == 1
def oqC : Bool := (List.range 16).all fun d => (List.range 2).all fun p => (List.range 2).all fun q => (List.range 2).all fun r => (List.range 2).all fun s => decide (0 ≤ oQ (d : Int) (b2 p) (b2 q) (b2 r) (b2 s) ∧ oQ (d : Int) (b2 p) (b2 q) (b2 r) (b2 s) ≤ 15 ∧ qG (oQ (d : Int) (b2 p) (b2 q) (b2 r) (b2 s)) (d : Int) = (d : Int)) && (decide (oQ (d : Int) (b2 p) (b2 q) (b2 r) (b2 s) = 15) == ((decide (¬ qG (d : Int) 1 = 0) || b2 p) && ((decide (¬ qG (d : Int) 2 = 0) || b2 q) && ((decide (¬ qG (d : Int) 4 = 0) || b2 r) && (decide (¬ qG (d : Int) 8 = 0) || b2 s)))))
theorem v1c : oqC = true := by kernel_rfl
theorem u7i {d : Int} (hd : 0 ≤ d ∧ d ≤ 15) (p q r s : Bool) : (0 ≤ oQ d p q r s ∧ oQ d p q r s ≤ 15) ∧ qG (oQ d p q r s) d = d ∧ (oQ d p q r s = 15 ↔ (qG d 1 = 0 → p = true) ∧ (qG d 2 = 0 → q = true) ∧ (qG d 4 = 0 → r = true) ∧ (qG d 8 = 0 → s = true)) := by
  obtain ⟨d, rfl⟩ : ∃ n : Nat, d = (n : Int) := ⟨d.toNat, by omega⟩
  have M := fun {n k : Nat} (h : n < k) => List.mem_range.2 h
  have hb : ∀ b : Bool, ∃ n, n < 2 ∧ b2 n = b := fun b => by
    cases b
    · exact ⟨0, by decide, rfl⟩
    · exact ⟨1, by decide, rfl⟩
  obtain ⟨p, hp, rfl⟩ := hb p
  obtain ⟨q, hq, rfl⟩ := hb q
  obtain ⟨r, hr, rfl⟩ := hb r
  obtain ⟨s, hs, rfl⟩ := hb s
  have h := List.all_eq_true.1 (List.all_eq_true.1 (List.all_eq_true.1 (List.all_eq_true.1 (List.all_eq_true.1 v1c d (M (by omega))) p (M hp)) q (M hq)) r (M hr)) s (M hs)
  rw [Bool.and_eq_true, decide_eq_true_iff, beq_iff_eq] at h
  obtain ⟨⟨h1, h2, h3⟩, h4⟩ := h
  refine ⟨⟨h1, h2⟩, h3, decide_eq_true_iff.symm.trans ?_⟩
  rw [h4, Bool.and_eq_true, Bool.and_eq_true, Bool.and_eq_true, Bool.or_eq_true, Bool.or_eq_true, Bool.or_eq_true, Bool.or_eq_true]
  simp only [decide_eq_true_iff]
  have e : ∀ (a : Prop) [Decidable a] (b : Bool), (¬ a ∨ b = true) ↔ (a → b = true) := fun a _ b => ⟨fun h h2 => h.elim (fun c => absurd h2 c) id, fun h => by
    by_cases c : a
    · exact .inr (h c)
    · exact .inl c⟩
  rw [e, e, e, e]
theorem v54 (d b w : Int) : oP d b w = if decide (b = 0) then f5 d w else d := by
  unfold oP; by_cases h : b = 0
  · rw [if_pos h, decide_eq_true h]; rfl
  · rw [if_neg h, decide_eq_false h]; rfl
theorem u4e (d : Int) (xs ys : List Bx) (i j : Nat) : shW d xs ys i j = oQ d (decide (vR [u2 xs i] [cC 14 (u2 xs i) (u2 ys j)] = 0)) (decide (vR [u2 xs i] [cC 13 (u2 xs i) (u2 ys j)] = 0)) (decide (vR [u2 xs i] [cC 11 (u2 xs i) (u2 ys j)] = 0)) (decide (vR [u2 xs i] [cC 7 (u2 xs i) (u2 ys j)] = 0)) := by
  show oP (oP (oP (oP d _ 1) _ 2) _ 4) _ 8 = _
  simp only [v54]; rfl
theorem u4g {x y : Bx} (hx : BxV x) (hy : BxV y) : (vR [x] [cC 14 x y] = 0 ↔ (gB x y).1) ∧ (vR [x] [cC 13 x y] = 0 ↔ (gB x y).2.1) ∧ (vR [x] [cC 11 x y] = 0 ↔ (gB x y).2.2.1) ∧ (vR [x] [cC 7 x y] = 0 ↔ (gB x y).2.2.2) := by
  have f : ∀ e : Int, vR [x] [cC e x y] = 0 ↔ (qG e 1 = 0 → (gB x y).1) ∧ (qG e 2 = 0 → (gB x y).2.1) ∧ (qG e 4 = 0 → (gB x y).2.2.1) ∧ (qG e 8 = 0 → (gB x y).2.2.2) := fun e => by
    obtain ⟨h1, h2, h3, h4⟩ := k63 (d := e) (y := y) hx
    rw [u8x hx (k3u e hx hy).1, h1, h2, h3, h4]
  have no : ∀ {a : Int} {p : Prop}, ¬ a = 0 → ((a = 0 → p) ↔ True) := fun h => ⟨fun _ => trivial, fun _ e => absurd e h⟩
  have yes : ∀ {a : Int} {p : Prop}, a = 0 → ((a = 0 → p) ↔ p) := fun h => ⟨fun f => f h, fun f _ => f⟩
  refine ⟨?_, ?_, ?_, ?_⟩
  · rw [f 14, yes (by decide), no (by decide), no (by decide), no (by decide)]; simp
  · rw [f 13, no (by decide), yes (by decide), no (by decide), no (by decide)]; simp
  · rw [f 11, no (by decide), no (by decide), yes (by decide), no (by decide)]; simp
  · rw [f 7, no (by decide), no (by decide), no (by decide), yes (by decide)]; simp
theorem u74 {d : Int} (hd : 0 ≤ d ∧ d ≤ 15) {xs ys : List Bx} (h : BsV xs) (h2 : BsV ys) {i j : Nat} (hi : i < xs.length) (hj : j < ys.length) : (0 ≤ shW d xs ys i j ∧ shW d xs ys i j ≤ 15) ∧ qG (shW d xs ys i j) d = d ∧ (shW d xs ys i j = 15 ↔ (gB (u2 xs i) (cC d (u2 xs i) (u2 ys j))).1 ∧ (gB (u2 xs i) (cC d (u2 xs i) (u2 ys j))).2.1 ∧ (gB (u2 xs i) (cC d (u2 xs i) (u2 ys j))).2.2.1 ∧ (gB (u2 xs i) (cC d (u2 xs i) (u2 ys j))).2.2.2) := by
  have hx := h _ (qM hi); have hy := h2 _ (qM hj)
  obtain ⟨e1, e2, e3, e4⟩ := u4g hx hy
  obtain ⟨m1, m2, m3, m4⟩ := k63 (d := d) (y := u2 ys j) hx
  rw [u4e, m1, m2, m3, m4, ← e1, ← e2, ← e3, ← e4]
  have := u7i hd (decide (vR [u2 xs i] [cC 14 (u2 xs i) (u2 ys j)] = 0)) (decide (vR [u2 xs i] [cC 13 (u2 xs i) (u2 ys j)] = 0)) (decide (vR [u2 xs i] [cC 11 (u2 xs i) (u2 ys j)] = 0)) (decide (vR [u2 xs i] [cC 7 (u2 xs i) (u2 ys j)] = 0))
  simp only [decide_eq_true_iff] at this
  exact this
/-! what is reached, when spans and boxes are few -/
def BsC (N : Nat) (xs : List Bx) : Prop := ∀ b ∈ xs, BxV b ∧ b.rn ≤ N ∧ b.sn ≤ N
theorem BsC.v {N : Nat} {xs : List Bx} (h : BsC N xs) : BsV xs := fun b hb => (h b hb).1
theorem BsC.mono {N M : Nat} {xs : List Bx} (h : BsC N xs) (hm : N ≤ M) : BsC M xs := fun b hb => by
  have := h b hb; exact ⟨this.1, by omega, by omega⟩
theorem u5p {x z : Bx} (hx : BxV x) (hz : BxV z) : zO [x] [z] 0 0 = true ↔ (gB x z).1 ∧ (gB x z).2.1 ∧ (gB x z).2.2.1 ∧ (gB x z).2.2.2 := by
  have e := k9q (xs := [x]) (ys := [z]) (i := 0) (j := 0) (BsV.one hx).w (BsV.one hz).w ((BsV.one hx).vb (by show 1 ≤ 64; decide)) (by show 0 < 1; decide)
  rw [e]
  unfold k5j
  rw [k5i]
  have a1 : ∀ a b : List Int, 1 ≤ gZ a b ↔ 1 ≤ qK a b := fun a b => by rw [k4j]; omega
  show ¬ qG x.k z.k = 0 ∧ 1 ≤ List.length (uS x.m z.m (List.length x.m)) ∧ 1 ≤ gZ (kB x.r x.rn) (kB z.r z.rn) ∧ 1 ≤ gZ (kB x.s x.sn) (kB z.s z.sn) ↔ _
  rw [a1, a1]
  exact ⟨fun ⟨a, b, c, d⟩ => ⟨a, c, b, d⟩, fun ⟨a, b, c, d⟩ => ⟨a, c, b, d⟩⟩
theorem k9r {a b : List Int} {n m : Nat} (ha : a.length = n * 2) (hb : b.length = m * 2) : qK (kB a n) (kB b m) ≤ n + m := by
  have := k7p ha hb
  unfold qK; rw [List.length_take]; omega
theorem u7y {x z : Bx} (hx : BxV x) (hz : BxV z) (h1 : x.rn + z.rn < 64) (h2 : x.sn + z.sn < 64) : eN [x] [z] = 0 ∧ BsC (max (x.rn + z.rn) (x.sn + z.sn)) (yE [x] [z]) ∧ List.length (yE [x] [z]) ≤ 1 ∧ (1 ≤ List.length (yE [x] [z]) ↔ zO [x] [z] 0 0 = true) := by
  have vx := (BsV.one hx).vb (by show 1 ≤ 64; decide)
  have vz := (BsV.one hz).vb (by show 1 ≤ 64; decide)
  have hs : crS [x] [z] 0 0 = true := u6r (sF hx.1.1 hz.1.1 h1) (sF hx.1.2.1 hz.1.2.1 h2)
  cases hc : zO [x] [z] 0 0 with
  | false =>
    obtain ⟨e1, e2⟩ := k7k vx vz (((CI.zero [x] [z]).in.n hc).out rfl) rfl
    rw [e1, e2, show bD ([] : List Bx) = [] from rfl]
    exact ⟨rfl, ⟨fun b hb => (by cases hb), Nat.zero_le _, ⟨fun h => absurd h (by decide), fun h => (by cases h)⟩⟩⟩
  | true =>
    obtain ⟨e1, e2⟩ := k7k vx vz (((CI.zero [x] [z]).in.y hc hs (by decide)).out rfl) rfl
    have hv : BxV (crB [x] [z] 0 0) := k9s hx hz hc
    obtain ⟨r1, r2⟩ := k5u (xs := [] ++ [crB [x] [z] 0 0]) rfl ((BsV.one hv).vb (by show 1 ≤ 64; decide))
    rw [e1, e2, r1]
    refine ⟨r2, fun b hb => ?_, Nat.le_refl 1, ⟨fun _ => rfl, fun _ => Nat.le_refl 1⟩⟩
    rw [List.mem_singleton.1 hb]
    refine ⟨hv, ?_, ?_⟩
    · have := k9r hx.1.1 hz.1.1
      show qK (kB x.r x.rn) (kB z.r z.rn) ≤ _; omega
    · have := k9r hx.1.2.1 hz.1.2.1
      show qK (kB x.s x.sn) (kB z.s z.sn) ≤ _; omega
theorem jS {d : Int} {N M : Nat} {xs ys : List Bx} (h : BsC N xs) (h2 : BsC M ys) (hN : N + max N M < 64) {i j : Nat} (hi : i < xs.length) (hj : j < ys.length) : mxE d xs ys i j = 0 ∧ BsC (N + max N M) (lV d xs ys i j) ∧ List.length (lV d xs ys i j) ≤ 1 ∧ (1 ≤ List.length (lV d xs ys i j) ↔ zO [u2 xs i] [cC d (u2 xs i) (u2 ys j)] 0 0 = true) := by
  obtain ⟨a1, a2, a3⟩ := h _ (qM hi)
  obtain ⟨b1, b2, b3⟩ := h2 _ (qM hj)
  obtain ⟨z1, z2, z3⟩ := k3u d a1 b1
  have := u7y a1 z1 (by omega) (by omega)
  exact ⟨this.1, this.2.1.mono (by omega), this.2.2.1, this.2.2.2⟩
theorem u4j {d : Int} {N M : Nat} {xs ys : List Bx} (h : BsC N xs) (h2 : BsC M ys) (hN : N + max N M < 64) (hn : xs.length * ys.length ≤ 64) {i : Nat} (hi : i < xs.length) (hb : riB d xs ys i = true) (hl : (n9 d xs ys i).length ≤ i * ys.length) : ∀ j, j ≤ ys.length → rjB d xs ys i (riB d xs ys i) j = true ∧ (rjL d xs ys i (n9 d xs ys i) j).length ≤ i * ys.length + j
  | 0, _ => ⟨hb, hl⟩
  | j + 1, hj => by
    obtain ⟨h3, h4⟩ := u4j h h2 hN hn hi hb hl j zo
    obtain ⟨m1, _, m2, _⟩ := jS (d := d) h h2 hN hi (show j < ys.length by omega)
    have h5 : (i + 1) * ys.length ≤ xs.length * ys.length := Nat.mul_le_mul_right _ hi
    rw [Nat.succ_mul] at h5
    refine ⟨?_, ?_⟩
    · show (rjB d xs ys i (riB d xs ys i) j && decide _) = true
      rw [h3, decide_eq_true ⟨m1, by omega⟩]; rfl
    · show (rjL d xs ys i (n9 d xs ys i) j ++ lV d xs ys i j).length ≤ _
      rw [List.length_append]; omega
theorem k5q {d : Int} {N M : Nat} {xs ys : List Bx} (h : BsC N xs) (h2 : BsC M ys) (hN : N + max N M < 64) (hn : xs.length * ys.length ≤ 64) : ∀ i, i ≤ xs.length → riB d xs ys i = true ∧ (n9 d xs ys i).length ≤ i * ys.length
  | 0, _ => ⟨rfl, Nat.zero_le _⟩
  | i + 1, hi => by
    obtain ⟨h3, h4⟩ := k5q h h2 hN hn i zo
    obtain ⟨h5, h6⟩ := u4j h h2 hN hn (show i < xs.length by omega) h3 h4 ys.length (Nat.le_refl _)
    exact ⟨h5, by rw [Nat.succ_mul]; exact h6⟩
theorem k5p {d : Int} {xs ys : List Bx} {i : Nat} {o : List Bx} {b : Bx} : ∀ j, b ∈ rjL d xs ys i o j ↔ b ∈ o ∨ ∃ k, k < j ∧ b ∈ lV d xs ys i k
  | 0 => ⟨.inl, fun h => h.elim id fun ⟨k, hk, _⟩ => absurd hk (Nat.not_lt_zero k)⟩
  | j + 1 => by
    rw [rjL, List.mem_append, k5p j]
    constructor
    · rintro ((h | ⟨k, hk, h⟩) | h)
      · exact .inl h
      · exact .inr ⟨k, by omega, h⟩
      · exact .inr ⟨j, by omega, h⟩
    · rintro (h | ⟨k, hk, h⟩)
      · exact .inl (.inl h)
      · by_cases e : k = j
        · subst e; exact .inr h
        · exact .inl (.inr ⟨k, by omega, h⟩)
theorem jN {d : Int} {xs ys : List Bx} {b : Bx} : ∀ i, b ∈ n9 d xs ys i ↔ ∃ a k, a < i ∧ k < ys.length ∧ b ∈ lV d xs ys a k
  | 0 => ⟨fun h => (by cases h), fun ⟨a, _, h, _⟩ => absurd h (Nat.not_lt_zero a)⟩
  | i + 1 => by
    rw [n9, k5p, jN i]
    constructor
    · rintro (⟨a, k, h1, h⟩ | ⟨k, h⟩)
      · exact ⟨a, k, by omega, h⟩
      · exact ⟨i, k, by omega, h⟩
    · rintro ⟨a, k, h1, h⟩
      by_cases e : a = i
      · subst e; exact .inr ⟨k, h⟩
      · exact .inl ⟨a, k, by omega, h⟩
theorem tA {d : Int} {xs ys : List Bx} {x : Int} : ∀ i, x ∈ lO d xs ys i ↔ ∃ a k, a < i ∧ k < ys.length ∧ x = shW d xs ys a k
  | 0 => ⟨fun h => (by cases h), fun ⟨a, _, h, _⟩ => absurd h (Nat.not_lt_zero a)⟩
  | i + 1 => by
    rw [lO, List.mem_append, tA i, List.mem_map]
    constructor
    · rintro (⟨a, k, h1, h2, h3⟩ | ⟨k, h1, h2⟩)
      · exact ⟨a, k, by omega, h2, h3⟩
      · exact ⟨i, k, by omega, List.mem_range.1 h1, h2.symm⟩
    · rintro ⟨a, k, h1, h2, h3⟩
      by_cases e : a = i
      · subst e; exact .inr ⟨k, List.mem_range.2 h2, h3.symm⟩
      · exact .inl ⟨a, k, by omega, h2, h3⟩
theorem iX (d : Int) (xs ys : List Bx) : ∀ i, List.length (lO d xs ys i) = i * List.length ys
  | 0 => (Nat.zero_mul _).symm
  | i + 1 => by rw [lO, List.length_append, iX d xs ys i, List.length_map, List.length_range, Nat.succ_mul]
theorem u4m {d : Int} {N M : Nat} {xs ys : List Bx} (h : BsC N xs) (h2 : BsC M ys) (hN : N + max N M < 64) (hn : xs.length * ys.length ≤ 64) : jC d xs ys = 0 ∧ BsC (N + max N M) (cB d xs ys) ∧ List.length (cB d xs ys) ≤ xs.length * ys.length ∧ (List.length (cB d xs ys) = 0 → ∀ i j, i < xs.length → j < ys.length → zO [u2 xs i] [cC d (u2 xs i) (u2 ys j)] 0 0 = false) := by
  obtain ⟨h3, h4⟩ := k5q (d := d) h h2 hN hn xs.length (Nat.le_refl _)
  have hC : BsC (N + max N M) (n9 d xs ys xs.length) := fun b hb => by
    obtain ⟨i, j, hi, hj, h5⟩ := (jN _).1 hb
    exact (jS h h2 hN hi hj).2.1 b h5
  obtain ⟨r1, r2, r3⟩ := k5z hC.v zo
  have e1 : cB d xs ys = bD (n9 d xs ys xs.length) := by unfold cB; rw [h3]; rfl
  have e2 : jC d xs ys = jB (n9 d xs ys xs.length) := by unfold jC; rw [h3]; rfl
  rw [e1, e2]
  refine ⟨r2, fun b hb => ?_, Nat.le_trans (m7 _) h4, fun h0 i j hi hj => ?_⟩
  · rw [r1] at hb
    obtain ⟨k, hk, _, rfl⟩ := (jP _).1 hb
    exact hC _ (qM hk)
  · rw [← Bool.not_eq_true]
    intro hc
    obtain ⟨b, hb⟩ := List.exists_mem_of_length_pos ((jS (d := d) h h2 hN hi hj).2.2.2.2 hc)
    have hb2 : b ∈ n9 d xs ys xs.length := (jN _).2 ⟨i, j, hi, hj, hb⟩
    have hv := (hC b hb2).1
    have hh := (nJ hv).1 (l7 hv.g ⟨0, 0, [], 0⟩).1
    obtain ⟨b', hb', _⟩ := (rO hC.v zo _).2 ⟨b, hb2, hh⟩
    have := List.length_pos_of_mem hb'
    omega
end Go.Proofs.YtbicifcgghmhaaaGreat
