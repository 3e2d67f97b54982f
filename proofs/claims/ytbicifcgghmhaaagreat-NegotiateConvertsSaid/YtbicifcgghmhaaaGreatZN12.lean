/- Merged texts. -/
import Derived.Test.YtbicifcgghmhaaaGreatZU10
import Derived.Test.YtbicifcgghmhaaaGreatZD12
namespace Go.Proofs.YtbicifcgghmhaaaGreat
open Go.ChangeShapes Go.WideShapes Go.ChangeAt Go.RowKit
set_option linter.unusedVariables false
set_option linter.unusedSimpArgs false
/-! chapter 10: intersections of any lists, as the reference makes them -/
theorem k4u (a b : List Int) : qT a b = min (iK a b) 64 := (u4p (a := a) (b := b) rfl).2
theorem u7k {a b : List Int} {x : Int} (h : bM (uN a b) x = true) : bM a x = true ∧ bM b x = true := by
  have h1 := vJ.1 h
  unfold uN at h1; rw [hY] at h1
  obtain ⟨p, hp, h2⟩ := h1
  have h3 := (nY _ _ x).1 ⟨p, List.mem_of_mem_take hp, h2⟩
  exact ⟨vJ.2 h3.1, vJ.2 h3.2⟩
theorem v3b {z : BitVec 64} (h : IntKind.i64.wrap ((z.toNat : Nat) : Int) = 0) : z = 0#64 := by
  have h1 := z.isLt
  apply BitVec.eq_of_toNat_eq
  show z.toNat = 0
  unfold IntKind.wrap at h
  simp [IntKind.bits, IntKind.signed] at h
  omega
theorem v3a (z : BitVec 64) : BitVec.ofInt 64 (IntKind.i64.wrap ((z.toNat : Nat) : Int)) = z := by
  have h1 := z.isLt
  apply BitVec.eq_of_toInt_eq
  rw [BitVec.toInt_ofInt, BitVec.toInt_eq_toNat_bmod]
  unfold IntKind.wrap
  simp [IntKind.bits, IntKind.signed, Int.bmod]
  omega
theorem v2j {k k2 : Int} (h : lN k = 0) : lN (qH k k2) = 0 := by
  have h1 : BitVec.ofInt 64 k &&& ~~~ BitVec.ofInt 64 254 = 0#64 := v3b h
  show IntKind.i64.wrap (((BitVec.ofInt 64 (IntKind.i64.wrap (((BitVec.ofInt 64 k &&& BitVec.ofInt 64 k2).toNat : Nat) : Int)) &&& ~~~ BitVec.ofInt 64 254).toNat : Nat) : Int) = 0
  rw [v3a]
  have h2 : BitVec.ofInt 64 k &&& BitVec.ofInt 64 k2 &&& ~~~ BitVec.ofInt 64 254 = 0#64 := by
    rw [BitVec.and_assoc, BitVec.and_comm (BitVec.ofInt 64 k2), ← BitVec.and_assoc, h1]; exact BitVec.zero_and
  rw [h2]; rfl
theorem k0d {xs : List Bx} (h : BsW xs) (hv : c8 xs = true) {i : Nat} (hi : i < xs.length) : List.length (qE xs i) = k9 xs i * 2 ∧ List.length (qD xs i) = k8 xs i * 2 ∧ (¬ kT xs i = 0 ∧ lN (kT xs i) = 0) ∧ eZ (qE xs i) (k9 xs i) 1000 768000 = true ∧ nB (kW xs i) = true ∧ eZ (qD xs i) (k8 xs i) 1 65536 = true := by
  have h1 := (of_decide_eq_true hv).2 i hi
  obtain ⟨p1, p2, p3, p4⟩ := bC h1
  exact ⟨(h.at i).1, (h.at i).2.1, p1, p2, p3, p4⟩
theorem u3u {a b : List Int} {n m : Nat} {lo hi : Int} (ha : a.length = n * 2) (hb : b.length = m * 2) (h : eZ a n lo hi = true) (h1 : 1 ≤ qT (kB a n) (kB b m)) : eZ (uN (kB a n) (kB b m)) (qT (kB a n) (kB b m)) lo hi = true :=
  k59 (u4 _ _) (k16 ha hb) h1 fun x hx => k0c ha h (by have := (u7k hx).1; rwa [(fH h).2.1] at this)
def k5p (xs ys : List Bx) (i j : Nat) : Nat := smN (qH (kT xs i) (kT ys j)) (List.length (u5 (kW xs i) (kW ys j) (List.length (kW xs i)))) (iK (kB (qE xs i) (k9 xs i)) (kB (qE ys j) (k9 ys j))) (iK (kB (qD xs i) (k8 xs i)) (kB (qD ys j) (k8 ys j)))
def mnB (n m : Nat) : Bool := decide (64 < n ∨ 64 < m)
def mnE (xs ys : List Bx) (i j : Nat) : Bool := mnB (iK (kB (qE xs i) (k9 xs i)) (kB (qE ys j) (k9 ys j))) (iK (kB (qD xs i) (k8 xs i)) (kB (qD ys j) (k8 ys j)))
theorem k5o {k : Int} {c n m : Nat} : smN k c n m = 1 ↔ ¬ k = 0 ∧ 1 ≤ c ∧ 1 ≤ n ∧ 1 ≤ m := by
  unfold smN; split
  · exact ⟨fun _ => by assumption, fun _ => rfl⟩
  · exact ⟨fun e => (by cases e), fun e => absurd e (by assumption)⟩
theorem k9u {xs ys : List Bx} (hx : BsW xs) (hy : BsW ys) (vx : c8 xs = true) {i j : Nat} (hi : i < xs.length) : crV xs ys i j = true ↔ k5p xs ys i j = 1 := by
  obtain ⟨a1, a2, a3, a4, a5, a6⟩ := k0d hx vx hi
  have b1 := (hy.at j).1; have b2 := (hy.at j).2.1
  unfold k5p
  rw [k5o]
  have er : 1 ≤ iK (kB (qE xs i) (k9 xs i)) (kB (qE ys j) (k9 ys j)) ↔ 1 ≤ qT (kB (qE xs i) (k9 xs i)) (kB (qE ys j) (k9 ys j)) := by rw [k4u]; omega
  have es : 1 ≤ iK (kB (qD xs i) (k8 xs i)) (kB (qD ys j) (k8 ys j)) ↔ 1 ≤ qT (kB (qD xs i) (k8 xs i)) (kB (qD ys j) (k8 ys j)) := by rw [k4u]; omega
  rw [er, es]
  constructor
  · intro h
    obtain ⟨p1, p2, p3, p4⟩ := bC (show gO _ _ _ _ _ _ = true from h)
    exact ⟨p1.1, k5b p3, (fH p2).2.2.2, (fH p4).2.2.2⟩
  · rintro ⟨h1, h2, h3, h4⟩
    exact u01 ⟨h1, v2j a3.2⟩ (u3u a1 b1 a4 h3) (v1u a5 h2) (u3u a2 b2 a6 h4)
/-! the part of a set above a number -/
def avP (v : Int) : List Sp → List Sp
  | [] => []
  | p :: r => if v < p.2 then (max p.1 (v + 1), p.2) :: avP v r else avP v r
theorem k3l (v : Int) : ∀ a b : List Sp, avP v (a ++ b) = avP v a ++ avP v b
  | [], _ => rfl
  | p :: a, b => by
    show (if v < p.2 then _ :: avP v (a ++ b) else avP v (a ++ b)) = _
    rw [k3l v a b, avP]; split <;> rfl
theorem t6 {v : Int} : ∀ {a : List Sp} {q : Sp}, q ∈ avP v a → ∃ p ∈ a, p.1 ≤ q.1 ∧ q.2 = p.2
  | [], q, h => by cases h
  | p :: a, q, h => by
    rw [avP] at h
    split at h
    · rcases List.mem_cons.1 h with rfl | h
      · exact ⟨p, List.mem_cons_self .., by show p.1 ≤ max p.1 (v + 1); omega, rfl⟩
      · obtain ⟨p', h1, h2⟩ := t6 h; exact ⟨p', List.mem_cons_of_mem _ h1, h2⟩
    · obtain ⟨p', h1, h2⟩ := t6 h; exact ⟨p', List.mem_cons_of_mem _ h1, h2⟩
theorem t4 {v : Int} : ∀ {a : List Sp}, cB a → cB (avP v a)
  | [], _ => trivial
  | p :: a, h => by
    rw [avP]
    split
    · refine ⟨?_, fun q hq => ?_, t4 h.2.2⟩
      · have := h.1; unfold dW at this ⊢; simp only; omega
      · obtain ⟨p', h1, h2, _⟩ := t6 hq
        have := h.2.1 p' h1
        simp only; omega
    · exact t4 h.2.2
theorem t5 {v x : Int} : ∀ {a : List Sp}, cH (avP v a) x ↔ cH a x ∧ v < x
  | [] => ⟨fun h => absurd h (dE x), fun h => absurd h.1 (dE x)⟩
  | p :: a => by
    rw [avP, q6]
    split
    · rw [q6, t5 (a := a)]; simp only
      constructor
      · rintro (h | h)
        · exact ⟨.inl (by omega), by omega⟩
        · exact ⟨.inr h.1, h.2⟩
      · rintro ⟨h | h, h2⟩
        · exact .inl (by omega)
        · exact .inr ⟨h, h2⟩
    · rw [t5 (a := a)]
      constructor
      · rintro ⟨h, h2⟩; exact ⟨.inr h, h2⟩
      · rintro ⟨h | h, h2⟩
        · omega
        · exact ⟨h, h2⟩
theorem u0b {l : List Int} {v : Int} {n : Nat} (hl : l.length = n * 2) : ∀ k, k ≤ n → qX (eD l v k) = avP v (List.take k (qX l))
  | 0, _ => rfl
  | k + 1, hk => by
    have ih := u0b (v := v) hl k (by omega)
    have e : List.take (k + 1) (qX l) = List.take k (qX l) ++ [(List.getD l (k * 2) 0, List.getD l (k * 2 + 1) 0)] := by
      rw [List.take_succ_eq_append_getElem (by rw [uF hl]; omega), sE hl (by omega)]
    rw [e, k3l, ← ih, eD]
    have hL := (tZ l v k).1
    by_cases h : v < List.getD l (k * 2 + 1) 0
    · rw [if_pos h, iU hL]
      show _ = _ ++ (if v < List.getD l (k * 2 + 1) 0 then _ else _)
      rw [if_pos h]; rfl
    · rw [if_neg h]
      show _ = _ ++ (if v < List.getD l (k * 2 + 1) 0 then _ else _)
      rw [if_neg h]; exact (List.append_nil _).symm
theorem u4k {a b : List Int} {n m : Nat} (ha : a.length = n * 2) (hb : b.length = m * 2) (va : gK a n = true) (vb : gK b m = true) : mI a n b m = true ↔ iK (kB a n) (kB b m) ≤ 64 := by
  obtain ⟨na, oa⟩ := (aI ha).1 va
  obtain ⟨nb, ob⟩ := (aI hb).1 vb
  have hi := k4u (kB a n) (kB b m)
  by_cases h : qT (kB a n) (kB b m) < 64
  · exact ⟨fun _ => by omega, fun _ => u7a h⟩
  have h64 : 64 ≤ iK (kB a n) (kB b m) := by omega
  have hL : cB (aU (qX (kB a n)) (qX (kB b m))) := k32 (uQ ha) (uQ hb)
  have hn : (aU (qX (kB a n)) (qX (kB b m))).length = iK (kB a n) (kB b m) := rfl
  have ev : List.getD (uN (kB a n) (kB b m)) 127 0 = ((aU (qX (kB a n)) (qX (kB b m)))[63]'(by omega)).2 := by
    have h1 := sE (u4 (kB a n) (kB b m)) (show 63 < qT (kB a n) (kB b m) by omega)
    have h2 : qX (uN (kB a n) (kB b m)) = List.take 64 (aU (qX (kB a n)) (qX (kB b m))) := by unfold uN; exact hY _
    have h3 : (qX (uN (kB a n) (kB b m)))[63]? = some ((aU (qX (kB a n)) (qX (kB b m)))[63]'(by omega)) := by
      rw [h2, List.getElem?_take_of_lt (by decide), List.getElem?_eq_getElem (by omega)]
    rw [List.getElem?_eq_getElem (by rw [uF (u4 _ _)]; omega), h1] at h3
    have h4 := congrArg Prod.snd (Option.some.inj h3)
    exact h4
  generalize hv : List.getD (uN (kB a n) (kB b m)) 127 0 = v at *
  have hav := tZ a v n
  have eav : qX (eD a v n) = avP v (qX a) := by
    rw [u0b ha n (Nat.le_refl _), List.take_of_length_le (by rw [uF ha]; omega)]
  have vav : gK (eD a v n) (l3 a v n) = true := (aI hav.1).2 ⟨by omega, by rw [eav]; exact t4 oa⟩
  have ea : kB a n = a := (k0k va).1
  have hr := k4u (kB (eD a v n) (l3 a v n)) (kB b m)
  rw [(k0k vav).1] at hr
  have key : 1 ≤ iK (eD a v n) (kB b m) ↔ 64 < iK (kB a n) (kB b m) := by
    constructor
    · intro h1
      obtain ⟨p, hp⟩ := List.exists_mem_of_length_pos (show 0 < (aU (qX (eD a v n)) (qX (kB b m))).length from h1)
      have ho : cB (aU (qX (eD a v n)) (qX (kB b m))) := k32 (by rw [eav]; exact t4 oa) (uQ hb)
      have hp2 := dC ho p hp
      unfold dW at hp2
      have h2 := (nY _ _ p.1).1 ⟨p, hp, Int.le_refl _, hp2.2.1⟩
      rw [eav, t5] at h2
      have h3 : cH (aU (qX (kB a n)) (qX (kB b m))) p.1 := (nY _ _ _).2 ⟨by rw [ea]; exact h2.1.1, h2.2⟩
      obtain ⟨q, hq, h4, h5⟩ := h3
      obtain ⟨z, hz, rfl⟩ := List.mem_iff_getElem.1 hq
      by_cases hz2 : 64 ≤ z
      · omega
      · exfalso
        have mono : ∀ d, z + d ≤ 63 → ((aU (qX (kB a n)) (qX (kB b m)))[z]'hz).2 ≤ ((aU (qX (kB a n)) (qX (kB b m)))[63]'(by omega)).2 ∨ d + z < 63 := fun d => by
          intro _
          by_cases e : d + z = 63
          · left
            have : ∀ d (hd : z + d < (aU (qX (kB a n)) (qX (kB b m))).length), ((aU (qX (kB a n)) (qX (kB b m)))[z]'hz).2 ≤ ((aU (qX (kB a n)) (qX (kB b m)))[z + d]'hd).2 := fun d => by
              induction d with
              | zero => intro _; exact Int.le_refl _
              | succ d ih =>
                intro hd
                have i1 := ih (by omega)
                have g := iW _ hL (z + d) _ _ (List.getElem?_eq_getElem (by omega)) (List.getElem?_eq_getElem (by omega))
                have v2 := dC hL _ (List.getElem_mem (show z + d + 1 < _ from hd))
                unfold dW at v2
                exact Int.le_trans i1 (by have := v2.2.1; show _ ≤ ((aU (qX (kB a n)) (qX (kB b m)))[z + d + 1]'hd).2; omega)
            have h9 := this (63 - z) (by omega)
            simpa [show z + (63 - z) = 63 by omega] using h9
          · right; omega
        rcases mono (63 - z) (by omega) with h9 | h9
        · have := h2.1.2; omega
        · omega
    · intro h1
      have h64' : 64 < (aU (qX (kB a n)) (qX (kB b m))).length := h1
      have g := iW _ hL 63 _ _ (List.getElem?_eq_getElem (by omega)) (List.getElem?_eq_getElem (by omega))
      have hm := List.getElem_mem h64'
      have v2 := dC hL _ hm
      unfold dW at v2
      have h2 := (nY _ _ ((aU (qX (kB a n)) (qX (kB b m)))[64]'h64').1).1 ⟨_, hm, Int.le_refl _, v2.2.1⟩
      have hg : v < ((aU (qX (kB a n)) (qX (kB b m)))[64]'h64').1 := by
        rw [ev]; have : ((aU (qX (kB a n)) (qX (kB b m)))[63]'(by omega)).2 + 1 < ((aU (qX (kB a n)) (qX (kB b m)))[64]'h64').1 := g
        omega
      clear v2 hm g
      revert h2 hg
      generalize ((aU (qX (kB a n)) (qX (kB b m)))[64]'h64').1 = x
      intro h2 hg
      rw [ea] at h2
      have h3 : cH (aU (qX (eD a v n)) (qX (kB b m))) x := (nY _ _ _).2 ⟨by rw [eav, t5]; exact ⟨h2.1, hg⟩, h2.2⟩
      obtain ⟨p, hp, _⟩ := h3
      exact List.length_pos_of_mem hp
  unfold mI
  rw [hv, decide_eq_false h, Bool.false_or, decide_eq_true_iff, (k0k vav).1]
  constructor
  · intro h1; by_cases h2 : 64 < iK (kB a n) (kB b m)
    · have := key.2 h2; omega
    · omega
  · intro h1; by_cases h2 : 1 ≤ iK (eD a v n) (kB b m)
    · have := key.1 h2; omega
    · omega
theorem v1o {xs ys : List Bx} (hx : BsW xs) (hy : BsW ys) (vx : c8 xs = true) (vy : c8 ys = true) {i j : Nat} (hi : i < xs.length) (hj : j < ys.length) : crS xs ys i j = !(mnE xs ys i j) := by
  obtain ⟨a1, a2, _, a4, _, a6⟩ := k0d hx vx hi
  obtain ⟨b1, b2, _, b4, _, b6⟩ := k0d hy vy hj
  have e1 := u4k a1 b1 (fH a4).1 (fH b4).1
  have e2 := u4k a2 b2 (fH a6).1 (fH b6).1
  apply Bool.eq_iff_iff.2
  show (mI _ _ _ _ && mI _ _ _ _) = true ↔ _
  unfold mnE mnB
  rw [Bool.and_eq_true, e1, e2, Bool.not_eq_true', decide_eq_false_iff_not]
  omega
theorem v1p {xs ys : List Bx} {i j : Nat} (h : mnE xs ys i j = false) : crB xs ys i j = kD (qH (kT xs i) (kT ys j)) (alS (kB (qE xs i) (k9 xs i)) (kB (qE ys j) (k9 ys j))) (iK (kB (qE xs i) (k9 xs i)) (kB (qE ys j) (k9 ys j))) (u5 (kW xs i) (kW ys j) (List.length (kW xs i))) (alS (kB (qD xs i) (k8 xs i)) (kB (qD ys j) (k8 ys j))) (iK (kB (qD xs i) (k8 xs i)) (kB (qD ys j) (k8 ys j))) := by
  have h1 := of_decide_eq_false (show decide _ = false from h)
  obtain ⟨r1, r2⟩ := k7t (show iK (kB (qE xs i) (k9 xs i)) (kB (qE ys j) (k9 ys j)) ≤ 64 by omega)
  obtain ⟨s1, s2⟩ := k7t (show iK (kB (qD xs i) (k8 xs i)) (kB (qD ys j) (k8 ys j)) ≤ 64 by omega)
  unfold crB; rw [r1, r2, s1, s2]
/-! the steps of the reference's loops -/
theorem CJ2.rn {xs ys : List Bx} {i j : Nat} {o : List Bx} (h : CJ2 xs ys i j o) (hx : BsW xs) (hy : BsW ys) (vx : c8 xs = true) (hi : i < xs.length) (h1 : ¬ k5p xs ys i j = 1) : CJ2 xs ys i (j + 1) o := h.n (by
  rw [← Bool.not_eq_true, k9u hx hy vx hi]; exact h1)
theorem CJ2.ry {xs ys : List Bx} {i j : Nat} {o : List Bx} (h : CJ2 xs ys i j o) (hx : BsW xs) (hy : BsW ys) (vx : c8 xs = true) (vy : c8 ys = true) (hi : i < xs.length) (hj : j < ys.length) (h1 : k5p xs ys i j = 1) (h2 : mnE xs ys i j = false) (h3 : ¬ 64 ≤ List.length o) : CJ2 xs ys i (j + 1) (o ++ [kD (qH (kT xs i) (kT ys j)) (alS (kB (qE xs i) (k9 xs i)) (kB (qE ys j) (k9 ys j))) (iK (kB (qE xs i) (k9 xs i)) (kB (qE ys j) (k9 ys j))) (u5 (kW xs i) (kW ys j) (List.length (kW xs i))) (alS (kB (qD xs i) (k8 xs i)) (kB (qD ys j) (k8 ys j))) (iK (kB (qD xs i) (k8 xs i)) (kB (qD ys j) (k8 ys j)))]) := by
  rw [← v1p h2]
  exact h.y ((k9u hx hy vx hi).2 h1) (by rw [v1o hx hy vx vy hi hj, h2]; rfl) (by omega)
end Go.Proofs.YtbicifcgghmhaaaGreat
namespace Go.Proofs.YtbicifcgghmhaaaGreat
open Go.ChangeShapes Go.WideShapes Go.ChangeAt Go.RowKit
set_option linter.unusedVariables false
set_option linter.unusedSimpArgs false
/-! chapter 10: what is blamed -/
theorem k6d {xs ys : List Bx} {x : Int} : ∀ i, x ∈ pJ xs ys i ↔ ∃ a k, a < i ∧ k < ys.length ∧ x = shE xs ys a k
  | 0 => ⟨fun h => (by cases h), fun ⟨a, _, h, _⟩ => absurd h (Nat.not_lt_zero a)⟩
  | i + 1 => by
    rw [pJ, List.mem_append, k6d i, List.mem_map]
    constructor
    · rintro (⟨a, k, h1, h2, h3⟩ | ⟨k, h1, h2⟩)
      · exact ⟨a, k, by omega, h2, h3⟩
      · exact ⟨i, k, by omega, List.mem_range.1 h1, h2.symm⟩
    · rintro ⟨a, k, h1, h2, h3⟩
      by_cases e : a = i
      · subst e; exact .inr ⟨k, List.mem_range.2 h2, h3.symm⟩
      · exact .inl ⟨a, k, by omega, h2, h3⟩
theorem k71 {l : List Int} {s : Int} : o4 l l.length s = true ↔ ∃ x ∈ l, qH x s = s := by
  unfold o4; rw [decide_eq_true_iff]
  constructor
  · intro h
    obtain ⟨k, hk, h1⟩ := pZ h
    have h1 : stB (List.getD l k 0) s = true := h1
    rw [List.getD_eq_getElem?_getD, List.getElem?_eq_getElem hk] at h1
    exact ⟨l[k], List.getElem_mem hk, of_decide_eq_true h1⟩
  · rintro ⟨x, hx, h⟩
    obtain ⟨k, hk, rfl⟩ := List.mem_iff_getElem.1 hx
    by_cases e : 0 ≤ lX l s l.length
    · exact e
    · have h1 := lH e k hk
      have h1 : stB (List.getD l k 0) s = false := h1
      rw [List.getD_eq_getElem?_getD, List.getElem?_eq_getElem hk] at h1
      exact absurd h (of_decide_eq_false h1)
theorem k30 (l : List Int) (v : Int) : ∀ n, n ≤ l.length → (0 ≤ uT l v n ↔ ∃ k, k < n ∧ List.getD l k 0 = v)
  | 0, _ => ⟨fun h => absurd (show (0 : Int) ≤ -1 from h) (by decide), fun ⟨k, hk, _⟩ => absurd hk (Nat.not_lt_zero k)⟩
  | n + 1, hn => by
    have ih := k30 l v n (by omega)
    show 0 ≤ (if 0 ≤ uT l v n then uT l v n else if List.getD l n 0 = v then (n : Int) else -1) ↔ _
    by_cases h : 0 ≤ uT l v n
    · rw [if_pos h]
      obtain ⟨k, hk, e⟩ := ih.1 h
      exact ⟨fun _ => ⟨k, by omega, e⟩, fun _ => h⟩
    · rw [if_neg h]
      by_cases e : List.getD l n 0 = v
      · rw [if_pos e]; exact ⟨fun _ => ⟨n, by omega, e⟩, fun _ => by omega⟩
      · rw [if_neg e]
        refine ⟨fun h9 => absurd h9 (by decide), fun ⟨k, hk, e2⟩ => absurd (ih.2 ⟨k, ?_, e2⟩) h⟩
        by_cases e3 : k = n
        · subst e3; exact absurd e2 e
        · omega
theorem k9t {l : List Int} {v : Int} : ctB l l.length v = true ↔ v ∈ l := by
  unfold ctB; rw [decide_eq_true_iff, k30 l v _ (Nat.le_refl _)]
  constructor
  · rintro ⟨k, hk, rfl⟩
    rw [List.getD_eq_getElem?_getD, List.getElem?_eq_getElem hk]; exact List.getElem_mem hk
  · intro h
    obtain ⟨k, hk, rfl⟩ := List.mem_iff_getElem.1 h
    exact ⟨k, hk, by rw [List.getD_eq_getElem?_getD, List.getElem?_eq_getElem hk]; rfl⟩
theorem oA (l : List Int) (n : Nat) (hn : 1 ≤ n) : ∀ i : Nat, i ≤ 14 → (cJ l n i = 15 ∨ (14 - (i : Int) < cJ l n i ∧ cJ l n i ≤ 14 ∧ o4 l n (cJ l n i) = false)) ∧ ∀ s : Int, 14 - (i : Int) < s → s ≤ 14 → o4 l n s = false → uO (cJ l n i) ≤ uO s
  | 0, _ => ⟨.inl rfl, fun s h1 h2 => by omega⟩
  | i + 1, hi => by
    obtain ⟨h1, h2⟩ := oA l n hn i zo
    rw [cJ]
    by_cases hc : 1 ≤ n ∧ o4 l n (14 - (i : Int)) = false ∧ uO (14 - (i : Int)) ≤ uO (cJ l n i)
    · rw [if_pos hc]
      refine ⟨.inr ⟨by omega, by omega, hc.2.1⟩, fun s h3 h4 h5 => ?_⟩
      by_cases e : s = 14 - (i : Int)
      · rw [e]; exact Int.le_refl _
      · exact Int.le_trans hc.2.2 (h2 s (by omega) h4 h5)
    · rw [if_neg hc]
      refine ⟨h1.imp id fun h => ⟨by omega, h.2⟩, fun s h3 h4 h5 => ?_⟩
      by_cases e : s = 14 - (i : Int)
      · subst e
        by_cases h6 : uO (14 - (i : Int)) ≤ uO (cJ l n i)
        · exact absurd ⟨hn, h5, h6⟩ hc
        · omega
      · exact h2 s (by omega) h4 h5
theorem k5q (xs ys : List Bx) (i j : Nat) : ∃ p q r s : Int, (0 ≤ p ∧ p ≤ 1) ∧ (0 ≤ q ∧ q ≤ 1) ∧ (0 ≤ r ∧ r ≤ 1) ∧ (0 ≤ s ∧ s ≤ 1) ∧ shE xs ys i j = p + 2 * q + 4 * r + 8 * s ∧ (p = 1 ↔ (shP xs ys i j).1) ∧ (q = 1 ↔ (shP xs ys i j).2.1) ∧ (r = 1 ↔ (shP xs ys i j).2.2.1) ∧ (s = 1 ↔ (shP xs ys i j).2.2.2) := by
  have one : ∀ (a : Prop) [Decidable a] (b : Int), ∃ p : Int, (0 ≤ p ∧ p ≤ 1) ∧ (if a then 0 else b) = b * p ∧ (p = 1 ↔ ¬ a) := fun a _ b => by
    by_cases h : a
    · exact ⟨0, by omega, by rw [if_pos h]; simp, by simp [h]⟩
    · exact ⟨1, by omega, by rw [if_neg h]; simp, by simp [h]⟩
  obtain ⟨p, p1, p2, p3⟩ := one (qH (kT xs i) (kT ys j) = 0) 1
  obtain ⟨q, q1, q2, q3⟩ := one (qT (kB (qE xs i) (k9 xs i)) (kB (qE ys j) (k9 ys j)) = 0) 2
  obtain ⟨r, r1, r2, r3⟩ := one (List.length (u5 (kW xs i) (kW ys j) (List.length (kW xs i))) = 0) 4
  obtain ⟨s, s1, s2, s3⟩ := one (qT (kB (qD xs i) (k8 xs i)) (kB (qD ys j) (k8 ys j)) = 0) 8
  refine ⟨p, q, r, s, p1, q1, r1, s1, ?_, p3, ?_, ?_, ?_⟩
  · unfold shE wE; rw [p2, q2, r2, s2]; omega
  · rw [q3]; show _ ↔ 1 ≤ qT _ _; omega
  · rw [r3]; show _ ↔ 1 ≤ List.length _; omega
  · rw [s3]; show _ ↔ 1 ≤ qT _ _; omega
theorem u41 (xs ys : List Bx) (i j : Nat) : shE xs ys i j = 15 ↔ (shP xs ys i j).1 ∧ (shP xs ys i j).2.1 ∧ (shP xs ys i j).2.2.1 ∧ (shP xs ys i j).2.2.2 := by
  obtain ⟨p, q, r, s, p1, q1, r1, s1, e, p3, q3, r3, s3⟩ := k5q xs ys i j
  rw [e, ← p3, ← q3, ← r3, ← s3]; omega
/-! the law's parts -/
set_option linter.unusedSectionVars false
section
variable {xs bs : List Bx} (h : BsV xs) (h2 : BsV bs) (f : BsF xs) (f2 : BsF bs) (hn : xs.length ≤ 5 ∧ bs.length ≤ 5)
include h h2 f f2 hn
end
end Go.Proofs.YtbicifcgghmhaaaGreat
namespace Go.Proofs.YtbicifcgghmhaaaGreat
open Go.ChangeShapes Go.WideShapes Go.ChangeAt Go.RowKit
set_option linter.unusedVariables false
set_option linter.unusedSimpArgs false
/-! chapter 12: what is refused -/
def c5 (d : Int) (x y : Bx) : Bx := kD (zK d y.k x.k) (zL d 2 y.r x.r) (zN d 2 y.rn x.rn) (zM d 4 y.m x.m) (zL d 8 y.s x.s) (zN d 8 y.sn x.sn)
theorem u1p (d : Int) {x y : Bx} (hx : BxV x) (hy : BxV y) : BxV (c5 d x y) ∧ (c5 d x y).rn ≤ max x.rn y.rn ∧ (c5 d x y).sn ≤ max x.sn y.sn := by
  obtain ⟨⟨w1, w2, w3, w4, w5, w6⟩, k1, o1⟩ := hy
  obtain ⟨⟨v1, v2, v3, v4, v5, v6⟩, k2, o2⟩ := hx
  obtain ⟨p1, p2, p3, p4⟩ := bC o1
  obtain ⟨q1, q2, q3, q4⟩ := bC o2
  have e1 : (KG (c5 d x y).k ∧ (¬ (c5 d x y).k = 0 ∧ lN (c5 d x y).k = 0)) := by
    show KG (zK d y.k x.k) ∧ (¬ zK d y.k x.k = 0 ∧ lN (zK d y.k x.k) = 0)
    unfold zK; split
    · exact ⟨k1, p1⟩
    · exact ⟨k2, q1⟩
  have e2 : (c5 d x y).r.length = (c5 d x y).rn * 2 ∧ (c5 d x y).rn ≤ 1000000 ∧ (c5 d x y).rn ≤ max x.rn y.rn ∧ eZ (c5 d x y).r (c5 d x y).rn 1000 768000 = true := by
    show (zL d 2 _ _).length = zN d 2 _ _ * 2 ∧ zN d 2 _ _ ≤ 1000000 ∧ zN d 2 _ _ ≤ _ ∧ eZ (zL d 2 _ _) (zN d 2 _ _) 1000 768000 = true
    unfold zL zN; split
    · exact ⟨w1, w3, by omega, p2⟩
    · exact ⟨v1, v3, by omega, q2⟩
  have e3 : (c5 d x y).m.length ≤ 1000000 ∧ MsW (c5 d x y).m ∧ nB (c5 d x y).m = true := by
    show (zM d 4 _ _).length ≤ 1000000 ∧ MsW (zM d 4 _ _) ∧ nB (zM d 4 _ _) = true
    unfold zM; split
    · exact ⟨w5, w6, p3⟩
    · exact ⟨v5, v6, q3⟩
  have e4 : (c5 d x y).s.length = (c5 d x y).sn * 2 ∧ (c5 d x y).sn ≤ 1000000 ∧ (c5 d x y).sn ≤ max x.sn y.sn ∧ eZ (c5 d x y).s (c5 d x y).sn 1 65536 = true := by
    show (zL d 8 _ _).length = zN d 8 _ _ * 2 ∧ zN d 8 _ _ ≤ 1000000 ∧ zN d 8 _ _ ≤ _ ∧ eZ (zL d 8 _ _) (zN d 8 _ _) 1 65536 = true
    unfold zL zN; split
    · exact ⟨w2, w4, by omega, p4⟩
    · exact ⟨v2, v4, by omega, q4⟩
  exact ⟨⟨⟨e2.1, e4.1, e2.2.1, e4.2.1, e3.1, e3.2.1⟩, e1.1, u01 e1.2 e2.2.2.2 e3.2.2 e4.2.2.2⟩, e2.2.2.1, e4.2.2.1⟩
theorem k7r {a b : List Int} (h : ∃ x, bM a x = true ∧ bM b x = true) : 1 ≤ qT a b := by
  obtain ⟨x, h1, h2⟩ := h
  obtain ⟨p, hp, _⟩ := (nY _ _ x).2 ⟨vJ.1 h1, vJ.1 h2⟩
  have : 1 ≤ iK a b := List.length_pos_of_mem hp
  rw [k4u]; omega
theorem u38 {a : Bx} (ha : BxV a) : ¬ qH a.k a.k = 0 ∧ 1 ≤ qT (kB a.r a.rn) (kB a.r a.rn) ∧ 1 ≤ (u5 a.m a.m a.m.length).length ∧ 1 ≤ qT (kB a.s a.sn) (kB a.s a.sn) := by
  obtain ⟨⟨a1, a2, a0⟩, a3, a4, a9⟩ := BxV.sets ha
  have p3 := (bC ha.2.2).2.2.1
  obtain ⟨m, hm⟩ := List.exists_mem_of_length_pos (k5b p3)
  obtain ⟨x, hx⟩ := k79 ha.1.1 ((aI ha.1.1).1 a1).2 a0
  obtain ⟨y, hy⟩ := k79 ha.1.2.1 ((aI ha.1.2.1).1 a3).2 a9
  exact ⟨u3k ha.2.1, k7r ⟨x, by rw [a2]; exact ⟨hx, hx⟩⟩, List.length_pos_of_mem (k9z.2 ⟨hm, hm⟩), k7r ⟨y, by rw [a4]; exact ⟨hy, hy⟩⟩⟩
def jQ (x y : Bx) : Prop × Prop × Prop × Prop := (¬ qH x.k y.k = 0, 1 ≤ qT (kB x.r x.rn) (kB y.r y.rn), 1 ≤ (u5 x.m y.m x.m.length).length, 1 ≤ qT (kB x.s x.sn) (kB y.s y.sn))
theorem u48 {d : Int} {x y : Bx} (hx : BxV x) : ((jQ x (c5 d x y)).1 ↔ (qH d 1 = 0 → (jQ x y).1)) ∧ ((jQ x (c5 d x y)).2.1 ↔ (qH d 2 = 0 → (jQ x y).2.1)) ∧ ((jQ x (c5 d x y)).2.2.1 ↔ (qH d 4 = 0 → (jQ x y).2.2.1)) ∧ ((jQ x (c5 d x y)).2.2.2 ↔ (qH d 8 = 0 → (jQ x y).2.2.2)) := by
  obtain ⟨s1, s2, s3, s4⟩ := u38 hx
  refine ⟨?_, ?_, ?_, ?_⟩
  · show ¬ qH x.k (zK d y.k x.k) = 0 ↔ _
    unfold zK; by_cases c : qH d 1 = 0
    · rw [if_pos c]; exact ⟨fun a _ => a, fun a => a c⟩
    · rw [if_neg c]; exact ⟨fun _ e => absurd e c, fun _ => s1⟩
  · show 1 ≤ qT (kB x.r x.rn) (kB (zL d 2 y.r x.r) (zN d 2 y.rn x.rn)) ↔ _
    unfold zL zN; by_cases c : qH d 2 = 0
    · rw [if_pos c, if_pos c]; exact ⟨fun a _ => a, fun a => a c⟩
    · rw [if_neg c, if_neg c]; exact ⟨fun _ e => absurd e c, fun _ => s2⟩
  · show 1 ≤ (u5 x.m (zM d 4 y.m x.m) x.m.length).length ↔ _
    unfold zM; by_cases c : qH d 4 = 0
    · rw [if_pos c]; exact ⟨fun a _ => a, fun a => a c⟩
    · rw [if_neg c]; exact ⟨fun _ e => absurd e c, fun _ => s3⟩
  · show 1 ≤ qT (kB x.s x.sn) (kB (zL d 8 y.s x.s) (zN d 8 y.sn x.sn)) ↔ _
    unfold zL zN; by_cases c : qH d 8 = 0
    · rw [if_pos c, if_pos c]; exact ⟨fun a _ => a, fun a => a c⟩
    · rw [if_neg c, if_neg c]; exact ⟨fun _ e => absurd e c, fun _ => s4⟩
theorem u8n {x z : Bx} (hx : BxV x) (hz : BxV z) : vV [x] [z] = 0 ↔ (jQ x z).1 ∧ (jQ x z).2.1 ∧ (jQ x z).2.2.1 ∧ (jQ x z).2.2.2 := by
  have e : vV [x] [z] = blP (pJ [x] [z] 1) := by
    unfold vV; rw [(BsV.one hx).eq (by show 1 ≤ 64; decide), (BsV.one hz).eq (by show 1 ≤ 64; decide)]; rfl
  have hl : (pJ [x] [z] 1).length = 1 := by rw [k2c]; rfl
  have hm : (15 : Int) ∈ pJ [x] [z] 1 ↔ shE [x] [z] 0 0 = 15 := by
    rw [k6d]
    constructor
    · rintro ⟨a, k, h1, h2, h3⟩
      have h2 : k < 1 := h2
      obtain rfl : a = 0 := by omega
      obtain rfl : k = 0 := by omega
      exact h3.symm
    · intro h; exact ⟨0, 0, Nat.one_pos, show 0 < 1 from Nat.one_pos, h.symm⟩
  rw [e]
  unfold blP
  cases hc : ctB (pJ [x] [z] 1) (pJ [x] [z] 1).length 15 with
  | true =>
    rw [if_pos rfl]
    have := (u41 [x] [z] 0 0).1 (hm.1 (k9t.1 hc))
    exact ⟨fun _ => ⟨this.1, this.2.1, this.2.2.1, this.2.2.2⟩, fun _ => rfl⟩
  | false =>
    rw [if_neg (by decide)]
    have h1 := (oA (pJ [x] [z] 1) (pJ [x] [z] 1).length (by omega) 14 (Nat.le_refl _)).1
    constructor
    · intro h2; omega
    · rintro ⟨a, b, c, d⟩
      have := k9t.2 (hm.2 ((u41 [x] [z] 0 0).2 ⟨a, b, c, d⟩))
      rw [this] at hc; cases hc
/-! the dimensions of a pair -/
def oQ (d : Int) (p q r s : Bool) : Int :=
  let a := if p then aD d 1 else d
  let b := if q then aD a 2 else a
  let c := if r then aD b 4 else b
  if s then aD c 8 else c
def b2 (n : Nat) : Bool := n == 1
def oqC : Bool := (List.range 16).all fun d => (List.range 2).all fun p => (List.range 2).all fun q => (List.range 2).all fun r => (List.range 2).all fun s => decide (0 ≤ oQ (d : Int) (b2 p) (b2 q) (b2 r) (b2 s) ∧ oQ (d : Int) (b2 p) (b2 q) (b2 r) (b2 s) ≤ 15 ∧ qH (oQ (d : Int) (b2 p) (b2 q) (b2 r) (b2 s)) (d : Int) = (d : Int)) && (decide (oQ (d : Int) (b2 p) (b2 q) (b2 r) (b2 s) = 15) == ((decide (¬ qH (d : Int) 1 = 0) || b2 p) && ((decide (¬ qH (d : Int) 2 = 0) || b2 q) && ((decide (¬ qH (d : Int) 4 = 0) || b2 r) && (decide (¬ qH (d : Int) 8 = 0) || b2 s)))))
theorem v0p : oqC = true := by kernel_rfl
theorem u6w {d : Int} (hd : 0 ≤ d ∧ d ≤ 15) (p q r s : Bool) : (0 ≤ oQ d p q r s ∧ oQ d p q r s ≤ 15) ∧ qH (oQ d p q r s) d = d ∧ (oQ d p q r s = 15 ↔ (qH d 1 = 0 → p = true) ∧ (qH d 2 = 0 → q = true) ∧ (qH d 4 = 0 → r = true) ∧ (qH d 8 = 0 → s = true)) := by
  obtain ⟨d, rfl⟩ : ∃ n : Nat, d = (n : Int) := ⟨d.toNat, by omega⟩
  have M := fun {n k : Nat} (h : n < k) => List.mem_range.2 h
  have hb : ∀ b : Bool, ∃ n, n < 2 ∧ b2 n = b := fun b => by
    cases b
    · exact ⟨0, by decide, rfl⟩
    · exact ⟨1, by decide, rfl⟩
  obtain ⟨p, hp, rfl⟩ := hb p
  obtain ⟨q, hq, rfl⟩ := hb q
  obtain ⟨r, hr, rfl⟩ := hb r
  obtain ⟨s, hs, rfl⟩ := hb s
  have h := List.all_eq_true.1 (List.all_eq_true.1 (List.all_eq_true.1 (List.all_eq_true.1 (List.all_eq_true.1 v0p d (M (by omega))) p (M hp)) q (M hq)) r (M hr)) s (M hs)
  rw [Bool.and_eq_true, decide_eq_true_iff, beq_iff_eq] at h
  obtain ⟨⟨h1, h2, h3⟩, h4⟩ := h
  refine ⟨⟨h1, h2⟩, h3, decide_eq_true_iff.symm.trans ?_⟩
  rw [h4, Bool.and_eq_true, Bool.and_eq_true, Bool.and_eq_true, Bool.or_eq_true, Bool.or_eq_true, Bool.or_eq_true, Bool.or_eq_true]
  simp only [decide_eq_true_iff]
  have e : ∀ (a : Prop) [Decidable a] (b : Bool), (¬ a ∨ b = true) ↔ (a → b = true) := fun a _ b => ⟨fun h h2 => h.elim (fun c => absurd h2 c) id, fun h => by
    by_cases c : a
    · exact .inr (h c)
    · exact .inl c⟩
  rw [e, e, e, e]
theorem v41 (d b w : Int) : oP d b w = if decide (b = 0) then aD d w else d := by
  unfold oP; by_cases h : b = 0
  · rw [if_pos h, decide_eq_true h]; rfl
  · rw [if_neg h, decide_eq_false h]; rfl
theorem u9r (d : Int) (xs ys : List Bx) (i j : Nat) : shW d xs ys i j = oQ d (decide (vV [vC xs i] [c5 14 (vC xs i) (vC ys j)] = 0)) (decide (vV [vC xs i] [c5 13 (vC xs i) (vC ys j)] = 0)) (decide (vV [vC xs i] [c5 11 (vC xs i) (vC ys j)] = 0)) (decide (vV [vC xs i] [c5 7 (vC xs i) (vC ys j)] = 0)) := by
  show oP (oP (oP (oP d _ 1) _ 2) _ 4) _ 8 = _
  simp only [v41]; rfl
theorem u9u {x y : Bx} (hx : BxV x) (hy : BxV y) : (vV [x] [c5 14 x y] = 0 ↔ (jQ x y).1) ∧ (vV [x] [c5 13 x y] = 0 ↔ (jQ x y).2.1) ∧ (vV [x] [c5 11 x y] = 0 ↔ (jQ x y).2.2.1) ∧ (vV [x] [c5 7 x y] = 0 ↔ (jQ x y).2.2.2) := by
  have f : ∀ e : Int, vV [x] [c5 e x y] = 0 ↔ (qH e 1 = 0 → (jQ x y).1) ∧ (qH e 2 = 0 → (jQ x y).2.1) ∧ (qH e 4 = 0 → (jQ x y).2.2.1) ∧ (qH e 8 = 0 → (jQ x y).2.2.2) := fun e => by
    obtain ⟨h1, h2, h3, h4⟩ := u48 (d := e) (y := y) hx
    rw [u8n hx (u1p e hx hy).1, h1, h2, h3, h4]
  have no : ∀ {a : Int} {p : Prop}, ¬ a = 0 → ((a = 0 → p) ↔ True) := fun h => ⟨fun _ => trivial, fun _ e => absurd e h⟩
  have yes : ∀ {a : Int} {p : Prop}, a = 0 → ((a = 0 → p) ↔ p) := fun h => ⟨fun f => f h, fun f _ => f⟩
  refine ⟨?_, ?_, ?_, ?_⟩
  · rw [f 14, yes (by decide), no (by decide), no (by decide), no (by decide)]; simp
  · rw [f 13, no (by decide), yes (by decide), no (by decide), no (by decide)]; simp
  · rw [f 11, no (by decide), no (by decide), yes (by decide), no (by decide)]; simp
  · rw [f 7, no (by decide), no (by decide), no (by decide), yes (by decide)]; simp
theorem u6k {d : Int} (hd : 0 ≤ d ∧ d ≤ 15) {xs ys : List Bx} (h : BsV xs) (h2 : BsV ys) {i j : Nat} (hi : i < xs.length) (hj : j < ys.length) : (0 ≤ shW d xs ys i j ∧ shW d xs ys i j ≤ 15) ∧ qH (shW d xs ys i j) d = d ∧ (shW d xs ys i j = 15 ↔ (jQ (vC xs i) (c5 d (vC xs i) (vC ys j))).1 ∧ (jQ (vC xs i) (c5 d (vC xs i) (vC ys j))).2.1 ∧ (jQ (vC xs i) (c5 d (vC xs i) (vC ys j))).2.2.1 ∧ (jQ (vC xs i) (c5 d (vC xs i) (vC ys j))).2.2.2) := by
  have hx := h _ (uP hi); have hy := h2 _ (uP hj)
  obtain ⟨e1, e2, e3, e4⟩ := u9u hx hy
  obtain ⟨m1, m2, m3, m4⟩ := u48 (d := d) (y := vC ys j) hx
  rw [u9r, m1, m2, m3, m4, ← e1, ← e2, ← e3, ← e4]
  have := u6w hd (decide (vV [vC xs i] [c5 14 (vC xs i) (vC ys j)] = 0)) (decide (vV [vC xs i] [c5 13 (vC xs i) (vC ys j)] = 0)) (decide (vV [vC xs i] [c5 11 (vC xs i) (vC ys j)] = 0)) (decide (vV [vC xs i] [c5 7 (vC xs i) (vC ys j)] = 0))
  simp only [decide_eq_true_iff] at this
  exact this
/-! what is reached, when spans and boxes are few -/
def BsC (N : Nat) (xs : List Bx) : Prop := ∀ b ∈ xs, BxV b ∧ b.rn ≤ N ∧ b.sn ≤ N
theorem BsC.v {N : Nat} {xs : List Bx} (h : BsC N xs) : BsV xs := fun b hb => (h b hb).1
theorem BsC.mono {N M : Nat} {xs : List Bx} (h : BsC N xs) (hm : N ≤ M) : BsC M xs := fun b hb => by
  have := h b hb; exact ⟨this.1, by omega, by omega⟩
theorem v1r {x z : Bx} (hx : BxV x) (hz : BxV z) : crV [x] [z] 0 0 = true ↔ (jQ x z).1 ∧ (jQ x z).2.1 ∧ (jQ x z).2.2.1 ∧ (jQ x z).2.2.2 := by
  have e := k9u (xs := [x]) (ys := [z]) (i := 0) (j := 0) (BsV.one hx).w (BsV.one hz).w ((BsV.one hx).vb (by show 1 ≤ 64; decide)) (by show 0 < 1; decide)
  rw [e]
  unfold k5p
  rw [k5o]
  have a1 : ∀ a b : List Int, 1 ≤ iK a b ↔ 1 ≤ qT a b := fun a b => by rw [k4u]; omega
  show ¬ qH x.k z.k = 0 ∧ 1 ≤ List.length (u5 x.m z.m (List.length x.m)) ∧ 1 ≤ iK (kB x.r x.rn) (kB z.r z.rn) ∧ 1 ≤ iK (kB x.s x.sn) (kB z.s z.sn) ↔ _
  rw [a1, a1]
  exact ⟨fun ⟨a, b, c, d⟩ => ⟨a, c, b, d⟩, fun ⟨a, b, c, d⟩ => ⟨a, c, b, d⟩⟩
theorem k9v {a b : List Int} {n m : Nat} (ha : a.length = n * 2) (hb : b.length = m * 2) : qT (kB a n) (kB b m) ≤ n + m := by
  have := k7s ha hb
  unfold qT; rw [List.length_take]; omega
theorem u7i {x z : Bx} (hx : BxV x) (hz : BxV z) (h1 : x.rn + z.rn < 64) (h2 : x.sn + z.sn < 64) : fD [x] [z] = 0 ∧ BsC (max (x.rn + z.rn) (x.sn + z.sn)) (yS [x] [z]) ∧ List.length (yS [x] [z]) ≤ 1 ∧ (1 ≤ List.length (yS [x] [z]) ↔ crV [x] [z] 0 0 = true) := by
  have vx := (BsV.one hx).vb (by show 1 ≤ 64; decide)
  have vz := (BsV.one hz).vb (by show 1 ≤ 64; decide)
  have hs : crS [x] [z] 0 0 = true := u68 (sW hx.1.1 hz.1.1 h1) (sW hx.1.2.1 hz.1.2.1 h2)
  cases hc : crV [x] [z] 0 0 with
  | false =>
    obtain ⟨e1, e2⟩ := k7o vx vz (((CI.zero [x] [z]).in.n hc).out rfl) rfl
    rw [e1, e2, show bE ([] : List Bx) = [] from rfl]
    exact ⟨rfl, ⟨fun b hb => (by cases hb), Nat.zero_le _, ⟨fun h => absurd h (by decide), fun h => (by cases h)⟩⟩⟩
  | true =>
    obtain ⟨e1, e2⟩ := k7o vx vz (((CI.zero [x] [z]).in.y hc hs (by decide)).out rfl) rfl
    have hv : BxV (crB [x] [z] 0 0) := u59 hx hz hc
    obtain ⟨r1, r2⟩ := k61 (xs := [] ++ [crB [x] [z] 0 0]) rfl ((BsV.one hv).vb (by show 1 ≤ 64; decide))
    rw [e1, e2, r1]
    refine ⟨r2, fun b hb => ?_, Nat.le_refl 1, ⟨fun _ => rfl, fun _ => Nat.le_refl 1⟩⟩
    rw [List.mem_singleton.1 hb]
    refine ⟨hv, ?_, ?_⟩
    · have := k9v hx.1.1 hz.1.1
      show qT (kB x.r x.rn) (kB z.r z.rn) ≤ _; omega
    · have := k9v hx.1.2.1 hz.1.2.1
      show qT (kB x.s x.sn) (kB z.s z.sn) ≤ _; omega
theorem sQ {d : Int} {N M : Nat} {xs ys : List Bx} (h : BsC N xs) (h2 : BsC M ys) (hN : N + max N M < 64) {i j : Nat} (hi : i < xs.length) (hj : j < ys.length) : mxE d xs ys i j = 0 ∧ BsC (N + max N M) (o3 d xs ys i j) ∧ List.length (o3 d xs ys i j) ≤ 1 ∧ (1 ≤ List.length (o3 d xs ys i j) ↔ crV [vC xs i] [c5 d (vC xs i) (vC ys j)] 0 0 = true) := by
  obtain ⟨a1, a2, a3⟩ := h _ (uP hi)
  obtain ⟨b1, b2, b3⟩ := h2 _ (uP hj)
  obtain ⟨z1, z2, z3⟩ := u1p d a1 b1
  have := u7i a1 z1 (by omega) (by omega)
  exact ⟨this.1, this.2.1.mono (by omega), this.2.2.1, this.2.2.2⟩
theorem u42 {d : Int} {N M : Nat} {xs ys : List Bx} (h : BsC N xs) (h2 : BsC M ys) (hN : N + max N M < 64) (hn : xs.length * ys.length ≤ 64) {i : Nat} (hi : i < xs.length) (hb : riB d xs ys i = true) (hl : (oR d xs ys i).length ≤ i * ys.length) : ∀ j, j ≤ ys.length → rjB d xs ys i (riB d xs ys i) j = true ∧ (rjL d xs ys i (oR d xs ys i) j).length ≤ i * ys.length + j
  | 0, _ => ⟨hb, hl⟩
  | j + 1, hj => by
    obtain ⟨h3, h4⟩ := u42 h h2 hN hn hi hb hl j zo
    obtain ⟨m1, _, m2, _⟩ := sQ (d := d) h h2 hN hi (show j < ys.length by omega)
    have h5 : (i + 1) * ys.length ≤ xs.length * ys.length := Nat.mul_le_mul_right _ hi
    rw [Nat.succ_mul] at h5
    refine ⟨?_, ?_⟩
    · show (rjB d xs ys i (riB d xs ys i) j && decide _) = true
      rw [h3, decide_eq_true ⟨m1, by omega⟩]; rfl
    · show (rjL d xs ys i (oR d xs ys i) j ++ o3 d xs ys i j).length ≤ _
      rw [List.length_append]; omega
theorem k5y {d : Int} {N M : Nat} {xs ys : List Bx} (h : BsC N xs) (h2 : BsC M ys) (hN : N + max N M < 64) (hn : xs.length * ys.length ≤ 64) : ∀ i, i ≤ xs.length → riB d xs ys i = true ∧ (oR d xs ys i).length ≤ i * ys.length
  | 0, _ => ⟨rfl, Nat.zero_le _⟩
  | i + 1, hi => by
    obtain ⟨h3, h4⟩ := k5y h h2 hN hn i zo
    obtain ⟨h5, h6⟩ := u42 h h2 hN hn (show i < xs.length by omega) h3 h4 ys.length (Nat.le_refl _)
    exact ⟨h5, by rw [Nat.succ_mul]; exact h6⟩
theorem k5x {d : Int} {xs ys : List Bx} {i : Nat} {o : List Bx} {b : Bx} : ∀ j, b ∈ rjL d xs ys i o j ↔ b ∈ o ∨ ∃ k, k < j ∧ b ∈ o3 d xs ys i k
  | 0 => ⟨.inl, fun h => h.elim id fun ⟨k, hk, _⟩ => absurd hk (Nat.not_lt_zero k)⟩
  | j + 1 => by
    rw [rjL, List.mem_append, k5x j]
    constructor
    · rintro ((h | ⟨k, hk, h⟩) | h)
      · exact .inl h
      · exact .inr ⟨k, by omega, h⟩
      · exact .inr ⟨j, by omega, h⟩
    · rintro (h | ⟨k, hk, h⟩)
      · exact .inl (.inl h)
      · by_cases e : k = j
        · subst e; exact .inr h
        · exact .inl (.inr ⟨k, by omega, h⟩)
theorem lA {d : Int} {xs ys : List Bx} {b : Bx} : ∀ i, b ∈ oR d xs ys i ↔ ∃ a k, a < i ∧ k < ys.length ∧ b ∈ o3 d xs ys a k
  | 0 => ⟨fun h => (by cases h), fun ⟨a, _, h, _⟩ => absurd h (Nat.not_lt_zero a)⟩
  | i + 1 => by
    rw [oR, k5x, lA i]
    constructor
    · rintro (⟨a, k, h1, h⟩ | ⟨k, h⟩)
      · exact ⟨a, k, by omega, h⟩
      · exact ⟨i, k, by omega, h⟩
    · rintro ⟨a, k, h1, h⟩
      by_cases e : a = i
      · subst e; exact .inr ⟨k, h⟩
      · exact .inl ⟨a, k, by omega, h⟩
theorem u05 {d : Int} {xs ys : List Bx} {x : Int} : ∀ i, x ∈ bpS d xs ys i ↔ ∃ a k, a < i ∧ k < ys.length ∧ x = shW d xs ys a k
  | 0 => ⟨fun h => (by cases h), fun ⟨a, _, h, _⟩ => absurd h (Nat.not_lt_zero a)⟩
  | i + 1 => by
    rw [bpS, List.mem_append, u05 i, List.mem_map]
    constructor
    · rintro (⟨a, k, h1, h2, h3⟩ | ⟨k, h1, h2⟩)
      · exact ⟨a, k, by omega, h2, h3⟩
      · exact ⟨i, k, by omega, List.mem_range.1 h1, h2.symm⟩
    · rintro ⟨a, k, h1, h2, h3⟩
      by_cases e : a = i
      · subst e; exact .inr ⟨k, List.mem_range.2 h2, h3.symm⟩
      · exact .inl ⟨a, k, by omega, h2, h3⟩
theorem tT (d : Int) (xs ys : List Bx) : ∀ i, List.length (bpS d xs ys i) = i * List.length ys
  | 0 => (Nat.zero_mul _).symm
  | i + 1 => by rw [bpS, List.length_append, tT d xs ys i, List.length_map, List.length_range, Nat.succ_mul]
theorem u45 {d : Int} {N M : Nat} {xs ys : List Bx} (h : BsC N xs) (h2 : BsC M ys) (hN : N + max N M < 64) (hn : xs.length * ys.length ≤ 64) : jP d xs ys = 0 ∧ BsC (N + max N M) (cF d xs ys) ∧ List.length (cF d xs ys) ≤ xs.length * ys.length ∧ (List.length (cF d xs ys) = 0 → ∀ i j, i < xs.length → j < ys.length → crV [vC xs i] [c5 d (vC xs i) (vC ys j)] 0 0 = false) := by
  obtain ⟨h3, h4⟩ := k5y (d := d) h h2 hN hn xs.length (Nat.le_refl _)
  have hC : BsC (N + max N M) (oR d xs ys xs.length) := fun b hb => by
    obtain ⟨i, j, hi, hj, h5⟩ := (lA _).1 hb
    exact (sQ h h2 hN hi hj).2.1 b h5
  obtain ⟨r1, r2, r3⟩ := k66 hC.v zo
  have e1 : cF d xs ys = bE (oR d xs ys xs.length) := by unfold cF; rw [h3]; rfl
  have e2 : jP d xs ys = jO (oR d xs ys xs.length) := by unfold jP; rw [h3]; rfl
  rw [e1, e2]
  refine ⟨r2, fun b hb => ?_, Nat.le_trans (nN _) h4, fun h0 i j hi hj => ?_⟩
  · rw [r1] at hb
    obtain ⟨k, hk, _, rfl⟩ := (lC _).1 hb
    exact hC _ (uP hk)
  · rw [← Bool.not_eq_true]
    intro hc
    obtain ⟨b, hb⟩ := List.exists_mem_of_length_pos ((sQ (d := d) h h2 hN hi hj).2.2.2.2 hc)
    have hb2 : b ∈ oR d xs ys xs.length := (lA _).2 ⟨i, j, hi, hj, hb⟩
    have hv := (hC b hb2).1
    have hh := (k19 hv).1 (tW hv.g ⟨0, 0, [], 0⟩).1
    obtain ⟨b', hb', _⟩ := (sB hC.v zo _).2 ⟨b, hb2, hh⟩
    have := List.length_pos_of_mem hb'
    omega
end Go.Proofs.YtbicifcgghmhaaaGreat
