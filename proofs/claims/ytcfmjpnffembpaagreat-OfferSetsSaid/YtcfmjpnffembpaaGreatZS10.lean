/- Merged texts. -/
import Derived.Test.YtcfmjpnffembpaaGreatZJ10
namespace Go.Proofs.YtcfmjpnffembpaaGreat
open Go.ChangeShapes Go.WideShapes Go.ChangeAt Go.RowKit
set_option linter.unusedVariables false
set_option linter.unusedSimpArgs false
/-! chapter 10: the reference's intersection of one box with one box; lists that have nothing in common in some dimensions -/
theorem u7j {a b : List (List Int)} {n : Nat} (hn : a.length = n) (h : ∀ j, j < n → d9 b (List.getD a j []) = true) : sgB a b = false := u1m.2 fun m hm => by
  obtain ⟨j, hj, rfl⟩ := List.mem_iff_getElem.1 hm
  have h1 := of_decide_eq_true (h j (by omega))
  rw [List.getD_eq_getElem?_getD, List.getElem?_eq_getElem hj] at h1; exact h1
theorem u7g {a b : List (List Int)} {n j : Nat} (hn : a.length = n) (hj : j < n) (h : d9 b (List.getD a j []) = false) : sgB a b = true := by
  refine decide_eq_true ⟨List.getD a j [], ?_, of_decide_eq_false h⟩
  rw [List.getD_eq_getElem?_getD, List.getElem?_eq_getElem (by omega)]; exact List.getElem_mem _
def gzB (xs : List Bx) (i : Nat) : Nat → Bool
  | 0 => true
  | z + 1 => gzB xs i z && !(mX xs i z)
theorem u5q {xs : List Bx} {i z : Nat} {f : Bool} (h : gzB xs i z = f) (h1 : mX xs i z = true) : gzB xs i (z + 1) = false := by
  show (gzB xs i z && !(mX xs i z)) = false
  rw [h1]; simp
theorem u2f {xs : List Bx} {i z : Nat} {f : Bool} (h : gzB xs i z = f) (h1 : mX xs i z = false) : gzB xs i (z + 1) = f := by
  show (gzB xs i z && !(mX xs i z)) = f
  rw [h1, h]; simp
theorem zM {xs : List Bx} {i : Nat} : ∀ z, gzB xs i z = true ↔ ∀ j, j < z → mX xs i j = false
  | 0 => ⟨fun _ j hj => absurd hj (Nat.not_lt_zero j), fun _ => rfl⟩
  | z + 1 => by
    show (gzB xs i z && !(mX xs i z)) = true ↔ _
    rw [Bool.and_eq_true, zM z, Bool.not_eq_true']
    exact ⟨fun h j hj => (Nat.lt_succ_iff_lt_or_eq.1 hj).elim (h.1 j) (fun e => e ▸ h.2), fun h => ⟨fun j hj => h j (by omega), h z (by omega)⟩⟩
theorem k4u {xs : List Bx} {i z : Nat} {f : Bool} (h : gzB xs i z = f) (hz : xs.length ≤ z) (hz2 : z ≤ xs.length) : goB xs i = !f := by
  obtain rfl : z = xs.length := by omega
  cases f with
  | true => exact u5r ((zM _).1 h)
  | false =>
    cases e : goB xs i with
    | true => rfl
    | false =>
      have : gzB xs i xs.length = true := (zM _).2 fun j hj => by
        cases e2 : mX xs i j with
        | false => rfl
        | true => rw [u2g hj e2] at e; cases e
      rw [this] at h; cases h
def smN (k : Int) (c n m : Nat) : Nat := if ¬ k = 0 ∧ 1 ≤ c ∧ 1 ≤ n ∧ 1 ≤ m then 1 else 0
theorem u7e {k : Int} {c n m : Nat} (h : ¬ k = 0 ∧ 1 ≤ c ∧ 1 ≤ n ∧ 1 ≤ m) : smN k c n m = 1 := if_pos h
theorem u7f {k : Int} {c n m : Nat} (h : ¬ (¬ k = 0 ∧ 1 ≤ c ∧ 1 ≤ n ∧ 1 ≤ m)) : smN k c n m = 0 := if_neg h
theorem k4r {a b : List Int} (h : qQ a b ≤ 64) : uM a b = dN a b ∧ qP a b = qQ a b := by
  obtain ⟨h1, h2⟩ := u07 (a := a) (b := b) rfl
  have h3 := bH a b
  rw [Nat.min_eq_left h] at h1 h2
  exact ⟨by rw [h1]; exact List.take_of_length_le (by omega), h2⟩
theorem dA {a b : List Int} {n m : Nat} (ha : a.length = n * 2) (hb : b.length = m * 2) : qQ (kB a n) (kB b m) ≤ 1000000 := by
  have h1 := k6u (k8 ha) (k8 hb) (aI ha) (aI hb)
  have h2 := (bD (l := a) (n := n)).1
  have h3 := (bD (l := b) (n := m)).1
  omega
theorem BsF.at {xs : List Bx} (h : BsF xs) {i : Nat} (hi : i < xs.length) : qB xs i ≤ 5 ∧ qC xs i ≤ 5 := h _ (lZ hi)
end Go.Proofs.YtcfmjpnffembpaaGreat
namespace Go.Proofs.YtcfmjpnffembpaaGreat
open Go.ChangeShapes Go.WideShapes Go.ChangeAt Go.RowKit
set_option linter.unusedVariables false
set_option linter.unusedSimpArgs false
/-! chapter 10: intersections of any lists, as the reference makes them -/
theorem k9d (a b : List Int) : qP a b = min (qQ a b) 64 := (u07 (a := a) (b := b) rfl).2
theorem u2b {a b : List Int} {x : Int} (h : gI (uM a b) x = true) : gI a x = true ∧ gI b x = true := by
  have h1 := jT.1 h
  unfold uM at h1; rw [p8] at h1
  obtain ⟨p, hp, h2⟩ := h1
  have h3 := (t7 _ _ x).1 ⟨p, List.mem_of_mem_take hp, h2⟩
  exact ⟨jT.2 h3.1, jT.2 h3.2⟩
theorem u78 {z : BitVec 64} (h : IntKind.i64.wrap ((z.toNat : Nat) : Int) = 0) : z = 0#64 := by
  have h1 := z.isLt
  apply BitVec.eq_of_toNat_eq
  show z.toNat = 0
  unfold IntKind.wrap at h
  simp [IntKind.bits, IntKind.signed] at h
  omega
theorem u77 (z : BitVec 64) : BitVec.ofInt 64 (IntKind.i64.wrap ((z.toNat : Nat) : Int)) = z := by
  have h1 := z.isLt
  apply BitVec.eq_of_toInt_eq
  rw [BitVec.toInt_ofInt, BitVec.toInt_eq_toNat_bmod]
  unfold IntKind.wrap
  simp [IntKind.bits, IntKind.signed, Int.bmod]
  omega
theorem u6o {k k2 : Int} (h : eH k = 0) : eH (uR k k2) = 0 := by
  have h1 : BitVec.ofInt 64 k &&& ~~~ BitVec.ofInt 64 254 = 0#64 := u78 h
  show IntKind.i64.wrap (((BitVec.ofInt 64 (IntKind.i64.wrap (((BitVec.ofInt 64 k &&& BitVec.ofInt 64 k2).toNat : Nat) : Int)) &&& ~~~ BitVec.ofInt 64 254).toNat : Nat) : Int) = 0
  rw [u77]
  have h2 : BitVec.ofInt 64 k &&& BitVec.ofInt 64 k2 &&& ~~~ BitVec.ofInt 64 254 = 0#64 := by
    rw [BitVec.and_assoc, BitVec.and_comm (BitVec.ofInt 64 k2), ← BitVec.and_assoc, h1]; exact BitVec.zero_and
  rw [h2]; rfl
theorem xS {xs : List Bx} (h : BsW xs) (hv : aJ xs = true) {i : Nat} (hi : i < xs.length) : List.length (qF xs i) = qB xs i * 2 ∧ List.length (qG xs i) = qC xs i * 2 ∧ (¬ k9 xs i = 0 ∧ eH (k9 xs i) = 0) ∧ dR (qF xs i) (qB xs i) 1000 768000 = true ∧ nQ (kY xs i) = true ∧ dR (qG xs i) (qC xs i) 1 65536 = true := by
  have h1 := (of_decide_eq_true hv).2 i hi
  obtain ⟨p1, p2, p3, p4⟩ := m8 h1
  exact ⟨(h.at i).1, (h.at i).2.1, p1, p2, p3, p4⟩
theorem k9p {a b : List Int} {n m : Nat} {lo hi : Int} (ha : a.length = n * 2) (hb : b.length = m * 2) (h : dR a n lo hi = true) (h1 : 1 ≤ qP (kB a n) (kB b m)) : dR (uM (kB a n) (kB b m)) (qP (kB a n) (kB b m)) lo hi = true :=
  u3j (yM _ _) (u2a ha hb) h1 fun x hx => u1a ha h (by have := (u2b hx).1; rwa [(g9 h).2.1] at this)
def nR (xs ys : List Bx) (i j : Nat) : Nat := smN (uR (k9 xs i) (k9 ys j)) (List.length (uP (kY xs i) (kY ys j) (List.length (kY xs i)))) (qQ (kB (qF xs i) (qB xs i)) (kB (qF ys j) (qB ys j))) (qQ (kB (qG xs i) (qC xs i)) (kB (qG ys j) (qC ys j)))
def eJ (n m : Nat) : Bool := decide (64 < n ∨ 64 < m)
def mnE (xs ys : List Bx) (i j : Nat) : Bool := eJ (qQ (kB (qF xs i) (qB xs i)) (kB (qF ys j) (qB ys j))) (qQ (kB (qG xs i) (qC xs i)) (kB (qG ys j) (qC ys j)))
theorem u1l {k : Int} {c n m : Nat} : smN k c n m = 1 ↔ ¬ k = 0 ∧ 1 ≤ c ∧ 1 ≤ n ∧ 1 ≤ m := by
  unfold smN; split
  · exact ⟨fun _ => by assumption, fun _ => rfl⟩
  · exact ⟨fun e => (by cases e), fun e => absurd e (by assumption)⟩
theorem k6h {xs ys : List Bx} (hx : BsW xs) (hy : BsW ys) (vx : aJ xs = true) {i j : Nat} (hi : i < xs.length) : crV xs ys i j = true ↔ nR xs ys i j = 1 := by
  obtain ⟨a1, a2, a3, a4, a5, a6⟩ := xS hx vx hi
  have b1 := (hy.at j).1; have b2 := (hy.at j).2.1
  unfold nR
  rw [u1l]
  have er : 1 ≤ qQ (kB (qF xs i) (qB xs i)) (kB (qF ys j) (qB ys j)) ↔ 1 ≤ qP (kB (qF xs i) (qB xs i)) (kB (qF ys j) (qB ys j)) := by rw [k9d]; omega
  have es : 1 ≤ qQ (kB (qG xs i) (qC xs i)) (kB (qG ys j) (qC ys j)) ↔ 1 ≤ qP (kB (qG xs i) (qC xs i)) (kB (qG ys j) (qC ys j)) := by rw [k9d]; omega
  rw [er, es]
  constructor
  · intro h
    obtain ⟨p1, p2, p3, p4⟩ := m8 (show dK _ _ _ _ _ _ = true from h)
    exact ⟨p1.1, k9q p3, (g9 p2).2.2.2, (g9 p4).2.2.2⟩
  · rintro ⟨h1, h2, h3, h4⟩
    exact u33 ⟨h1, u6o a3.2⟩ (k9p a1 b1 a4 h3) (u8v a5 h2) (k9p a2 b2 a6 h4)
/-! the part of a set above a number -/
def xJ (v : Int) : List Sp → List Sp
  | [] => []
  | p :: r => if v < p.2 then (max p.1 (v + 1), p.2) :: xJ v r else xJ v r
theorem k1c (v : Int) : ∀ a b : List Sp, xJ v (a ++ b) = xJ v a ++ xJ v b
  | [], _ => rfl
  | p :: a, b => by
    show (if v < p.2 then _ :: xJ v (a ++ b) else xJ v (a ++ b)) = _
    rw [k1c v a b, xJ]; split <;> rfl
theorem sK {v : Int} : ∀ {a : List Sp} {q : Sp}, q ∈ xJ v a → ∃ p ∈ a, p.1 ≤ q.1 ∧ q.2 = p.2
  | [], q, h => by cases h
  | p :: a, q, h => by
    rw [xJ] at h
    split at h
    · rcases List.mem_cons.1 h with rfl | h
      · exact ⟨p, List.mem_cons_self .., by show p.1 ≤ max p.1 (v + 1); omega, rfl⟩
      · obtain ⟨p', h1, h2⟩ := sK h; exact ⟨p', List.mem_cons_of_mem _ h1, h2⟩
    · obtain ⟨p', h1, h2⟩ := sK h; exact ⟨p', List.mem_cons_of_mem _ h1, h2⟩
theorem sI {v : Int} : ∀ {a : List Sp}, cP a → cP (xJ v a)
  | [], _ => trivial
  | p :: a, h => by
    rw [xJ]
    split
    · refine ⟨?_, fun q hq => ?_, sI h.2.2⟩
      · have := h.1; unfold eX at this ⊢; simp only; omega
      · obtain ⟨p', h1, h2, _⟩ := sK hq
        have := h.2.1 p' h1
        simp only; omega
    · exact sI h.2.2
theorem sJ {v x : Int} : ∀ {a : List Sp}, d6 (xJ v a) x ↔ d6 a x ∧ v < x
  | [] => ⟨fun h => absurd h (fR x), fun h => absurd h.1 (fR x)⟩
  | p :: a => by
    rw [xJ, uX]
    split
    · rw [uX, sJ (a := a)]; simp only
      constructor
      · rintro (h | h)
        · exact ⟨.inl (by omega), by omega⟩
        · exact ⟨.inr h.1, h.2⟩
      · rintro ⟨h | h, h2⟩
        · exact .inl (by omega)
        · exact .inr ⟨h, h2⟩
    · rw [sJ (a := a)]
      constructor
      · rintro ⟨h, h2⟩; exact ⟨.inr h, h2⟩
      · rintro ⟨h | h, h2⟩
        · omega
        · exact ⟨h, h2⟩
theorem k6p {l : List Int} {v : Int} {n : Nat} (hl : l.length = n * 2) : ∀ k, k ≤ n → qV (dM l v k) = xJ v (List.take k (qV l))
  | 0, _ => rfl
  | k + 1, hk => by
    have ih := k6p (v := v) hl k (by omega)
    have e : List.take (k + 1) (qV l) = List.take k (qV l) ++ [(List.getD l (k * 2) 0, List.getD l (k * 2 + 1) 0)] := by
      rw [List.take_succ_eq_append_getElem (by rw [q9 hl]; omega), jN hl (by omega)]
    rw [e, k1c, ← ih, dM]
    have hL := (sH l v k).1
    by_cases h : v < List.getD l (k * 2 + 1) 0
    · rw [if_pos h, iF hL]
      show _ = _ ++ (if v < List.getD l (k * 2 + 1) 0 then _ else _)
      rw [if_pos h]; rfl
    · rw [if_neg h]
      show _ = _ ++ (if v < List.getD l (k * 2 + 1) 0 then _ else _)
      rw [if_neg h]; exact (List.append_nil _).symm
theorem u05 {a b : List Int} {n m : Nat} (ha : a.length = n * 2) (hb : b.length = m * 2) (va : eI a n = true) (vb : eI b m = true) : mU a n b m = true ↔ qQ (kB a n) (kB b m) ≤ 64 := by
  obtain ⟨na, oa⟩ := (dX ha).1 va
  obtain ⟨nb, ob⟩ := (dX hb).1 vb
  have hi := k9d (kB a n) (kB b m)
  by_cases h : qP (kB a n) (kB b m) < 64
  · exact ⟨fun _ => by omega, fun _ => u53 h⟩
  have h64 : 64 ≤ qQ (kB a n) (kB b m) := by omega
  have hL : cP (a8 (qV (kB a n)) (qV (kB b m))) := k0x (aI ha) (aI hb)
  have hn : (a8 (qV (kB a n)) (qV (kB b m))).length = qQ (kB a n) (kB b m) := rfl
  have ev : List.getD (uM (kB a n) (kB b m)) 127 0 = ((a8 (qV (kB a n)) (qV (kB b m)))[63]'(by omega)).2 := by
    have h1 := jN (yM (kB a n) (kB b m)) (show 63 < qP (kB a n) (kB b m) by omega)
    have h2 : qV (uM (kB a n) (kB b m)) = List.take 64 (a8 (qV (kB a n)) (qV (kB b m))) := by unfold uM; exact p8 _
    have h3 : (qV (uM (kB a n) (kB b m)))[63]? = some ((a8 (qV (kB a n)) (qV (kB b m)))[63]'(by omega)) := by
      rw [h2, List.getElem?_take_of_lt (by decide), List.getElem?_eq_getElem (by omega)]
    rw [List.getElem?_eq_getElem (by rw [q9 (yM _ _)]; omega), h1] at h3
    have h4 := congrArg Prod.snd (Option.some.inj h3)
    exact h4
  generalize hv : List.getD (uM (kB a n) (kB b m)) 127 0 = v at *
  have hav := sH a v n
  have eav : qV (dM a v n) = xJ v (qV a) := by
    rw [k6p ha n (Nat.le_refl _), List.take_of_length_le (by rw [q9 ha]; omega)]
  have vav : eI (dM a v n) (lC a v n) = true := (dX hav.1).2 ⟨by omega, by rw [eav]; exact sI oa⟩
  have ea : kB a n = a := (tH va).1
  have hr := k9d (kB (dM a v n) (lC a v n)) (kB b m)
  rw [(tH vav).1] at hr
  have key : 1 ≤ qQ (dM a v n) (kB b m) ↔ 64 < qQ (kB a n) (kB b m) := by
    constructor
    · intro h1
      obtain ⟨p, hp⟩ := List.exists_mem_of_length_pos (show 0 < (a8 (qV (dM a v n)) (qV (kB b m))).length from h1)
      have ho : cP (a8 (qV (dM a v n)) (qV (kB b m))) := k0x (by rw [eav]; exact sI oa) (aI hb)
      have hp2 := fB ho p hp
      unfold eX at hp2
      have h2 := (t7 _ _ p.1).1 ⟨p, hp, Int.le_refl _, hp2.2.1⟩
      rw [eav, sJ] at h2
      have h3 : d6 (a8 (qV (kB a n)) (qV (kB b m))) p.1 := (t7 _ _ _).2 ⟨by rw [ea]; exact h2.1.1, h2.2⟩
      obtain ⟨q, hq, h4, h5⟩ := h3
      obtain ⟨z, hz, rfl⟩ := List.mem_iff_getElem.1 hq
      by_cases hz2 : 64 ≤ z
      · omega
      · exfalso
        have mono : ∀ d, z + d ≤ 63 → ((a8 (qV (kB a n)) (qV (kB b m)))[z]'hz).2 ≤ ((a8 (qV (kB a n)) (qV (kB b m)))[63]'(by omega)).2 ∨ d + z < 63 := fun d => by
          intro _
          by_cases e : d + z = 63
          · left
            have : ∀ d (hd : z + d < (a8 (qV (kB a n)) (qV (kB b m))).length), ((a8 (qV (kB a n)) (qV (kB b m)))[z]'hz).2 ≤ ((a8 (qV (kB a n)) (qV (kB b m)))[z + d]'hd).2 := fun d => by
              induction d with
              | zero => intro _; exact Int.le_refl _
              | succ d ih =>
                intro hd
                have i1 := ih (by omega)
                have g := iG _ hL (z + d) _ _ (List.getElem?_eq_getElem (by omega)) (List.getElem?_eq_getElem (by omega))
                have v2 := fB hL _ (List.getElem_mem (show z + d + 1 < _ from hd))
                unfold eX at v2
                exact Int.le_trans i1 (by have := v2.2.1; show _ ≤ ((a8 (qV (kB a n)) (qV (kB b m)))[z + d + 1]'hd).2; omega)
            have h9 := this (63 - z) (by omega)
            simpa [show z + (63 - z) = 63 by omega] using h9
          · right; omega
        rcases mono (63 - z) (by omega) with h9 | h9
        · have := h2.1.2; omega
        · omega
    · intro h1
      have h64' : 64 < (a8 (qV (kB a n)) (qV (kB b m))).length := h1
      have g := iG _ hL 63 _ _ (List.getElem?_eq_getElem (by omega)) (List.getElem?_eq_getElem (by omega))
      have hm := List.getElem_mem h64'
      have v2 := fB hL _ hm
      unfold eX at v2
      have h2 := (t7 _ _ ((a8 (qV (kB a n)) (qV (kB b m)))[64]'h64').1).1 ⟨_, hm, Int.le_refl _, v2.2.1⟩
      have hg : v < ((a8 (qV (kB a n)) (qV (kB b m)))[64]'h64').1 := by
        rw [ev]; have : ((a8 (qV (kB a n)) (qV (kB b m)))[63]'(by omega)).2 + 1 < ((a8 (qV (kB a n)) (qV (kB b m)))[64]'h64').1 := g
        omega
      clear v2 hm g
      revert h2 hg
      generalize ((a8 (qV (kB a n)) (qV (kB b m)))[64]'h64').1 = x
      intro h2 hg
      rw [ea] at h2
      have h3 : d6 (a8 (qV (dM a v n)) (qV (kB b m))) x := (t7 _ _ _).2 ⟨by rw [eav, sJ]; exact ⟨h2.1, hg⟩, h2.2⟩
      obtain ⟨p, hp, _⟩ := h3
      exact List.length_pos_of_mem hp
  unfold mU
  rw [hv, decide_eq_false h, Bool.false_or, decide_eq_true_iff, (tH vav).1]
  constructor
  · intro h1; by_cases h2 : 64 < qQ (kB a n) (kB b m)
    · have := key.2 h2; omega
    · omega
  · intro h1; by_cases h2 : 1 ≤ qQ (dM a v n) (kB b m)
    · have := key.1 h2; omega
    · omega
theorem u0l {xs ys : List Bx} (hx : BsW xs) (hy : BsW ys) (vx : aJ xs = true) (vy : aJ ys = true) {i j : Nat} (hi : i < xs.length) (hj : j < ys.length) : crS xs ys i j = !(mnE xs ys i j) := by
  obtain ⟨a1, a2, _, a4, _, a6⟩ := xS hx vx hi
  obtain ⟨b1, b2, _, b4, _, b6⟩ := xS hy vy hj
  have e1 := u05 a1 b1 (g9 a4).1 (g9 b4).1
  have e2 := u05 a2 b2 (g9 a6).1 (g9 b6).1
  apply Bool.eq_iff_iff.2
  show (mU _ _ _ _ && mU _ _ _ _) = true ↔ _
  unfold mnE eJ
  rw [Bool.and_eq_true, e1, e2, Bool.not_eq_true', decide_eq_false_iff_not]
  omega
theorem u62 {xs ys : List Bx} {i j : Nat} (h : mnE xs ys i j = false) : crB xs ys i j = uO (uR (k9 xs i) (k9 ys j)) (dN (kB (qF xs i) (qB xs i)) (kB (qF ys j) (qB ys j))) (qQ (kB (qF xs i) (qB xs i)) (kB (qF ys j) (qB ys j))) (uP (kY xs i) (kY ys j) (List.length (kY xs i))) (dN (kB (qG xs i) (qC xs i)) (kB (qG ys j) (qC ys j))) (qQ (kB (qG xs i) (qC xs i)) (kB (qG ys j) (qC ys j))) := by
  have h1 := of_decide_eq_false (show decide _ = false from h)
  obtain ⟨r1, r2⟩ := k4r (show qQ (kB (qF xs i) (qB xs i)) (kB (qF ys j) (qB ys j)) ≤ 64 by omega)
  obtain ⟨s1, s2⟩ := k4r (show qQ (kB (qG xs i) (qC xs i)) (kB (qG ys j) (qC ys j)) ≤ 64 by omega)
  unfold crB; rw [r1, r2, s1, s2]
/-! the steps of the reference's loops -/
theorem CJ2.rn {xs ys : List Bx} {i j : Nat} {o : List Bx} (h : CJ2 xs ys i j o) (hx : BsW xs) (hy : BsW ys) (vx : aJ xs = true) (hi : i < xs.length) (h1 : ¬ nR xs ys i j = 1) : CJ2 xs ys i (j + 1) o := h.n (by
  rw [← Bool.not_eq_true, k6h hx hy vx hi]; exact h1)
theorem CJ2.ry {xs ys : List Bx} {i j : Nat} {o : List Bx} (h : CJ2 xs ys i j o) (hx : BsW xs) (hy : BsW ys) (vx : aJ xs = true) (vy : aJ ys = true) (hi : i < xs.length) (hj : j < ys.length) (h1 : nR xs ys i j = 1) (h2 : mnE xs ys i j = false) (h3 : ¬ 64 ≤ List.length o) : CJ2 xs ys i (j + 1) (o ++ [uO (uR (k9 xs i) (k9 ys j)) (dN (kB (qF xs i) (qB xs i)) (kB (qF ys j) (qB ys j))) (qQ (kB (qF xs i) (qB xs i)) (kB (qF ys j) (qB ys j))) (uP (kY xs i) (kY ys j) (List.length (kY xs i))) (dN (kB (qG xs i) (qC xs i)) (kB (qG ys j) (qC ys j))) (qQ (kB (qG xs i) (qC xs i)) (kB (qG ys j) (qC ys j)))]) := by
  rw [← u62 h2]
  exact h.y ((k6h hx hy vx hi).2 h1) (by rw [u0l hx hy vx vy hi hj, h2]; rfl) (by omega)
theorem k3i {xs ys : List Bx} {i j : Nat} {o : List Bx} (h : CJ2 xs ys i j o) (hx : BsW xs) (hy : BsW ys) (vx : aJ xs = true) (vy : aJ ys = true) (hi : i < xs.length) (hj : j < ys.length) (ho : List.length o ≤ 64) (h1 : nR xs ys i j = 1) (h2 : mnE xs ys i j = true ∨ 64 ≤ List.length o) : yB xs ys = [] ∧ aM xs ys = 3 :=
  u28 vx vy (zI hi hj ((k6h hx hy vx hi).2 h1) (h2.imp (fun e => by rw [u0l hx hy vx vy hi hj, e]; rfl) (fun e => by rw [h.1]; omega)))
theorem u21 {n m : Nat} (h : 64 < n ∨ 64 < m) : eJ n m = true := decide_eq_true h
theorem u4y {n m : Nat} (h : ¬ (64 < n ∨ 64 < m)) : eJ n m = false := decide_eq_false h
theorem u7s {xs ys : List Bx} (h : BsW xs) (h2 : BsW ys) (i j : Nat) : BxW (uO (uR (k9 xs i) (k9 ys j)) (dN (kB (qF xs i) (qB xs i)) (kB (qF ys j) (qB ys j))) (qQ (kB (qF xs i) (qB xs i)) (kB (qF ys j) (qB ys j))) (uP (kY xs i) (kY ys j) (List.length (kY xs i))) (dN (kB (qG xs i) (qC xs i)) (kB (qG ys j) (qC ys j))) (qQ (kB (qG xs i) (qC xs i)) (kB (qG ys j) (qC ys j)))) := by
  refine ⟨bH _ _, bH _ _, dA (h.at i).1 (h2.at j).1, dA (h.at i).2.1 (h2.at j).2.1, ?_, gK (h.ms i) _ _⟩
  have h1 := aO (kY xs i) (kY ys j) (List.length (kY xs i))
  have h3 := (h.at i).2.2.2.2
  show List.length (uP _ _ _) ≤ _
  omega
theorem u8f {n m : Nat} (h : eJ n 0 = true) : eJ n m = true := by
  have := of_decide_eq_true (show decide _ = true from h); exact u21 (by omega)
theorem u8e {n m : Nat} (h : eJ n 0 = false) (h2 : ¬ 64 < m) : eJ n m = false := by
  have := of_decide_eq_false (show decide _ = false from h); exact u4y (by omega)
end Go.Proofs.YtcfmjpnffembpaaGreat
