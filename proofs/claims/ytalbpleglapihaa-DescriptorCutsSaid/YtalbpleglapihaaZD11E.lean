/- Writers. No statement is proved here. -/
import Derived.Test.YtalbpleglapihaaZD11D
namespace Go.Proofs.Ytalbpleglapihaa
open Go.ChangeShapes Go.WideShapes Go.ChangeAt Go.RowKit
set_option linter.unusedVariables false
set_option linter.unusedSimpArgs false
/-! chapter 11: writers -/
set_option maxHeartbeats 4000000
set_option maxRecDepth 100000
def y3 (s : List Int) : List Int := ((List.length s : Nat) : Int) :: s
theorem uB (s : List Int) : List.length (y3 s) = 1 + List.length s := by unfold y3; rw [List.length_cons]; omega
theorem tK {s : List Int} (h : Byt s) (h1 : List.length s ≤ 64) : Byt (y3 s) := Byt.cons (by omega) h
def R32 (r : List Int) : Prop := ∀ x ∈ r, 0 ≤ x ∧ x ≤ 4294967295
def R16 (r : List Int) : Prop := ∀ x ∈ r, 0 ≤ x ∧ x ≤ 65535
theorem R32.at {r : List Int} (h : R32 r) {i : Nat} (hi : i < r.length) : 0 ≤ List.getD r i 0 ∧ List.getD r i 0 ≤ 4294967295 := by
  rw [List.getD_eq_getElem?_getD, List.getElem?_eq_getElem hi]
  exact h _ (List.getElem_mem hi)
theorem R16.at {r : List Int} (h : R16 r) {i : Nat} (hi : i < r.length) : 0 ≤ List.getD r i 0 ∧ List.getD r i 0 ≤ 65535 := by
  rw [List.getD_eq_getElem?_getD, List.getElem?_eq_getElem hi]
  exact h _ (List.getElem_mem hi)
theorem k5u : R16 [] := fun x hx => by cases hx
theorem nB : R32 [] := fun x hx => by cases hx
def RmW (m : List (List Int)) : Prop := ∀ x ∈ m, R16 x ∧ List.length x ≤ 65535
theorem k5t : RmW [] := fun x hx => by cases hx
theorem RmW.at {m : List (List Int)} (h : RmW m) (i : Nat) : R16 (List.getD m i []) ∧ List.length (List.getD m i []) ≤ 65535 := by
  rw [List.getD_eq_getElem?_getD]
  cases e : m[i]? with
  | none => exact ⟨k5u, Nat.zero_le _⟩
  | some l => exact h l (List.mem_of_getElem? e)
def nX (r : List Int) : Nat → List Int
  | 0 => []
  | k + 1 => nX r k ++ (pbL (List.getD r (k * 2) 0) 4 ++ pbL (List.getD r (k * 2 + 1) 0) 4)
theorem lD (r : List Int) : ∀ k, List.length (nX r k) = k * 8
  | 0 => rfl
  | k + 1 => by show List.length (nX r k ++ _) = _; rw [List.length_append, lD r k, List.length_append, pbL_len, pbL_len]; omega
def d9 (r : List Int) (n : Nat) : List Int := pbL ((n : Nat) : Int) 2 ++ nX r n
theorem qQ (r : List Int) (n : Nat) : List.length (d9 r n) = 2 + n * 8 := by unfold d9; rw [List.length_append, pbL_len, lD]
theorem u2r (l r : List Int) (n : Nat) : l ++ (pbL ((n : Nat) : Int) 2 ++ nX r 0) = l ++ pbL ((n : Nat) : Int) 2 := by rw [nX, List.append_nil]
theorem u2p {l r o : List Int} {n k : Nat} (h : l ++ (pbL ((n : Nat) : Int) 2 ++ nX r k) = o) : l ++ (pbL ((n : Nat) : Int) 2 ++ nX r (k + 1)) = o ++ pbL (List.getD r (k * 2) 0) 4 ++ pbL (List.getD r (k * 2 + 1) 0) 4 := by
  subst h; rw [nX]; simp only [List.append_assoc]
theorem u2q {l r o : List Int} {n k : Nat} (h : l ++ (pbL ((n : Nat) : Int) 2 ++ nX r k) = o) (hk : k = n) : l ++ d9 r n = o := by subst hk; exact h
def nY (m : List Int) : Nat → List Int
  | 0 => []
  | k + 1 => nY m k ++ pbL (List.getD m k 0) 2
theorem lH (m : List Int) : ∀ k, List.length (nY m k) = k * 2
  | 0 => rfl
  | k + 1 => by show List.length (nY m k ++ _) = _; rw [List.length_append, lH m k, pbL_len]; omega
def zG (m : List Int) : List Int := pbL ((List.length m : Nat) : Int) 2 ++ nY m m.length
theorem lG (m : List Int) : List.length (zG m) = 2 + List.length m * 2 := by unfold zG; rw [List.length_append, pbL_len, lH]
theorem u2u (l m : List Int) : l ++ (pbL ((List.length m : Nat) : Int) 2 ++ nY m 0) = l ++ pbL ((List.length m : Nat) : Int) 2 := by rw [nY, List.append_nil]
theorem u2s {l m o : List Int} {k : Nat} (h : l ++ (pbL ((List.length m : Nat) : Int) 2 ++ nY m k) = o) : l ++ (pbL ((List.length m : Nat) : Int) 2 ++ nY m (k + 1)) = o ++ pbL (List.getD m k 0) 2 := by
  subst h; rw [nY]; simp only [List.append_assoc]
theorem u2t {l m o : List Int} {k : Nat} (h : l ++ (pbL ((List.length m : Nat) : Int) 2 ++ nY m k) = o) (hk : k = m.length) : l ++ zG m = o := by subst hk; exact h
def bD (m : List (List Int)) : Nat → List Int
  | 0 => []
  | k + 1 => bD m k ++ zG (List.getD m k [])
def aW (m : List (List Int)) : List Int := pbL ((List.length m : Nat) : Int) 2 ++ bD m m.length
theorem u30 (l : List Int) (m : List (List Int)) : l ++ (pbL ((List.length m : Nat) : Int) 2 ++ bD m 0) = l ++ pbL ((List.length m : Nat) : Int) 2 := by rw [bD, List.append_nil]
theorem u2w {l o p : List Int} {m : List (List Int)} {k : Nat} (h : l ++ (pbL ((List.length m : Nat) : Int) 2 ++ bD m k) = o) (h1 : o ++ zG (List.getD m k []) = p) : l ++ (pbL ((List.length m : Nat) : Int) 2 ++ bD m (k + 1)) = p := by
  subst h1; subst h; rw [bD]; simp only [List.append_assoc]
theorem u2y {l o : List Int} {m : List (List Int)} {k : Nat} (h : l ++ (pbL ((List.length m : Nat) : Int) 2 ++ bD m k) = o) (hk : k = m.length) : l ++ aW m = o := by subst hk; exact h
theorem u2v {l o p : List Int} {m : List (List Int)} {c k : Nat} (hc : m.length = c) (h : l ++ (pbL ((c : Nat) : Int) 2 ++ bD m k) = o) (h1 : o ++ zG (List.getD m k []) = p) : l ++ (pbL ((c : Nat) : Int) 2 ++ bD m (k + 1)) = p := by subst hc; exact u2w h h1
theorem u2x {l o : List Int} {m : List (List Int)} {c k : Nat} (hc : m.length = c) (h : l ++ (pbL ((c : Nat) : Int) 2 ++ bD m k) = o) (hk : k = c) : l ++ aW m = o := by subst hc; exact u2y h hk
theorem k9k (m : List (List Int)) (k : Nat) : List.length (bD m (k + 1)) = List.length (bD m k) + (2 + List.length (List.getD m k []) * 2) := by rw [bD, List.length_append, lG]
theorem k9l {l w o : List Int} {n q : Nat} (h : l ++ w = o) (hn : l.length = n) (hq : o.length = q) : n + List.length w = q := by subst h; rw [List.length_append] at hq; omega
theorem zH (m : List (List Int)) : ∀ k j, k ≤ j → List.length (bD m k) ≤ List.length (bD m j)
  | k, 0, h => by rw [show k = 0 by omega]; exact Nat.le_refl _
  | k, j + 1, h => by
    by_cases e : k = j + 1
    · subst e; exact Nat.le_refl _
    · have := zH m k j (by omega); rw [bD, List.length_append]; omega
theorem u2z {m : List (List Int)} {k c : Nat} (hc : m.length = c) (hk : k < c) : List.length (bD m k) + (2 + List.length (List.getD m k []) * 2) + 2 ≤ List.length (aW m) := by
  subst hc
  have h := zH m (k + 1) m.length (by omega)
  rw [bD, List.length_append, lG] at h
  unfold aW; rw [List.length_append, pbL_len]; omega
def zI (b : Bx) : List Int := pbL b.k 2 ++ (d9 b.r b.rn ++ (aW b.m ++ d9 b.s b.sn))
def a2 (bs : List Bx) : Nat → List Int
  | 0 => []
  | k + 1 => a2 bs k ++ zI (eW bs k)
def vA (bs : List Bx) : List Int := pbL ((List.length bs : Nat) : Int) 2 ++ a2 bs bs.length
theorem u3a (l : List Int) (bs : List Bx) : l ++ (pbL ((List.length bs : Nat) : Int) 2 ++ a2 bs 0) = l ++ pbL ((List.length bs : Nat) : Int) 2 := by rw [a2, List.append_nil]
theorem u35 {l o : List Int} {bs : List Bx} {k : Nat} (h : l ++ (pbL ((List.length bs : Nat) : Int) 2 ++ a2 bs k) = o) : l ++ (pbL ((List.length bs : Nat) : Int) 2 ++ a2 bs (k + 1)) = o ++ pbL (cE bs k) 2 ++ d9 (c9 bs k) (vZ bs k) ++ aW (vH bs k) ++ d9 (fN bs k) (cD bs k) := by
  subst h; rw [a2, zI]; simp only [List.append_assoc]; rfl
theorem u38 {l o : List Int} {bs : List Bx} {k : Nat} (h : l ++ (pbL ((List.length bs : Nat) : Int) 2 ++ a2 bs k) = o) (hk : k = bs.length) : l ++ vA bs = o := by subst hk; exact h
theorem u34 {l o : List Int} {bs : List Bx} {c k : Nat} (hc : bs.length = c) (h : l ++ (pbL ((c : Nat) : Int) 2 ++ a2 bs k) = o) : l ++ (pbL ((c : Nat) : Int) 2 ++ a2 bs (k + 1)) = o ++ pbL (cE bs k) 2 ++ d9 (c9 bs k) (vZ bs k) ++ aW (vH bs k) ++ d9 (fN bs k) (cD bs k) := by subst hc; exact u35 h
theorem u37 {l o : List Int} {m : List Bx} {c k : Nat} (hc : m.length = c) (h : l ++ (pbL ((c : Nat) : Int) 2 ++ a2 m k) = o) (hk : k = c) : l ++ vA m = o := by subst hc; exact u38 h hk
theorem u36 (m : List Bx) (k : Nat) : List.length (a2 m (k + 1)) = List.length (a2 m k) + (2 + (2 + vZ m k * 8) + List.length (aW (vH m k)) + (2 + cD m k * 8)) := by
  rw [a2, List.length_append, zI, List.length_append, List.length_append, List.length_append, pbL_len, qQ, qQ]
  show _ = _ + (2 + (2 + (eW m k).rn * 8) + List.length (aW (eW m k).m) + (2 + (eW m k).sn * 8))
  omega
theorem zJ (m : List Bx) : ∀ k j, k ≤ j → List.length (a2 m k) ≤ List.length (a2 m j)
  | k, 0, h => by rw [show k = 0 by omega]; exact Nat.le_refl _
  | k, j + 1, h => by
    by_cases e : k = j + 1
    · subst e; exact Nat.le_refl _
    · have := zJ m k j (by omega); rw [a2, List.length_append]; omega
theorem u39 {m : List Bx} {k c : Nat} (hc : m.length = c) (hk : k < c) : List.length (a2 m k) + (2 + (2 + vZ m k * 8) + List.length (aW (vH m k)) + (2 + cD m k * 8)) + 2 ≤ List.length (vA m) := by
  subst hc
  have h := zJ m (k + 1) m.length (by omega)
  rw [a2, List.length_append, zI, List.length_append, List.length_append, List.length_append, pbL_len, qQ, qQ] at h
  unfold vA; rw [List.length_append, pbL_len]
  show _ + (2 + (2 + (eW m k).rn * 8) + List.length (aW (eW m k).m) + (2 + (eW m k).sn * 8)) + 2 ≤ _
  omega
def RbX (b : Bx) : Prop := (0 ≤ b.k ∧ b.k ≤ 65535) ∧ R32 b.r ∧ b.rn ≤ 65535 ∧ R32 b.s ∧ b.sn ≤ 65535 ∧ List.length b.m ≤ 65535 ∧ RmW b.m
def RbW (bs : List Bx) : Prop := ∀ b ∈ bs, RbX b
theorem RbW.at {bs : List Bx} (h : RbW bs) (i : Nat) : (0 ≤ cE bs i ∧ cE bs i ≤ 65535) ∧ vZ bs i ≤ 65535 ∧ cD bs i ≤ 65535 ∧ List.length (vH bs i) ≤ 65535 ∧ R32 (c9 bs i) ∧ R32 (fN bs i) ∧ RmW (vH bs i) := by
  have h1 : RbX (eW bs i) := by
    unfold eW
    rw [List.getD_eq_getElem?_getD]
    cases e : bs[i]? with
    | none => exact ⟨by show (0 : Int) ≤ 0 ∧ (0 : Int) ≤ 65535; omega, nB, Nat.zero_le _, nB, Nat.zero_le _, Nat.zero_le _, k5t⟩
    | some b => exact h b (List.mem_of_getElem? e)
  exact ⟨h1.1, h1.2.2.1, h1.2.2.2.2.1, h1.2.2.2.2.2.1, h1.2.1, h1.2.2.2.1, h1.2.2.2.2.2.2⟩
theorem s9 (r : List Int) (n : Nat) : Byt (d9 r n) := by
  have h : ∀ k, Byt (nX r k) := fun k => by
    induction k with
    | zero => exact Byt.nil
    | succ k ih => exact ih.app ((pbL_byt _ _).app (pbL_byt _ _))
  exact (pbL_byt _ _).app (h n)
theorem k3q (m : List Int) : Byt (zG m) := by
  have h : ∀ k, Byt (nY m k) := fun k => by
    induction k with
    | zero => exact Byt.nil
    | succ k ih => exact ih.app (pbL_byt _ _)
  exact (pbL_byt _ _).app (h _)
theorem k3r (m : List (List Int)) : Byt (aW m) := by
  have h : ∀ k, Byt (bD m k) := fun k => by
    induction k with
    | zero => exact Byt.nil
    | succ k ih => exact ih.app (k3q _)
  exact (pbL_byt _ _).app (h _)
theorem tB (m : List Bx) : Byt (vA m) := by
  have h : ∀ k, Byt (a2 m k) := fun k => by
    induction k with
    | zero => exact Byt.nil
    | succ k ih => exact ih.app ((pbL_byt _ _).app ((s9 _ _).app ((k3r _).app (s9 _ _))))
  exact (pbL_byt _ _).app (h _)
def sY (id : Int) (nm : List Int) (d1 d2 d3 d4 d5 : Int) (bs : List Bx) : List Int := [83, 78, 68, 49] ++ pbL id 8 ++ y3 nm ++ pbL d1 2 ++ pbL d2 2 ++ pbL d3 4 ++ pbL d4 2 ++ pbL d5 2 ++ vA bs
theorem m6 (id : Int) (nm : List Int) (d1 d2 d3 d4 d5 : Int) (bs : List Bx) : List.length (sY id nm d1 d2 d3 d4 d5 bs) = 25 + List.length nm + List.length (vA bs) := by
  unfold sY; simp only [List.length_append, pbL_len, uB, List.length_cons, List.length_nil]; omega
theorem k5p {id : Int} {nm : List Int} {d1 d2 d3 d4 d5 : Int} {bs : List Bx} (h : Byt nm) (h1 : List.length nm ≤ 64) : Byt (sY id nm d1 d2 d3 d4 d5 bs) :=
  ((((((((Byt.cons (by omega) (Byt.cons (by omega) (Byt.cons (by omega) (Byt.cons (by omega) Byt.nil)))).app (pbL_byt _ _)).app (tK h h1)).app (pbL_byt _ _)).app (pbL_byt _ _)).app (pbL_byt _ _)).app (pbL_byt _ _)).app (pbL_byt _ _)).app (tB _)
theorem qF {p : Prop} (h : p := by first | omega | with_reducible assumption | (simp only [kR, kQ, pbL_len, uB, qQ, List.length_append, List.length_cons, List.length_nil, List.length_take, List.length_drop, List.length_replicate, List.length_set] <;> omega) | rfl | assumption) : p := h
theorem y8 {p : Prop} (h : p := by first | omega | (simp only [kR, kQ, pbL_len, uB, qQ, qL, List.length_append, List.length_cons, List.length_nil, List.length_take, List.length_drop, List.length_replicate, List.length_set, List.length_map, List.length_reverse, Nat.mul_one] <;> omega) | rfl) : p := h
theorem aH (l : List Int) (n : Nat) (x : Int) (hn : List.length l = n) (h2 : n ≤ 900000) (hx : 0 ≤ x ∧ x ≤ 65535) : Fun 17 [.c (.ptr 0 0), iE x] (kG [(0, some (47, .cs [.own 1 0 n 1 true])), (1, some (5, .ds (dI .u8 l)))]) 2 (.tup []) (kG [(0, some (47, .cs [.own 2 0 (n + 2) 1 true])), (1, none), (2, some (5, .ds (dI .u8 (l ++ (pbL x 2)))))]) 3 := by
  refine Fun.mk (n := 15) Try.func17 rfl rfl (Nat.le_of_ble_eq_true rfl) ?_
  intro cx hcx
  refine aV (kU 6 [.w, .call [] (sV .u8 (([] : List Int) ++ (pbL x 2)) 2) [] 1 [] none, .ap none (n + 2) (dI .u8 (l ++ (([] : List Int) ++ (pbL x 2)))), .no, .no, .no]) ((0 ≤ x ∧ x ≤ 65535) ∧ (_) ∧ ((dI .u8 (([] : List Int) ++ (pbL x 2))).length = 2 * 1) ∧ (((dI .u8 l) : List D).length = n * 1) ∧ ((n + 2) * 1 ≤ 140737488355328) ∧ (n + 2 = (n + 2)) ∧ (((dI .u8 l) : List D) ++ (dI .u8 (([] : List Int) ++ (pbL x 2))) = (dI .u8 (l ++ (([] : List Int) ++ (pbL x 2)))))) [] [(0, some (47, .cs [.own 3 0 (n + 2) 1 true])), (3, some (5, .ds (dI .u8 (l ++ (([] : List Int) ++ (pbL x 2))))))] 4 ⟨⟨by omega, by omega⟩, (W_Put16_z ([] : List Int) 0 x qF zo zo), y8, y8, zo, zo, (qK .u8 l (([] : List Int) ++ (pbL x 2)))⟩ ?_
  exact kC (.inl rfl) [(2, 3)] (P := (kM 0) ∧ (kM (n + 2)) ∧ (((dI .u8 (l ++ (pbL x 2))) : List D) = (dI .u8 (l ++ (([] : List Int) ++ (pbL x 2)))))) zk ⟨rfl, rfl, (by first | rfl | with_reducible assumption | (simp only [u5, qT, qK]; rfl) | (congr 1; first | assumption | (simp; done) | omega))⟩
theorem s5 (l : List Int) (n : Nat) (x : Int) (hn : List.length l = n) (h2 : n ≤ 900000) (hx : 0 ≤ x ∧ x ≤ 4294967295) : Fun 18 [.c (.ptr 0 0), iE x] (kG [(0, some (47, .cs [.own 1 0 n 1 true])), (1, some (5, .ds (dI .u8 l)))]) 2 (.tup []) (kG [(0, some (47, .cs [.own 2 0 (n + 4) 1 true])), (1, none), (2, some (5, .ds (dI .u8 (l ++ (pbL x 4)))))]) 3 := by
  refine Fun.mk (n := 15) Try.func18 rfl rfl (Nat.le_of_ble_eq_true rfl) ?_
  intro cx hcx
  refine aV (kU 6 [.w, .call [] (sV .u8 (([] : List Int) ++ (pbL x 4)) 4) [] 1 [] none, .ap none (n + 4) (dI .u8 (l ++ (([] : List Int) ++ (pbL x 4)))), .no, .no, .no]) ((0 ≤ x ∧ x ≤ 4294967295) ∧ (_) ∧ ((dI .u8 (([] : List Int) ++ (pbL x 4))).length = 4 * 1) ∧ (((dI .u8 l) : List D).length = n * 1) ∧ ((n + 4) * 1 ≤ 140737488355328) ∧ (n + 4 = (n + 4)) ∧ (((dI .u8 l) : List D) ++ (dI .u8 (([] : List Int) ++ (pbL x 4))) = (dI .u8 (l ++ (([] : List Int) ++ (pbL x 4)))))) [] [(0, some (47, .cs [.own 3 0 (n + 4) 1 true])), (3, some (5, .ds (dI .u8 (l ++ (([] : List Int) ++ (pbL x 4))))))] 4 ⟨⟨by omega, by omega⟩, (W_Put32_z ([] : List Int) 0 x qF zo zo), y8, y8, zo, zo, (qK .u8 l (([] : List Int) ++ (pbL x 4)))⟩ ?_
  exact kC (.inl rfl) [(2, 3)] (P := (kM 0) ∧ (kM (n + 4)) ∧ (((dI .u8 (l ++ (pbL x 4))) : List D) = (dI .u8 (l ++ (([] : List Int) ++ (pbL x 4)))))) zk ⟨rfl, rfl, (by first | rfl | with_reducible assumption | (simp only [u5, qT, qK]; rfl) | (congr 1; first | assumption | (simp; done) | omega))⟩
theorem x8 (l s : List Int) (n : Nat) (hn : List.length l = n) (h2 : n ≤ 900000) (hs : Byt s) (h3 : List.length s ≤ 64) : Fun 32 [.c (.d (D.sl (dI .u8 l) n)), .c (.d (D.lit (.string (strOfNums s))))] (kG []) 0 (.tup [.c (.own 0 0 (n + (1 + (List.length s))) 1 true), iE 0]) (kG [(0, some (5, .ds (dI .u8 (l ++ (y3 s)))))]) 1 := by
  refine Fun.mk (n := 18) Try.func32 rfl rfl (Nat.le_of_ble_eq_true rfl) ?_
  intro cx hcx
  refine kK [.no, .no] True [(0, sV .u8 l n), (1, kP (D.lit (.string (strOfNums s))))] [] 0 trivial ?_
  refine AW.seq ?_
  refine kX [.no, .i (List.length s : Int), .b false] (((ByteArray.size (strOfNums s) : Int) = ((List.length s : Int) : Int)) ∧ (¬ ((64 : Int) < (List.length s : Int)))) [(0, sV .u8 l n), (1, kP (D.lit (.string (strOfNums s)))), (8, bV false)] ⟨(by rw [strOfNums_size]), zo⟩ ?_
  refine yW ?_
  refine kK [.no, .no, .i (List.length s : Int), .w, (.fz (.no)), .no, (.fz (.st none s)), .no, .call [] (oV 0 0 ((n + 1) + (List.length s)) 1) [(0, some (5, .ds (dI .u8 ((l ++ ([(List.length s : Int)] : List Int)) ++ s))))] 1 [none] none, .no, .no] (((ByteArray.size (strOfNums s) : Int) = ((List.length s : Int) : Int)) ∧ (0 ≤ (List.length s : Int) ∧ (List.length s : Int) ≤ 255) ∧ (([D.lit (.int .u8 (List.length s : Int))] : List D).length = 1 * 1) ∧ (bS (strOfNums s) = s) ∧ ((s : List Int).length ≤ 9223372036854775807) ∧ (((dI .u8 s) : List D).length = (List.length s) * 1) ∧ ([db l n, D.sl [D.lit (.int .u8 (List.length s : Int))] 1, db s (List.length s)].length = 3 * 1) ∧ (gT (oV 0 0 ((n + 1) + (List.length s)) 1) = true) ∧ ((dI .u8 ((l ++ ([(List.length s : Int)] : List Int)) ++ s)).all t6 = true) ∧ (_)) [(4, oV 3 0 ((n + 1) + (List.length s)) 1), (5, iV 0)] [(3, some (5, .ds (dI .u8 ((l ++ ([(List.length s : Int)] : List Int)) ++ s))))] 4 ⟨(by rw [strOfNums_size]), ⟨by omega, by omega⟩, y8, (r8 (kS : Byt s)), (by first | decide | omega | (simp only [kR, kQ, pbL_len, uB, qQ, List.length_append, List.length_cons, List.length_nil, List.length_take, List.length_drop] <;> omega)), y8, y8, rfl, (by first | exact k6w _ _ | rfl), (nG l ([(List.length s : Int)] : List Int) s n 1 (List.length s) zo qF rfl zo zo zo)⟩ ?_
  refine AW.ret ?_
  exact kC (.inr rfl) [(0, 3)] (P := (kM 0) ∧ (((n + (1 + (List.length s))) : Nat) = ((n + 1) + (List.length s))) ∧ (kN 0) ∧ (((dI .u8 (l ++ (y3 s))) : List D) = (dI .u8 ((l ++ ([(List.length s : Int)] : List Int)) ++ s)))) zk ⟨rfl, (by first | omega | rfl | assumption | (simp; done) | (simp; omega)), rfl, (by first | rfl | (unfold y3; simp; done))⟩
theorem rA (l s : List Int) (n : Nat) (hn : List.length l = n) (h2 : n ≤ 900000) (hs : Byt s) (h3 : List.length s ≤ 64) : Fun 32 [.c (.d (D.sl (dI .u8 l) n)), .c (.d (D.lit (.string (strOfNums s))))] (kG []) 0 (.tup [.c (.d (D.sl (dI .u8 (l ++ (y3 s))) (n + (1 + (List.length s))))), iE 0]) (kG []) 1 := (Fun.frz (y := .tup [.c (.own 0 0 (n + (1 + (List.length s))) 1 true), iE 0]) (g1 := [(0, some (5, .ds (dI .u8 (l ++ (y3 s)))))]) (y' := .tup [.c (.d (D.sl (dI .u8 (l ++ (y3 s))) (n + (1 + (List.length s))))), iE 0]) (g1' := []) (ds := (dI .u8 (l ++ (y3 s)))) 0 (x8 l s n hn h2 hs h3) rfl FzG.nil (.tup ⟨.c (FzC.wh ((by simp only [List.length_append, uB]; omega))), .c (.same _), trivial⟩))
theorem u2k (l s : List Int) (n : Nat) (hn : List.length l = n) (h2 : n ≤ 900000) (hs : Byt s) (h3 : List.length s ≤ 64) : Fun 16 [.c (.ptr 0 0), .c (.d (D.lit (.string (strOfNums s))))] (kG [(0, some (47, .cs [.own 1 0 n 1 true])), (1, some (5, .ds (dI .u8 l)))]) 2 (.tup []) (kG [(0, some (47, .cs [.own 2 0 (n + (1 + (List.length s))) 1 true])), (1, none), (2, some (5, .ds (dI .u8 (l ++ (y3 s)))))]) 3 := by
  refine Fun.mk (n := 20) Try.func16 rfl rfl (Nat.le_of_ble_eq_true rfl) ?_
  intro cx hcx
  refine kK (.no :: .call [] (.tup [.c (.d (db (([] : List Int) ++ (y3 s)) (0 + (1 + (List.length s))))), iE 0]) [] 1 [] none :: kU 5 []) _ [(0, rV 0 0), (4, sV .u8 (([] : List Int) ++ (y3 s)) (0 + (1 + (List.length s))))] [(0, some (47, .cs [.own 1 0 n 1 true])), (1, some (5, .ds (dI .u8 l)))] 3 (rA ([] : List Int) s 0 qF zo (kS : Byt s) zo) ?_
  refine aV (kU 6 [.ap none (n + (0 + (1 + (List.length s)))) (dI .u8 (l ++ (([] : List Int) ++ (y3 s)))), .no, .no, .no]) (((dI .u8 (([] : List Int) ++ (y3 s))).length = (0 + (1 + (List.length s))) * 1) ∧ (((dI .u8 l) : List D).length = n * 1) ∧ ((n + (0 + (1 + (List.length s)))) * 1 ≤ 140737488355328) ∧ (n + (0 + (1 + (List.length s))) = (n + (0 + (1 + (List.length s))))) ∧ (((dI .u8 l) : List D) ++ (dI .u8 (([] : List Int) ++ (y3 s))) = (dI .u8 (l ++ (([] : List Int) ++ (y3 s)))))) [] [(0, some (47, .cs [.own 3 0 (n + (0 + (1 + (List.length s)))) 1 true])), (3, some (5, .ds (dI .u8 (l ++ (([] : List Int) ++ (y3 s))))))] 4 ⟨y8, y8, zo, zo, (qK .u8 l (([] : List Int) ++ (y3 s)))⟩ ?_
  exact kC (.inl rfl) [(2, 3)] (P := (kM 0) ∧ (((n + (1 + (List.length s))) : Nat) = (n + (0 + (1 + (List.length s))))) ∧ (((dI .u8 (l ++ (y3 s))) : List D) = (dI .u8 (l ++ (([] : List Int) ++ (y3 s)))))) zk ⟨rfl, (by first | omega | rfl | assumption | (simp; done) | (simp; omega)), (by first | rfl | (simp only [List.nil_append]; done))⟩
theorem bJ {p : Prop} (h : p := by first | omega | assumption | simp) : p := h
theorem j7 {p : Prop} (h : p := by first | rfl | omega | assumption | (simp; done) | (simp; omega)) : p := h
theorem k3i (l : List Int) (n : Nat) (r : List Int) (rn : Nat) (hn : List.length l = n) (hr : List.length r = rn * 2) (h1 : rn ≤ 65535) (h2 : n + 2 + rn * 8 ≤ 900000) (hR : R32 r) : Fun 34 [.c (.ptr 0 0), .agg [.d (D.sl (dI .i64 r) rn)]] (kG [(0, some (47, .cs [.own 1 0 n 1 true])), (1, some (5, .ds (dI .u8 l)))]) 2 (.tup []) (kG [(0, some (47, .cs [.own 2 0 (n + (2 + (rn * 8))) 1 true])), (1, none), (2, some (5, .ds (dI .u8 (l ++ (d9 r rn)))))]) 3 := by
  refine Fun.mk (n := 27) Try.func34 rfl rfl (Nat.le_of_ble_eq_true rfl) ?_
  intro cx hcx
  refine kK [.no] True [(0, rV 0 0), (3, rV 2 0)] [(0, some (47, .cs [.own 1 0 n 1 true])), (1, some (5, .ds (dI .u8 l))), (2, some (75, .ds [dl r rn]))] 3 trivial ?_
  refine kK (kU 4 [.call [0, 1] (.tup []) [(0, some (47, .cs [.own 2 0 (n + 2) 1 true])), (1, none), (2, some (5, .ds (dI .u8 (l ++ (pbL (rn : Int) 2)))))] 3 [] none]) _ [(0, rV 0 0), (3, rV 2 0)] [(0, some (47, .cs [.own 3 0 (n + 2) 1 true])), (2, some (75, .ds [dl r rn])), (3, some (5, .ds (dI .u8 (l ++ (pbL ↑rn 2)))))] 4 (aH l n (rn : Int) zo zo zo) ?_
  refine kK (kU 4 []) True [(0, rV 0 0), (12, sV .i64 r rn), (13, uV rn), (14, iV 0)] [(0, some (47, .cs [.own 3 0 (n + 2) 1 true])), (3, some (5, .ds (dI .u8 (l ++ (pbL ↑rn 2)))))] 4 trivial ?_
  refine AW.block ?_
  refine kW 2 hcx (fun (x : {x : Nat × Nat × List Int // match x with | (k, q, o) => (k ≤ rn) ∧ (l ++ (pbL (rn : Int) 2 ++ nX r k) = o) ∧ (List.length o = q ∧ q = n + 2 + k * 8)}) => match x with | ⟨(k, q, o), _⟩ => (⟨[(0, rV 0 0), (12, sV .i64 r rn), (13, uV rn), (14, uV k)], [(0, some (47, .cs [.own 4 0 q 1 true])), (4, some (5, .ds (dI .u8 o)))], 5⟩ : ES)) (fun x => match x with | ⟨(k, q, o), _⟩ => rn - k) ⟨((0 : Nat), ((n + 2) : Nat), ((l ++ (pbL (rn : Int) 2)) : List Int)), ⟨bJ, (u2r _ _ _), ⟨by rw [List.length_append, pbL_len, hn], by omega⟩⟩⟩ [(4, 3)] (P := (kM 0) ∧ (k8 (dI .i64 r)) ∧ (kM rn) ∧ (kN (rn : Int)) ∧ (kN 0) ∧ (kM 0) ∧ (kM (n + 2)) ∧ (k8 (dI .u8 (l ++ (pbL (rn : Int) 2))))) zk ⟨rfl, rfl, rfl, rfl, rfl, rfl, rfl, rfl⟩ ?_
  rintro ⟨⟨k, q, o⟩, hinv0⟩
  obtain ⟨hk, ho, hq⟩ : (k ≤ rn) ∧ (l ++ (pbL ((rn : Nat) : Int) 2 ++ nX r k) = o) ∧ (List.length o = q ∧ q = n + 2 + k * 8) := hinv0
  refine uI (l := [(0, rV 0 0), (12, sV .i64 r rn), (13, uV rn), (14, uV k)]) (g := [(0, some (47, .cs [.own 4 0 q 1 true])), (4, some (5, .ds (dI .u8 o)))]) (nx := 5) rfl rfl rfl ?_
  by_cases hx1 : (((k : Nat) : Int) < ((rn : Nat) : Int))
  · refine zr [.b true] [0, 12, 13, 14, 15] [0, 4] (((k : Int) < (rn : Int))) [(0, rV 0 0), (12, sV .i64 r rn), (13, uV rn), (14, uV k), (15, bV true)] [(0, some (47, .cs [.own 4 0 q 1 true])), (4, some (5, .ds (dI .u8 o)))] 5 zo ?_
    refine AW.seq ?_
    refine vC ?_
    refine AW.seq ?_
    refine AW.block ?_
    have hx2 : 0 ≤ (List.getD r (k * 2) 0) ∧ (List.getD r (k * 2) 0) ≤ 4294967295 := (R32.at (kS : R32 r) zo)
    have hx3 : 0 ≤ (List.getD r ((k * 2) + 1) 0) ∧ (List.getD r ((k * 2) + 1) 0) ≤ 4294967295 := (R32.at (kS : R32 r) zo)
    refine kK [.n k, .ds [iD (List.getD r (k * 2) 0), iD (List.getD r ((k * 2) + 1) 0)], .no, .no] ((kN (k : Int)) ∧ (k < rn) ∧ (List.take 2 (List.drop (k * 2) (dI .i64 r)) = [iD (List.getD r (k * 2) 0), iD (List.getD r ((k * 2) + 1) 0)]) ∧ (([iD (List.getD r (k * 2) 0), iD (List.getD r ((k * 2) + 1) 0)] : List D).length = 2)) [(0, rV 0 0), (5, rV 5 0), (12, sV .i64 r rn), (13, uV rn), (14, uV k)] [(0, some (47, .cs [.own 4 0 q 1 true])), (4, some (5, .ds (dI .u8 o))), (5, some (96, .ds [iD (List.getD r (k * 2) 0), iD (List.getD r ((k * 2) + 1) 0)]))] 6 ⟨rfl, zo, (c6 .i64 r (k * 2) 2 y8), rfl⟩ ?_
    refine kK [.no, .no, .no, .call [0, 4] (.tup []) [(0, some (47, .cs [.own 2 0 (q + 4) 1 true])), (1, none), (2, some (5, .ds (dI .u8 (o ++ (pbL (List.getD r (k * 2) 0) 4)))))] 3 [] none] _ [(0, rV 0 0), (5, rV 5 0), (12, sV .i64 r rn), (13, uV rn), (14, uV k)] [(0, some (47, .cs [.own 6 0 (q + 4) 1 true])), (5, some (96, .ds [iD (List.getD r (k * 2) 0), iD (List.getD r ((k * 2) + 1) 0)])), (6, some (5, .ds (dI .u8 (o ++ (pbL (List.getD r (k * 2) 0) 4)))))] 7 (s5 o q (List.getD r (k * 2) 0) zo zo qF) ?_
    refine aV [.no, .no, .no, .call [0, 6] (.tup []) [(0, some (47, .cs [.own 2 0 ((q + 4) + 4) 1 true])), (1, none), (2, some (5, .ds (dI .u8 ((o ++ (pbL (List.getD r (k * 2) 0) 4)) ++ (pbL (List.getD r ((k * 2) + 1) 0) 4)))))] 3 [] none] _ [(0, rV 0 0), (12, sV .i64 r rn), (13, uV rn), (14, uV k)] [(0, some (47, .cs [.own 7 0 ((q + 4) + 4) 1 true])), (7, some (5, .ds (dI .u8 ((o ++ (pbL (List.getD r (k * 2) 0) 4)) ++ (pbL (List.getD r ((k * 2) + 1) 0) 4)))))] 8 (s5 (o ++ (pbL (List.getD r (k * 2) 0) 4)) (q + 4) (List.getD r ((k * 2) + 1) 0) qF zo qF) ?_
    refine yG [.w, .no] (qM ((k : Int) + 1)) [(0, rV 0 0), (12, sV .i64 r rn), (13, uV rn), (14, iV (↑k + 1))] ⟨by omega, by omega⟩ ?_
    exact qR ⟨(((k + 1) : Nat), (((q + 4) + 4) : Nat), (((o ++ (pbL (List.getD r (k * 2) 0) 4)) ++ (pbL (List.getD r ((k * 2) + 1) 0) 4)) : List Int)), ⟨bJ, (u2p ho), (by simp only [kR, kQ, pbL_len, uB, qQ, List.length_append, pbL_len] <;> omega)⟩⟩ [(4, 7)] (P := (kM 0) ∧ (k8 (dI .i64 r)) ∧ (kM rn) ∧ (kN (rn : Int)) ∧ (q1S k) ∧ (kM 0) ∧ (kM ((q + 4) + 4)) ∧ (k8 (dI .u8 ((o ++ (pbL (List.getD r (k * 2) 0) 4)) ++ (pbL (List.getD r ((k * 2) + 1) 0) 4))))) zk ⟨rfl, rfl, rfl, rfl, j7, rfl, rfl, rfl⟩ (show rn - (k + 1) < rn - k from (by first | omega | (show _ < _; simp; omega)))
  · refine zr [.b false] [0, 12, 13, 14, 15] [0, 4] (¬ ((k : Int) < (rn : Int))) [(0, rV 0 0), (12, sV .i64 r rn), (13, uV rn), (14, uV k), (15, bV false)] [(0, some (47, .cs [.own 4 0 q 1 true])), (4, some (5, .ds (dI .u8 o)))] 5 zo ?_
    refine AW.seq ?_
    refine zf ?_
    refine AW.exit ?_
    have hz1 : l ++ d9 r rn = o := u2q ho (by omega)
    exact kC (.inl rfl) [(2, 4)] (P := (kM 0) ∧ (((n + (2 + (rn * 8))) : Nat) = q) ∧ (((dI .u8 (l ++ (d9 r rn))) : List D) = (dI .u8 o))) zk ⟨rfl, (by first | omega | rfl | exact hz1.symm | exact hz1 | (rw [hz1]; done) | (rw [List.append_assoc, hz1]; done)), (by first | omega | rfl | exact hz1.symm | exact hz1 | (rw [hz1]; done) | (rw [List.append_assoc, hz1]; done))⟩
abbrev lR (m : List (List Int)) (k : Nat) := pbL (((List.length (List.getD m k ([] : List Int))) : Nat) : Int) 2
theorem k5v (l : List Int) (n : Nat) (m : List (List Int)) (c : Nat) (hn : List.length l = n) (hc : List.length m = c) (h1 : c ≤ 65535) (h2 : n + List.length (aW m) ≤ 900000) (hW : MsW m) (hM : RmW m) : Fun 35 [.c (.ptr 0 0), .c (.d (D.sl (k9 m) c))] (kG [(0, some (47, .cs [.own 1 0 n 1 true])), (1, some (5, .ds (dI .u8 l)))]) 2 (.tup []) (kG [(0, some (47, .cs [.own 2 0 (n + (List.length (aW m))) 1 true])), (1, none), (2, some (5, .ds (dI .u8 (l ++ (aW m)))))]) 3 := by
  refine Fun.mk (n := 33) Try.func35 rfl rfl (Nat.le_of_ble_eq_true rfl) ?_
  intro cx hcx
  refine kK [.no, .no, .no, .call [0, 1] (.tup []) [(0, some (47, .cs [.own 2 0 (n + 2) 1 true])), (1, none), (2, some (5, .ds (dI .u8 (l ++ (pbL (c : Int) 2)))))] 3 [] none] _ [(0, rV 0 0), (1, qX (k9 m) c)] [(0, some (47, .cs [.own 2 0 (n + 2) 1 true])), (2, some (5, .ds (dI .u8 (l ++ (pbL ↑c 2)))))] 3 (aH l n (c : Int) zo zo zo) ?_
  refine kX [.no, .no, .no] True [(0, rV 0 0), (12, qX (k9 m) c), (13, uV c), (14, iV 0)] trivial ?_
  refine AW.block ?_
  refine kW 2 hcx (fun (x : {x : Nat × Nat × List Int // match x with | (k, q, o) => (k ≤ c) ∧ (l ++ (pbL (c : Int) 2 ++ bD m k) = o) ∧ (List.length o = q ∧ q = n + 2 + List.length (bD m k))}) => match x with | ⟨(k, q, o), _⟩ => (⟨[(0, rV 0 0), (12, qX (k9 m) c), (13, uV c), (14, uV k)], [(0, some (47, .cs [.own 3 0 q 1 true])), (3, some (5, .ds (dI .u8 o)))], 4⟩ : ES)) (fun x => match x with | ⟨(k, q, o), _⟩ => c - k) ⟨((0 : Nat), ((n + 2) : Nat), ((l ++ (pbL (c : Int) 2)) : List Int)), ⟨bJ, (by subst hc; exact u30 _ _), ⟨by rw [List.length_append, pbL_len, hn], rfl⟩⟩⟩ [(3, 2)] (P := (kM 0) ∧ (k8 (k9 m)) ∧ (kM c) ∧ (kN (c : Int)) ∧ (kN 0) ∧ (kM 0) ∧ (kM (n + 2)) ∧ (k8 (dI .u8 (l ++ (pbL (c : Int) 2))))) zk ⟨rfl, rfl, rfl, rfl, rfl, rfl, rfl, rfl⟩ ?_
  rintro ⟨⟨k, q, o⟩, hinv0⟩
  obtain ⟨hk, ho, hq⟩ : (k ≤ c) ∧ (l ++ (pbL ((c : Nat) : Int) 2 ++ bD m k) = o) ∧ (List.length o = q ∧ q = n + 2 + List.length (bD m k)) := hinv0
  refine uI (l := [(0, rV 0 0), (12, qX (k9 m) c), (13, uV c), (14, uV k)]) (g := [(0, some (47, .cs [.own 3 0 q 1 true])), (3, some (5, .ds (dI .u8 o)))]) (nx := 4) rfl rfl rfl ?_
  by_cases hx1 : (((k : Nat) : Int) < ((c : Nat) : Int))
  · refine zr [.b true] [0, 12, 13, 14, 15] [0, 3] (((k : Int) < (c : Int))) [(0, rV 0 0), (12, qX (k9 m) c), (13, uV c), (14, uV k), (15, bV true)] [(0, some (47, .cs [.own 3 0 q 1 true])), (3, some (5, .ds (dI .u8 o)))] 4 zo ?_
    refine AW.seq ?_
    refine vC ?_
    refine AW.seq ?_
    refine AW.block ?_
    have hx2 : R16 (List.getD m k []) := (RmW.at hM k).1
    have hx3 : List.length (List.getD m k []) ≤ 65535 := (RmW.at hM k).2
    have hx4 : List.length (bD m k) + (2 + List.length (List.getD m k []) * 2) + 2 ≤ List.length (aW m) := u2z hc zo
    have hx5 : ((List.length (List.getD m k ([] : List Int))) ≤ 1000000) := MsW.at (kS : MsW m) _
    refine kK [.n k, .d (dl (List.getD m k ([] : List Int)) (List.length (List.getD m k ([] : List Int)))), .no] ((kN (k : Int)) ∧ (k < c) ∧ ((List.drop k (k9 m))[0]? = some (dl (List.getD m k ([] : List Int)) (List.length (List.getD m k ([] : List Int)))))) [(0, rV 0 0), (5, sV .i64 (List.getD m k ([] : List Int)) (List.length (List.getD m k ([] : List Int)))), (12, qX (k9 m) c), (13, uV c), (14, uV k)] [(0, some (47, .cs [.own 3 0 q 1 true])), (3, some (5, .ds (dI .u8 o)))] 4 ⟨rfl, zo, (eO _ _ (by first | omega | (simp only [kR, kQ, pbL_len, uB, qQ, List.length_append, List.length_cons, List.length_nil, List.length_take, List.length_drop] <;> omega)))⟩ ?_
    refine kK [.no, .no, .no, .call [0, 3] (.tup []) [(0, some (47, .cs [.own 2 0 (q + 2) 1 true])), (1, none), (2, some (5, .ds (dI .u8 (o ++ (lR m k)))))] 3 [] none] _ [(0, rV 0 0), (5, sV .i64 (List.getD m k ([] : List Int)) (List.length (List.getD m k ([] : List Int)))), (12, qX (k9 m) c), (13, uV c), (14, uV k)] [(0, some (47, .cs [.own 4 0 (q + 2) 1 true])), (4, some (5, .ds (dI .u8 (o ++ (lR m k)))))] 5 (aH o q (((List.length (List.getD m k ([] : List Int))) : Nat) : Int) zo zo qF) ?_
    refine kX [.no, .no, .no] True [(0, rV 0 0), (12, qX (k9 m) c), (13, uV c), (14, uV k), (22, sV .i64 (List.getD m k ([] : List Int)) (List.length (List.getD m k ([] : List Int)))), (23, uV (List.length (List.getD m k ([] : List Int)))), (24, iV 0)] trivial ?_
    refine AW.block ?_
    refine kW 2 hcx (fun (x : {x : Nat × Nat × List Int // match x with | (j, p, b) => (j ≤ List.length (List.getD m k [])) ∧ (o ++ (pbL ((List.length (List.getD m k []) : Nat) : Int) 2 ++ nY (List.getD m k []) j) = b) ∧ (List.length b = p ∧ p = q + 2 + j * 2)}) => match x with | ⟨(j, p, b), _⟩ => (⟨[(0, rV 0 0), (12, qX (k9 m) c), (13, uV c), (14, uV k), (22, sV .i64 (List.getD m k ([] : List Int)) (List.length (List.getD m k ([] : List Int)))), (23, uV (List.length (List.getD m k ([] : List Int)))), (24, uV j)], [(0, some (47, .cs [.own 5 0 p 1 true])), (5, some (5, .ds (dI .u8 b)))], 6⟩ : ES)) (fun x => match x with | ⟨(j, p, b), _⟩ => List.length (List.getD m k []) - j) ⟨((0 : Nat), ((q + 2) : Nat), ((o ++ (lR m k)) : List Int)), ⟨bJ, (u2u _ _), ⟨by rw [List.length_append, pbL_len]; omega, by omega⟩⟩⟩ [(5, 4)] (P := (kM 0) ∧ (k8 (k9 m)) ∧ (kM c) ∧ (kN (c : Int)) ∧ (kN (k : Int)) ∧ (k8 (dI .i64 (List.getD m k ([] : List Int)))) ∧ (kM (List.length (List.getD m k ([] : List Int)))) ∧ (kN (((List.length (List.getD m k ([] : List Int))) : Nat) : Int)) ∧ (kN 0) ∧ (kM 0) ∧ (kM (q + 2)) ∧ (k8 (dI .u8 (o ++ (lR m k))))) zk ⟨rfl, rfl, rfl, rfl, rfl, rfl, rfl, rfl, rfl, rfl, rfl, rfl⟩ ?_
    rintro ⟨⟨j, p, b⟩, hinv1⟩
    obtain ⟨hj, hb, hp⟩ : (j ≤ List.length (List.getD m k [])) ∧ (o ++ (pbL ((List.length (List.getD m k []) : Nat) : Int) 2 ++ nY (List.getD m k []) j) = b) ∧ (List.length b = p ∧ p = q + 2 + j * 2) := hinv1
    refine uI (l := [(0, rV 0 0), (12, qX (k9 m) c), (13, uV c), (14, uV k), (22, sV .i64 (List.getD m k ([] : List Int)) (List.length (List.getD m k ([] : List Int)))), (23, uV (List.length (List.getD m k ([] : List Int)))), (24, uV j)]) (g := [(0, some (47, .cs [.own 5 0 p 1 true])), (5, some (5, .ds (dI .u8 b)))]) (nx := 6) rfl rfl rfl ?_
    by_cases hx6 : (((j : Nat) : Int) < (((List.length (List.getD m k ([] : List Int))) : Nat) : Int))
    · refine zr [.b true] [0, 12, 13, 14, 22, 23, 24, 25] [0, 5] (((j : Int) < (((List.length (List.getD m k ([] : List Int))) : Nat) : Int))) [(0, rV 0 0), (12, qX (k9 m) c), (13, uV c), (14, uV k), (22, sV .i64 (List.getD m k ([] : List Int)) (List.length (List.getD m k ([] : List Int)))), (23, uV (List.length (List.getD m k ([] : List Int)))), (24, uV j), (25, bV true)] [(0, some (47, .cs [.own 5 0 p 1 true])), (5, some (5, .ds (dI .u8 b)))] 6 zo ?_
      refine AW.seq ?_
      refine vC ?_
      refine AW.seq ?_
      refine AW.block ?_
      have hx7 : 0 ≤ (List.getD (List.getD m k ([] : List Int)) j 0) ∧ (List.getD (List.getD m k ([] : List Int)) j 0) ≤ 65535 := (R16.at (kS : R16 (List.getD m k ([] : List Int))) zo)
      refine kK [.n j, .d (D.lit (.int .i64 (List.getD (List.getD m k ([] : List Int)) j 0))), .no] ((kN (j : Int)) ∧ (j < (List.length (List.getD m k ([] : List Int)))) ∧ ((List.drop j (dI .i64 (List.getD m k ([] : List Int))))[0]? = some (D.lit (.int .i64 (List.getD (List.getD m k ([] : List Int)) j 0))))) [(0, rV 0 0), (7, iV (List.getD (List.getD m k ([] : List Int)) j 0)), (12, qX (k9 m) c), (13, uV c), (14, uV k), (22, sV .i64 (List.getD m k ([] : List Int)) (List.length (List.getD m k ([] : List Int)))), (23, uV (List.length (List.getD m k ([] : List Int)))), (24, uV j)] [(0, some (47, .cs [.own 5 0 p 1 true])), (5, some (5, .ds (dI .u8 b)))] 6 ⟨rfl, zo, (qU _ _ _ y8)⟩ ?_
      refine aV [.no, .no, .call [0, 5] (.tup []) [(0, some (47, .cs [.own 2 0 (p + 2) 1 true])), (1, none), (2, some (5, .ds (dI .u8 (b ++ (pbL (List.getD (List.getD m k ([] : List Int)) j 0) 2)))))] 3 [] none] _ [(0, rV 0 0), (12, qX (k9 m) c), (13, uV c), (14, uV k), (22, sV .i64 (List.getD m k ([] : List Int)) (List.length (List.getD m k ([] : List Int)))), (23, uV (List.length (List.getD m k ([] : List Int)))), (24, uV j)] [(0, some (47, .cs [.own 6 0 (p + 2) 1 true])), (6, some (5, .ds (dI .u8 (b ++ (pbL (List.getD (List.getD m k ([] : List Int)) j 0) 2)))))] 7 (aH b p (List.getD (List.getD m k ([] : List Int)) j 0) zo zo qF) ?_
      refine yG [.w, .no] (qM ((j : Int) + 1)) [(0, rV 0 0), (12, qX (k9 m) c), (13, uV c), (14, uV k), (22, sV .i64 (List.getD m k ([] : List Int)) (List.length (List.getD m k ([] : List Int)))), (23, uV (List.length (List.getD m k ([] : List Int)))), (24, iV (↑j + 1))] ⟨by omega, by omega⟩ ?_
      exact qR ⟨(((j + 1) : Nat), ((p + 2) : Nat), ((b ++ (pbL (List.getD (List.getD m k ([] : List Int)) j 0) 2)) : List Int)), ⟨bJ, (u2s hb), (by simp only [kR, kQ, pbL_len, uB, qQ, List.length_append, pbL_len] <;> omega)⟩⟩ [(5, 6)] (P := (kM 0) ∧ (k8 (k9 m)) ∧ (kM c) ∧ (kN (c : Int)) ∧ (kN (k : Int)) ∧ (k8 (dI .i64 (List.getD m k ([] : List Int)))) ∧ (kM (List.length (List.getD m k ([] : List Int)))) ∧ (kN (((List.length (List.getD m k ([] : List Int))) : Nat) : Int)) ∧ (q1S j) ∧ (kM 0) ∧ (kM (p + 2)) ∧ (k8 (dI .u8 (b ++ (pbL (List.getD (List.getD m k ([] : List Int)) j 0) 2))))) zk ⟨rfl, rfl, rfl, rfl, rfl, rfl, rfl, rfl, j7, rfl, rfl, rfl⟩ (show List.length (List.getD m k []) - (j + 1) < List.length (List.getD m k []) - j from (by first | omega | (show _ < _; simp; omega)))
    · refine zr [.b false] [0, 12, 13, 14, 22, 23, 24, 25] [0, 5] (¬ ((j : Int) < (((List.length (List.getD m k ([] : List Int))) : Nat) : Int))) [(0, rV 0 0), (12, qX (k9 m) c), (13, uV c), (14, uV k), (22, sV .i64 (List.getD m k ([] : List Int)) (List.length (List.getD m k ([] : List Int)))), (23, uV (List.length (List.getD m k ([] : List Int)))), (24, uV j), (25, bV false)] [(0, some (47, .cs [.own 5 0 p 1 true])), (5, some (5, .ds (dI .u8 b)))] 6 zo ?_
      refine AW.seq ?_
      refine zf ?_
      refine AW.exit ?_
      have hz1 : o ++ zG (List.getD m k []) = b := u2t hb (by omega)
      have hz2 : List.length (bD m (k + 1)) = List.length (bD m k) + (2 + List.length (List.getD m k []) * 2) := k9k _ _
      refine aV [.w, .no] (qM ((k : Int) + 1)) [(0, rV 0 0), (12, qX (k9 m) c), (13, uV c), (14, iV (↑k + 1))] [(0, some (47, .cs [.own 5 0 p 1 true])), (5, some (5, .ds (dI .u8 b)))] 6 ⟨by omega, by omega⟩ ?_
      exact qR ⟨(((k + 1) : Nat), (p : Nat), (b : List Int)), ⟨bJ, (u2v hc ho hz1), (by first | assumption | exact ⟨by omega, wm_q hz1 zo zo⟩ | omega)⟩⟩ [(3, 5)] (P := (kM 0) ∧ (k8 (k9 m)) ∧ (kM c) ∧ (kN (c : Int)) ∧ (q1S k) ∧ (kM 0) ∧ (kM p) ∧ (k8 (dI .u8 b))) zk ⟨rfl, rfl, rfl, rfl, j7, rfl, rfl, rfl⟩ (show c - (k + 1) < c - k from (by first | omega | (show _ < _; simp; omega)))
  · refine zr [.b false] [0, 12, 13, 14, 15] [0, 3] (¬ ((k : Int) < (c : Int))) [(0, rV 0 0), (12, qX (k9 m) c), (13, uV c), (14, uV k), (15, bV false)] [(0, some (47, .cs [.own 3 0 q 1 true])), (3, some (5, .ds (dI .u8 o)))] 4 zo ?_
    refine AW.seq ?_
    refine zf ?_
    refine AW.exit ?_
    have hz1 : l ++ aW m = o := u2x hc ho (by omega); have hz2 : n + List.length (aW m) = q := k9l hz1 hn hq.1
    exact kC (.inl rfl) [(2, 3)] (P := (kM 0) ∧ (((n + (List.length (aW m))) : Nat) = q) ∧ (((dI .u8 (l ++ (aW m))) : List D) = (dI .u8 o))) zk ⟨rfl, (by first | exact hz2 | omega | rfl), (by first | omega | rfl | exact hz1.symm | exact hz1 | (rw [hz1]; done) | (rw [List.append_assoc, hz1]; done))⟩
abbrev lQ (bs : List Bx) (k : Nat) : BC := .ds [iD (cE bs k), D.sl (dI .i64 (c9 bs k)) (vZ bs k), D.sl (k9 (vH bs k)) (List.length (vH bs k)), D.sl (dI .i64 (fN bs k)) (cD bs k)]
theorem k3j (l : List Int) (n : Nat) (bs : List Bx) (c : Nat) (hn : List.length l = n) (hc : List.length bs = c) (h1 : c ≤ 65535) (h2 : n + List.length (vA bs) ≤ 900000) (hW : BsW bs) (hM : RbW bs) : Fun 19 [.c (.ptr 0 0), .c (.d (D.sl (qH bs) c))] (kG [(0, some (47, .cs [.own 1 0 n 1 true])), (1, some (5, .ds (dI .u8 l)))]) 2 (.tup []) (kG [(0, some (47, .cs [.own 2 0 (n + (List.length (vA bs))) 1 true])), (1, none), (2, some (5, .ds (dI .u8 (l ++ (vA bs)))))]) 3 := by
  refine Fun.mk (n := 33) Try.func19 rfl rfl (Nat.le_of_ble_eq_true rfl) ?_
  intro cx hcx
  refine kK [.no, .no, .no, .call [0, 1] (.tup []) [(0, some (47, .cs [.own 2 0 (n + 2) 1 true])), (1, none), (2, some (5, .ds (dI .u8 (l ++ (pbL (c : Int) 2)))))] 3 [] none] _ [(0, rV 0 0), (1, .e (eM bs c))] [(0, some (47, .cs [.own 2 0 (n + 2) 1 true])), (2, some (5, .ds (dI .u8 (l ++ (pbL ↑c 2)))))] 3 (aH l n (c : Int) zo zo zo) ?_
  refine kX [.no, .no, .no] True [(0, rV 0 0), (10, .e (eM bs c)), (11, uV c), (12, iV 0)] trivial ?_
  refine AW.block ?_
  refine kW 2 hcx (fun (x : {x : Nat × Nat × List Int // match x with | (k, q, o) => (k ≤ c) ∧ (l ++ (pbL (c : Int) 2 ++ a2 bs k) = o) ∧ (List.length o = q ∧ q = n + 2 + List.length (a2 bs k))}) => match x with | ⟨(k, q, o), _⟩ => (⟨[(0, rV 0 0), (10, .e (eM bs c)), (11, uV c), (12, uV k)], [(0, some (47, .cs [.own 3 0 q 1 true])), (3, some (5, .ds (dI .u8 o)))], 4⟩ : ES)) (fun x => match x with | ⟨(k, q, o), _⟩ => c - k) ⟨((0 : Nat), ((n + 2) : Nat), ((l ++ (pbL (c : Int) 2)) : List Int)), ⟨bJ, (by subst hc; exact u3a _ _), ⟨by rw [List.length_append, pbL_len, hn], rfl⟩⟩⟩ [(3, 2)] (P := (kM 0) ∧ (k8 (qH bs)) ∧ (kM c) ∧ (kN (c : Int)) ∧ (kN 0) ∧ (kM 0) ∧ (kM (n + 2)) ∧ (k8 (dI .u8 (l ++ (pbL (c : Int) 2))))) zk ⟨rfl, rfl, rfl, rfl, rfl, rfl, rfl, rfl⟩ ?_
  rintro ⟨⟨k, q, o⟩, hinv0⟩
  obtain ⟨hk, ho, hq⟩ : (k ≤ c) ∧ (l ++ (pbL ((c : Nat) : Int) 2 ++ a2 bs k) = o) ∧ (List.length o = q ∧ q = n + 2 + List.length (a2 bs k)) := hinv0
  refine uI (l := [(0, rV 0 0), (10, .e (eM bs c)), (11, uV c), (12, uV k)]) (g := [(0, some (47, .cs [.own 3 0 q 1 true])), (3, some (5, .ds (dI .u8 o)))]) (nx := 4) rfl rfl rfl ?_
  by_cases hx1 : (((k : Nat) : Int) < ((c : Nat) : Int))
  · refine zr [.b true] [0, 10, 11, 12, 13] [0, 3] (((k : Int) < (c : Int))) [(0, rV 0 0), (10, .e (eM bs c)), (11, uV c), (12, uV k), (13, bV true)] [(0, some (47, .cs [.own 3 0 q 1 true])), (3, some (5, .ds (dI .u8 o)))] 4 zo ?_
    refine AW.seq ?_
    refine vC ?_
    refine AW.seq ?_
    refine AW.block ?_
    obtain ⟨hx2, hx3, hx4, hx5, hx6, hx7, hx8⟩ := RbW.at hM k
    have hx9 : List.length (a2 bs k) + (2 + (2 + vZ bs k * 8) + List.length (aW (vH bs k)) + (2 + cD bs k * 8)) + 2 ≤ List.length (vA bs) := u39 hc zo
    have hx10 : List.length (a2 bs (k + 1)) = List.length (a2 bs k) + (2 + (2 + vZ bs k * 8) + List.length (aW (vH bs k)) + (2 + cD bs k * 8)) := u36 _ _
    obtain ⟨hx11, hx12, hx13, hx14, hx15⟩ := BsW.at (kS : BsW bs) (k)
    refine kK [.n k, .ds (q1B bs k), .no, .no] ((kN (k : Int)) ∧ (k < c) ∧ (List.take 4 (List.drop (k * 4) (qH bs)) = (q1B bs k)) ∧ (((q1B bs k) : List D).length = 4)) [(0, rV 0 0), (5, rV 4 0), (10, .e (eM bs c)), (11, uV c), (12, uV k)] [(0, some (47, .cs [.own 3 0 q 1 true])), (3, some (5, .ds (dI .u8 o))), (4, some (78, (lQ bs k)))] 5 ⟨rfl, zo, (k33 (by first | omega | (simp only [kR, kQ, pbL_len, uB, qQ, List.length_append, List.length_cons, List.length_nil, List.length_take, List.length_drop] <;> omega))), rfl⟩ ?_
    refine kK [.no, .no, .no, .call [0, 3] (.tup []) [(0, some (47, .cs [.own 2 0 (q + 2) 1 true])), (1, none), (2, some (5, .ds (dI .u8 (o ++ (pbL (cE bs k) 2)))))] 3 [] none] _ [(0, rV 0 0), (5, rV 4 0), (10, .e (eM bs c)), (11, uV c), (12, uV k)] [(0, some (47, .cs [.own 5 0 (q + 2) 1 true])), (4, some (78, (lQ bs k))), (5, some (5, .ds (dI .u8 (o ++ (pbL (cE bs k) 2)))))] 6 (aH o q (cE bs k) zo zo qF) ?_
    refine kK [.no, .no, .no, .call [0, 5] (.tup []) [(0, some (47, .cs [.own 2 0 ((q + 2) + (2 + ((vZ bs k) * 8))) 1 true])), (1, none), (2, some (5, .ds (dI .u8 ((o ++ (pbL (cE bs k) 2)) ++ (d9 (c9 bs k) (vZ bs k))))))] 3 [] none] _ [(0, rV 0 0), (5, rV 4 0), (10, .e (eM bs c)), (11, uV c), (12, uV k)] [(0, some (47, .cs [.own 6 0 ((q + 2) + (2 + ((vZ bs k) * 8))) 1 true])), (4, some (78, (lQ bs k))), (6, some (5, .ds (dI .u8 ((o ++ (pbL (cE bs k) 2)) ++ (d9 (c9 bs k) (vZ bs k))))))] 7 (k3i (o ++ (pbL (cE bs k) 2)) (q + 2) (c9 bs k) (vZ bs k) qF qF qF qF qF) ?_
    refine kK [.no, .no, .no, .call [0, 6] (.tup []) [(0, some (47, .cs [.own 2 0 (((q + 2) + (2 + ((vZ bs k) * 8))) + (List.length (aW (vH bs k)))) 1 true])), (1, none), (2, some (5, .ds (dI .u8 (((o ++ (pbL (cE bs k) 2)) ++ (d9 (c9 bs k) (vZ bs k))) ++ (aW (vH bs k))))))] 3 [] none] _ [(0, rV 0 0), (5, rV 4 0), (10, .e (eM bs c)), (11, uV c), (12, uV k)] [(0, some (47, .cs [.own 7 0 (((q + 2) + (2 + ((vZ bs k) * 8))) + (List.length (aW (vH bs k)))) 1 true])), (4, some (78, (lQ bs k))), (7, some (5, .ds (dI .u8 (((o ++ (pbL (cE bs k) 2)) ++ (d9 (c9 bs k) (vZ bs k))) ++ (aW (vH bs k))))))] 8 (k5v ((o ++ (pbL (cE bs k) 2)) ++ (d9 (c9 bs k) (vZ bs k))) ((q + 2) + (2 + ((vZ bs k) * 8))) (vH bs k) (List.length (vH bs k)) qF rfl qF qF (s6 (kS : BsW bs) _) qF) ?_
    refine aV [.no, .no, .no, .call [0, 7] (.tup []) [(0, some (47, .cs [.own 2 0 ((((q + 2) + (2 + ((vZ bs k) * 8))) + (List.length (aW (vH bs k)))) + (2 + ((cD bs k) * 8))) 1 true])), (1, none), (2, some (5, .ds (dI .u8 ((((o ++ (pbL (cE bs k) 2)) ++ (d9 (c9 bs k) (vZ bs k))) ++ (aW (vH bs k))) ++ (d9 (fN bs k) (cD bs k))))))] 3 [] none] _ [(0, rV 0 0), (10, .e (eM bs c)), (11, uV c), (12, uV k)] [(0, some (47, .cs [.own 8 0 ((((q + 2) + (2 + ((vZ bs k) * 8))) + (List.length (aW (vH bs k)))) + (2 + ((cD bs k) * 8))) 1 true])), (8, some (5, .ds (dI .u8 ((((o ++ (pbL (cE bs k) 2)) ++ (d9 (c9 bs k) (vZ bs k))) ++ (aW (vH bs k))) ++ (d9 (fN bs k) (cD bs k))))))] 9 (k3i (((o ++ (pbL (cE bs k) 2)) ++ (d9 (c9 bs k) (vZ bs k))) ++ (aW (vH bs k))) (((q + 2) + (2 + ((vZ bs k) * 8))) + (List.length (aW (vH bs k)))) (fN bs k) (cD bs k) qF qF qF qF qF) ?_
    refine yG [.w, .no] (qM ((k : Int) + 1)) [(0, rV 0 0), (10, .e (eM bs c)), (11, uV c), (12, iV (↑k + 1))] ⟨by omega, by omega⟩ ?_
    exact qR ⟨(((k + 1) : Nat), (((((q + 2) + (2 + ((vZ bs k) * 8))) + (List.length (aW (vH bs k)))) + (2 + ((cD bs k) * 8))) : Nat), (((((o ++ (pbL (cE bs k) 2)) ++ (d9 (c9 bs k) (vZ bs k))) ++ (aW (vH bs k))) ++ (d9 (fN bs k) (cD bs k))) : List Int)), ⟨bJ, (u34 hc ho), ⟨by simp only [kR, kQ, pbL_len, uB, qQ, List.length_append, pbL_len, qQ] <;> omega, by omega⟩⟩⟩ [(3, 8)] (P := (kM 0) ∧ (k8 (qH bs)) ∧ (kM c) ∧ (kN (c : Int)) ∧ (q1S k) ∧ (kM 0) ∧ (kM ((((q + 2) + (2 + ((vZ bs k) * 8))) + (List.length (aW (vH bs k)))) + (2 + ((cD bs k) * 8)))) ∧ (k8 (dI .u8 ((((o ++ (pbL (cE bs k) 2)) ++ (d9 (c9 bs k) (vZ bs k))) ++ (aW (vH bs k))) ++ (d9 (fN bs k) (cD bs k)))))) zk ⟨rfl, rfl, rfl, rfl, j7, rfl, rfl, rfl⟩ (show c - (k + 1) < c - k from (by first | omega | (show _ < _; simp; omega)))
  · refine zr [.b false] [0, 10, 11, 12, 13] [0, 3] (¬ ((k : Int) < (c : Int))) [(0, rV 0 0), (10, .e (eM bs c)), (11, uV c), (12, uV k), (13, bV false)] [(0, some (47, .cs [.own 3 0 q 1 true])), (3, some (5, .ds (dI .u8 o)))] 4 zo ?_
    refine AW.seq ?_
    refine zf ?_
    refine AW.exit ?_
    have hz1 : l ++ vA bs = o := u37 hc ho (by omega); have hz2 : n + List.length (vA bs) = q := k9l hz1 hn hq.1
    exact kC (.inl rfl) [(2, 3)] (P := (kM 0) ∧ (((n + (List.length (vA bs))) : Nat) = q) ∧ (((dI .u8 (l ++ (vA bs))) : List D) = (dI .u8 o))) zk ⟨rfl, (by first | exact hz2 | omega | rfl), (by first | omega | rfl | exact hz1.symm | exact hz1 | (rw [hz1]; done) | (rw [List.append_assoc, hz1]; done))⟩
theorem k3n (id : Int) (nm : List Int) (d1 d2 d3 d4 d5 : Int) (bs : List Bx) (n : Nat) (hy : Byt nm) (hl : List.length nm ≤ 64) (hn : List.length bs = n) (h1 : n ≤ 8) (hW : BsW bs) (hM : RbW bs) (h2 : List.length (vA bs) ≤ 800000) (hi : 0 ≤ id ∧ id ≤ 18446744073709551615) (hd : 0 ≤ d1 ∧ d1 ≤ 65535 ∧ 0 ≤ d2 ∧ d2 ≤ 65535 ∧ 0 ≤ d3 ∧ d3 ≤ 4294967295 ∧ 0 ≤ d4 ∧ d4 ≤ 65535 ∧ 0 ≤ d5 ∧ d5 ≤ 65535) (hV : cU nm d1 d2 d3 d4 d5 bs = true) : Fun 7 [.agg [.d (D.lit (.int .u64 id)), .d (D.lit (.string (strOfNums nm))), iC d1, iC d2, iC d3, iC d4, iC d5, .d (D.sl (qH bs) n)]] (kG []) 0 (.tup [.c (.d (D.sl (dI .u8 ((sY id nm d1 d2 d3 d4 d5 bs) ++ (pbL (qG (sY id nm d1 d2 d3 d4 d5 bs)) 4))) (((List.length (vA bs)) + (List.length nm)) + 29))), iE 0]) (kG []) 0 := by
  refine Fun.mk (n := 53) Try.func7 rfl rfl (Nat.le_of_ble_eq_true rfl) ?_
  intro cx hcx
  refine kK [.no, .no, .no] True [(1, rV 0 0)] [(0, some (31, .ds [D.lit (.int .u64 id), D.lit (.string (strOfNums nm)), iD d1, iD d2, iD d3, iD d4, iD d5, D.sl (qH bs) n]))] 1 trivial ?_
  refine AW.seq ?_
  refine kX [.no, .call [] (bV true) [] 0 [] none, .no] (Fun 14 [.agg [.d (D.lit (.int .u64 id)), .d (D.lit (.string (strOfNums nm))), iC d1, iC d2, iC d3, iC d4, iC d5, .d (D.sl (qH bs) n)]] (kG []) 0 (bV true) (kG []) 0) [(1, rV 0 0), (7, bV false)] (by have h0 := (fZ id nm d1 d2 d3 d4 d5 bs n (kS : Byt nm) zo zo zo (kS : BsW bs)); rw [hV] at h0; exact h0) ?_
  refine yW ?_
  refine kK (kU 4 [.call [] (oV 0 0 12 1) [(0, some (5, .ds (dI .u8 (([83, 78, 68, 49] : List Int) ++ (pbL id 8)))))] 1 [none] none, .no, .no, .no]) ((1 ≤ 4) ∧ ([D.lit (.int .u8 83), D.lit (.int .u8 78), D.lit (.int .u8 68), D.lit (.int .u8 49)].length = 4 * 1) ∧ (gT (oV 0 0 12 1) = true) ∧ ((dI .u8 (([83, 78, 68, 49] : List Int) ++ (pbL id 8))).all t6 = true) ∧ (_)) [(1, rV 0 0), (4, rV 3 0)] [(0, some (31, .ds [D.lit (.int .u64 id), D.lit (.string (strOfNums nm)), iD d1, iD d2, iD d3, iD d4, iD d5, D.sl (qH bs) n])), (2, some (5, .ds (dI .u8 (([83, 78, 68, 49] : List Int) ++ (pbL id 8))))), (3, some (47, .cs [.own 2 0 12 1 true]))] 4 ⟨zo, y8, rfl, (by first | exact k6w _ _ | rfl), (W_Put64 ([83, 78, 68, 49] : List Int) 4 id qF zo zo)⟩ ?_
  refine kK [.no, .no, .no, .call [3, 2] (.tup []) [(0, some (47, .cs [.own 2 0 (12 + (1 + (List.length nm))) 1 true])), (1, none), (2, some (5, .ds (dI .u8 ((([83, 78, 68, 49] : List Int) ++ (pbL id 8)) ++ (y3 nm)))))] 3 [] none] _ [(1, rV 0 0), (4, rV 3 0)] [(0, some (31, .ds [D.lit (.int .u64 id), D.lit (.string (strOfNums nm)), iD d1, iD d2, iD d3, iD d4, iD d5, D.sl (qH bs) n])), (3, some (47, .cs [.own 4 0 (12 + (1 + (List.length nm))) 1 true])), (4, some (5, .ds (dI .u8 ((([83, 78, 68, 49] : List Int) ++ (pbL id 8)) ++ (y3 nm)))))] 5 (u2k (([83, 78, 68, 49] : List Int) ++ (pbL id 8)) nm 12 qF zo (kS : Byt nm) zo) ?_
  refine kK [.no, .no, .no, .call [3, 4] (.tup []) [(0, some (47, .cs [.own 2 0 ((12 + (1 + (List.length nm))) + 2) 1 true])), (1, none), (2, some (5, .ds (dI .u8 (((([83, 78, 68, 49] : List Int) ++ (pbL id 8)) ++ (y3 nm)) ++ (pbL d1 2)))))] 3 [] none] _ [(1, rV 0 0), (4, rV 3 0)] [(0, some (31, .ds [D.lit (.int .u64 id), D.lit (.string (strOfNums nm)), iD d1, iD d2, iD d3, iD d4, iD d5, D.sl (qH bs) n])), (3, some (47, .cs [.own 5 0 ((12 + (1 + (List.length nm))) + 2) 1 true])), (5, some (5, .ds (dI .u8 (((([83, 78, 68, 49] : List Int) ++ (pbL id 8)) ++ (y3 nm)) ++ (pbL d1 2)))))] 6 (aH ((([83, 78, 68, 49] : List Int) ++ (pbL id 8)) ++ (y3 nm)) (12 + (1 + (List.length nm))) d1 qF zo zo) ?_
  refine kK [.no, .no, .no, .call [3, 5] (.tup []) [(0, some (47, .cs [.own 2 0 (((12 + (1 + (List.length nm))) + 2) + 2) 1 true])), (1, none), (2, some (5, .ds (dI .u8 ((((([83, 78, 68, 49] : List Int) ++ (pbL id 8)) ++ (y3 nm)) ++ (pbL d1 2)) ++ (pbL d2 2)))))] 3 [] none] _ [(1, rV 0 0), (4, rV 3 0)] [(0, some (31, .ds [D.lit (.int .u64 id), D.lit (.string (strOfNums nm)), iD d1, iD d2, iD d3, iD d4, iD d5, D.sl (qH bs) n])), (3, some (47, .cs [.own 6 0 (((12 + (1 + (List.length nm))) + 2) + 2) 1 true])), (6, some (5, .ds (dI .u8 ((((([83, 78, 68, 49] : List Int) ++ (pbL id 8)) ++ (y3 nm)) ++ (pbL d1 2)) ++ (pbL d2 2)))))] 7 (aH (((([83, 78, 68, 49] : List Int) ++ (pbL id 8)) ++ (y3 nm)) ++ (pbL d1 2)) ((12 + (1 + (List.length nm))) + 2) d2 qF zo zo) ?_
  refine kK [.no, .no, .no, .call [3, 6] (.tup []) [(0, some (47, .cs [.own 2 0 ((((12 + (1 + (List.length nm))) + 2) + 2) + 4) 1 true])), (1, none), (2, some (5, .ds (dI .u8 (((((([83, 78, 68, 49] : List Int) ++ (pbL id 8)) ++ (y3 nm)) ++ (pbL d1 2)) ++ (pbL d2 2)) ++ (pbL d3 4)))))] 3 [] none] _ [(1, rV 0 0), (4, rV 3 0)] [(0, some (31, .ds [D.lit (.int .u64 id), D.lit (.string (strOfNums nm)), iD d1, iD d2, iD d3, iD d4, iD d5, D.sl (qH bs) n])), (3, some (47, .cs [.own 7 0 ((((12 + (1 + (List.length nm))) + 2) + 2) + 4) 1 true])), (7, some (5, .ds (dI .u8 (((((([83, 78, 68, 49] : List Int) ++ (pbL id 8)) ++ (y3 nm)) ++ (pbL d1 2)) ++ (pbL d2 2)) ++ (pbL d3 4)))))] 8 (s5 ((((([83, 78, 68, 49] : List Int) ++ (pbL id 8)) ++ (y3 nm)) ++ (pbL d1 2)) ++ (pbL d2 2)) (((12 + (1 + (List.length nm))) + 2) + 2) d3 qF zo zo) ?_
  refine kK [.no, .no, .no, .call [3, 7] (.tup []) [(0, some (47, .cs [.own 2 0 (((((12 + (1 + (List.length nm))) + 2) + 2) + 4) + 2) 1 true])), (1, none), (2, some (5, .ds (dI .u8 ((((((([83, 78, 68, 49] : List Int) ++ (pbL id 8)) ++ (y3 nm)) ++ (pbL d1 2)) ++ (pbL d2 2)) ++ (pbL d3 4)) ++ (pbL d4 2)))))] 3 [] none] _ [(1, rV 0 0), (4, rV 3 0)] [(0, some (31, .ds [D.lit (.int .u64 id), D.lit (.string (strOfNums nm)), iD d1, iD d2, iD d3, iD d4, iD d5, D.sl (qH bs) n])), (3, some (47, .cs [.own 8 0 (((((12 + (1 + (List.length nm))) + 2) + 2) + 4) + 2) 1 true])), (8, some (5, .ds (dI .u8 ((((((([83, 78, 68, 49] : List Int) ++ (pbL id 8)) ++ (y3 nm)) ++ (pbL d1 2)) ++ (pbL d2 2)) ++ (pbL d3 4)) ++ (pbL d4 2)))))] 9 (aH (((((([83, 78, 68, 49] : List Int) ++ (pbL id 8)) ++ (y3 nm)) ++ (pbL d1 2)) ++ (pbL d2 2)) ++ (pbL d3 4)) ((((12 + (1 + (List.length nm))) + 2) + 2) + 4) d4 qF zo zo) ?_
  refine kK [.no, .no, .no, .call [3, 8] (.tup []) [(0, some (47, .cs [.own 2 0 ((((((12 + (1 + (List.length nm))) + 2) + 2) + 4) + 2) + 2) 1 true])), (1, none), (2, some (5, .ds (dI .u8 (((((((([83, 78, 68, 49] : List Int) ++ (pbL id 8)) ++ (y3 nm)) ++ (pbL d1 2)) ++ (pbL d2 2)) ++ (pbL d3 4)) ++ (pbL d4 2)) ++ (pbL d5 2)))))] 3 [] none] _ [(1, rV 0 0), (4, rV 3 0)] [(0, some (31, .ds [D.lit (.int .u64 id), D.lit (.string (strOfNums nm)), iD d1, iD d2, iD d3, iD d4, iD d5, D.sl (qH bs) n])), (3, some (47, .cs [.own 9 0 ((((((12 + (1 + (List.length nm))) + 2) + 2) + 4) + 2) + 2) 1 true])), (9, some (5, .ds (dI .u8 (((((((([83, 78, 68, 49] : List Int) ++ (pbL id 8)) ++ (y3 nm)) ++ (pbL d1 2)) ++ (pbL d2 2)) ++ (pbL d3 4)) ++ (pbL d4 2)) ++ (pbL d5 2)))))] 10 (aH ((((((([83, 78, 68, 49] : List Int) ++ (pbL id 8)) ++ (y3 nm)) ++ (pbL d1 2)) ++ (pbL d2 2)) ++ (pbL d3 4)) ++ (pbL d4 2)) (((((12 + (1 + (List.length nm))) + 2) + 2) + 4) + 2) d5 qF zo zo) ?_
  refine kK [.no, .no, .no, .call [3, 9] (.tup []) [(0, some (47, .cs [.own 2 0 (((((((12 + (1 + (List.length nm))) + 2) + 2) + 4) + 2) + 2) + (List.length (vA bs))) 1 true])), (1, none), (2, some (5, .ds (dI .u8 ((((((((([83, 78, 68, 49] : List Int) ++ (pbL id 8)) ++ (y3 nm)) ++ (pbL d1 2)) ++ (pbL d2 2)) ++ (pbL d3 4)) ++ (pbL d4 2)) ++ (pbL d5 2)) ++ (vA bs)))))] 3 [] none] _ [(4, rV 3 0)] [(3, some (47, .cs [.own 10 0 (((((((12 + (1 + (List.length nm))) + 2) + 2) + 4) + 2) + 2) + (List.length (vA bs))) 1 true])), (10, some (5, .ds (dI .u8 ((((((((([83, 78, 68, 49] : List Int) ++ (pbL id 8)) ++ (y3 nm)) ++ (pbL d1 2)) ++ (pbL d2 2)) ++ (pbL d3 4)) ++ (pbL d4 2)) ++ (pbL d5 2)) ++ (vA bs)))))] 11 (k3j (((((((([83, 78, 68, 49] : List Int) ++ (pbL id 8)) ++ (y3 nm)) ++ (pbL d1 2)) ++ (pbL d2 2)) ++ (pbL d3 4)) ++ (pbL d4 2)) ++ (pbL d5 2)) ((((((12 + (1 + (List.length nm))) + 2) + 2) + 4) + 2) + 2) bs n qF zo zo qF (kS : BsW bs) qF) ?_
  refine AW.freeze 10 (l' := [(4, rV 3 0)]) (g' := [(3, some (47, .ds [db ((((((((([83, 78, 68, 49] : List Int) ++ (pbL id 8)) ++ (y3 nm)) ++ (pbL d1 2)) ++ (pbL d2 2)) ++ (pbL d3 4)) ++ (pbL d4 2)) ++ (pbL d5 2)) ++ (vA bs)) (((((((12 + (1 + (List.length nm))) + 2) + 2) + 4) + 2) + 2) + (List.length (vA bs)))]))]) rfl (FzS.cons rfl (.same _) FzS.nil) (FzG.to (bc := .cs [.own 10 0 (((((((12 + (1 + (List.length nm))) + 2) + 2) + 4) + 2) + 2) + (List.length (vA bs))) 1 true]) rfl (by rfl) (FzL.cons (@FzC.own 10 ((dI .u8 ((((((((([83, 78, 68, 49] : List Int) ++ (pbL id 8)) ++ (y3 nm)) ++ (pbL d1 2)) ++ (pbL d2 2)) ++ (pbL d3 4)) ++ (pbL d4 2)) ++ (pbL d5 2)) ++ (vA bs))) : List D) 0 (((((((12 + (1 + (List.length nm))) + 2) + 2) + 4) + 2) + 2) + (List.length (vA bs))) 1 true ((dI .u8 ((((((((([83, 78, 68, 49] : List Int) ++ (pbL id 8)) ++ (y3 nm)) ++ (pbL d1 2)) ++ (pbL d2 2)) ++ (pbL d3 4)) ++ (pbL d4 2)) ++ (pbL d5 2)) ++ (vA bs))) : List D) (by rw [List.drop_zero, Nat.mul_one, List.take_of_length_le (by first | omega | (simp only [kR, kQ, pbL_len, uB, qQ, qL, List.length_append, List.length_cons, List.length_nil, List.length_take, List.length_drop, List.length_replicate, List.length_set, List.length_map, List.length_reverse, Nat.mul_one] <;> omega))]) y8) FzL.nil) FzG.nil) ?_
  have hx1 : (((0 : Int) ≤ (qG ((((((((([83, 78, 68, 49] : List Int) ++ (pbL id 8)) ++ (y3 nm)) ++ (pbL d1 2)) ++ (pbL d2 2)) ++ (pbL d3 4)) ++ (pbL d4 2)) ++ (pbL d5 2)) ++ (vA bs)))) ∧ ((qG ((((((((([83, 78, 68, 49] : List Int) ++ (pbL id 8)) ++ (y3 nm)) ++ (pbL d1 2)) ++ (pbL d2 2)) ++ (pbL d3 4)) ++ (pbL d4 2)) ++ (pbL d5 2)) ++ (vA bs))) ≤ 4294967295)) := fM _
  refine kK (kU 8 [.call [] (kP (D.lit (.int .u32 (qG ((((((((([83, 78, 68, 49] : List Int) ++ (pbL id 8)) ++ (y3 nm)) ++ (pbL d1 2)) ++ (pbL d2 2)) ++ (pbL d3 4)) ++ (pbL d4 2)) ++ (pbL d5 2)) ++ (vA bs)))))) [] 0 [] none, .call [] (sV .u8 (((((((((([83, 78, 68, 49] : List Int) ++ (pbL id 8)) ++ (y3 nm)) ++ (pbL d1 2)) ++ (pbL d2 2)) ++ (pbL d3 4)) ++ (pbL d4 2)) ++ (pbL d5 2)) ++ (vA bs)) ++ (pbL (qG ((((((((([83, 78, 68, 49] : List Int) ++ (pbL id 8)) ++ (y3 nm)) ++ (pbL d1 2)) ++ (pbL d2 2)) ++ (pbL d3 4)) ++ (pbL d4 2)) ++ (pbL d5 2)) ++ (vA bs))) 4)) ((((((((12 + (1 + (List.length nm))) + 2) + 2) + 4) + 2) + 2) + (List.length (vA bs))) + 4)) [] 1 [] none, .no, .no]) ((_) ∧ (_)) [(2, sV .u8 (((((((((([83, 78, 68, 49] : List Int) ++ (pbL id 8)) ++ (y3 nm)) ++ (pbL d1 2)) ++ (pbL d2 2)) ++ (pbL d3 4)) ++ (pbL d4 2)) ++ (pbL d5 2)) ++ (vA bs)) ++ (pbL (qG ((((((((([83, 78, 68, 49] : List Int) ++ (pbL id 8)) ++ (y3 nm)) ++ (pbL d1 2)) ++ (pbL d2 2)) ++ (pbL d3 4)) ++ (pbL d4 2)) ++ (pbL d5 2)) ++ (vA bs))) 4)) ((((((((12 + (1 + (List.length nm))) + 2) + 2) + 4) + 2) + 2) + (List.length (vA bs))) + 4)), (3, iV 0)] [] 12 ⟨(k3l ((((((((([83, 78, 68, 49] : List Int) ++ (pbL id 8)) ++ (y3 nm)) ++ (pbL d1 2)) ++ (pbL d2 2)) ++ (pbL d3 4)) ++ (pbL d4 2)) ++ (pbL d5 2)) ++ (vA bs)) (((((((12 + (1 + (List.length nm))) + 2) + 2) + 4) + 2) + 2) + (List.length (vA bs))) qF qF (Byt.app (Byt.app (Byt.app (Byt.app (Byt.app (Byt.app (Byt.app (Byt.app (Byt.cons zo (Byt.cons zo (Byt.cons zo (Byt.cons zo Byt.nil)))) (pbL_byt _ _)) (tK (kS : Byt nm) zo)) (pbL_byt _ _)) (pbL_byt _ _)) (pbL_byt _ _)) (pbL_byt _ _)) (pbL_byt _ _)) (tB _))), (W_Put32_z ((((((((([83, 78, 68, 49] : List Int) ++ (pbL id 8)) ++ (y3 nm)) ++ (pbL d1 2)) ++ (pbL d2 2)) ++ (pbL d3 4)) ++ (pbL d4 2)) ++ (pbL d5 2)) ++ (vA bs)) (((((((12 + (1 + (List.length nm))) + 2) + 2) + 4) + 2) + 2) + (List.length (vA bs))) (qG ((((((((([83, 78, 68, 49] : List Int) ++ (pbL id 8)) ++ (y3 nm)) ++ (pbL d1 2)) ++ (pbL d2 2)) ++ (pbL d3 4)) ++ (pbL d4 2)) ++ (pbL d5 2)) ++ (vA bs))) qF qF qF)⟩ ?_
  refine AW.ret ?_
  exact kC (.inr rfl) [] (P := (((dI .u8 ((sY id nm d1 d2 d3 d4 d5 bs) ++ (pbL (qG (sY id nm d1 d2 d3 d4 d5 bs)) 4))) : List D) = (dI .u8 (((((((((([83, 78, 68, 49] : List Int) ++ (pbL id 8)) ++ (y3 nm)) ++ (pbL d1 2)) ++ (pbL d2 2)) ++ (pbL d3 4)) ++ (pbL d4 2)) ++ (pbL d5 2)) ++ (vA bs)) ++ (pbL (qG ((((((((([83, 78, 68, 49] : List Int) ++ (pbL id 8)) ++ (y3 nm)) ++ (pbL d1 2)) ++ (pbL d2 2)) ++ (pbL d3 4)) ++ (pbL d4 2)) ++ (pbL d5 2)) ++ (vA bs))) 4)))) ∧ (((((List.length (vA bs)) + (List.length nm)) + 29) : Nat) = ((((((((12 + (1 + (List.length nm))) + 2) + 2) + 4) + 2) + 2) + (List.length (vA bs))) + 4)) ∧ (kN 0)) zk ⟨(by first | rfl | (unfold sY; rfl)), (by first | omega | rfl), rfl⟩
end Go.Proofs.Ytalbpleglapihaa
