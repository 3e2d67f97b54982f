/- Merged texts. -/
import Derived.Test.YtalbpleglapihaaZD11P
namespace Go.Proofs.Ytalbpleglapihaa
open Go.ChangeShapes Go.WideShapes Go.ChangeAt Go.RowKit
set_option linter.unusedVariables false
set_option linter.unusedSimpArgs false
/-! chapter 11: a beginning is never a whole -/
def Mo (F G : RS → RS) : Prop := ∀ u, kT (F u) = 0 → kT u = 0 ∧ G u = F u
theorem Mo.comp {F G F' G' : RS → RS} (h : Mo F G) (h2 : Mo F' G') : Mo (fun u => F' (F u)) (fun u => G' (G u)) := fun u hq => by
  have h3 := h2 _ hq
  have h4 := h u h3.1
  exact ⟨h4.1, by show G' (G u) = F' (F u); rw [h4.2, h3.2]⟩
theorem Mo.it {F G : RS → RS} (h : Mo F G) : ∀ n, Mo (mF F n) (mF G n)
  | 0 => fun u hq => ⟨hq, rfl⟩
  | n + 1 => fun u hq => by
    by_cases h0 : kT u = 0
    · rw [o1 h0] at hq ⊢
      rw [o1 h0]
      have h3 := Mo.it h n _ hq
      have h4 := h u h3.1
      exact ⟨h0, by rw [h4.2]; exact h3.2⟩
    · rw [k16 h0] at hq; exact absurd hq h0
theorem bG (s : Nat) (p r : List Int) : Mo (kD s p) (kD s (p ++ r)) := fun u hq => by
  by_cases h : kT u = 0
  · by_cases h1 : kL u + s ≤ p.length
    · refine ⟨h, ?_⟩
      have h2 : u.q = 0 := h
      have h3 : u.a + s ≤ p.length := h1
      unfold kD
      rw [if_pos h2, if_pos h2, if_pos h3, if_pos (by rw [List.length_append]; omega)]
    · have := mJ rfl h h1; omega
  · rw [o9 h] at hq; exact absurd hq h
theorem k7f {p r : List Int} {u : RS} (h : kT (kD 2 p u) = 0) : kV (p ++ r) u = kV p u := by
  have h0 := (bG 2 p r u h).1
  by_cases h1 : kL u + 2 ≤ p.length
  · have h2 : u.q = 0 := h0
    have h3 : u.a + 2 ≤ p.length := h1
    unfold kV
    rw [if_pos (show u.q = 0 ∧ u.a + 2 ≤ (p ++ r).length from ⟨h2, by rw [List.length_append]; omega⟩), if_pos (show u.q = 0 ∧ u.a + 2 ≤ p.length from ⟨h2, h3⟩)]
    have e0 : List.getD (p ++ r) (u.a + 0) 0 = List.getD p (u.a + 0) 0 := a9 (by omega)
    have e1 : List.getD (p ++ r) (u.a + 1) 0 = List.getD p (u.a + 1) 0 := a9 (by omega)
    unfold g16; rw [e0, e1]
  · have := mJ rfl h0 h1; omega
theorem u06 (p r : List Int) : Mo (qO p) (qO (p ++ r)) := fun u hq => by
  by_cases h : kT u = 0
  · by_cases h1 : eI p (kL u) = 0
    · refine ⟨h, ?_⟩
      have h2 := zP rfl h1
      have h3 : u.q = 0 := h
      have h4 : eI p u.a = 0 := h1
      by_cases h5 : kL u < p.length
      · have e0 : uN (p ++ r) u.a = uN p u.a := by
          have e1 : List.getD (p ++ r) u.a 0 = List.getD p u.a 0 := a9 h5
          unfold uN; rw [e1]
        have h7 : uN p u.a ≤ 64 ∧ u.a + 1 + uN p u.a ≤ p.length := h2.2
        have h6 : eI (p ++ r) u.a = 0 := zO rfl (by rw [List.length_append]; have : u.a < p.length := h5; omega) (by rw [e0]; omega) (by rw [e0, List.length_append]; omega)
        unfold qO
        rw [if_pos h3, if_pos h3, if_pos h4, if_pos h6, e0]
      · omega
    · have h2 := gE h h1; omega
  · rw [(zM h).1] at hq; exact absurd hq h
theorem wC {F G : RS → RS} {p r : List Int} (h : Mo F G) : Mo (fun u => mF F (kV p u) (kD 2 p u)) (fun u => mF G (kV (p ++ r) u) (kD 2 (p ++ r) u)) := fun u hq => by
  have h1 := h.it (kV p u) _ hq
  have h2 := bG 2 p r u h1.1
  exact ⟨h2.1, by show mF G (kV (p ++ r) u) (kD 2 (p ++ r) u) = mF F (kV p u) (kD 2 p u); rw [k7f h1.1, h2.2, h1.2]⟩
theorem k68 (p r : List Int) : Mo (uU p) (uU (p ++ r)) := wC ((bG 4 p r).comp (bG 4 p r))
theorem u1x (p r : List Int) : Mo (eB p) (eB (p ++ r)) := wC (bG 2 p r)
theorem u15 (p r : List Int) : Mo (vN p) (vN (p ++ r)) := wC (u1x p r)
theorem u1y (p r : List Int) : Mo (jW p) (jW (p ++ r)) := wC ((((bG 2 p r).comp (k68 p r)).comp (u15 p r)).comp (k68 p r))
theorem u1u (p r : List Int) : Mo (bI p) (bI (p ++ r)) :=
  (((((((bG 8 p r).comp (u06 p r)).comp (bG 2 p r)).comp (bG 2 p r)).comp (bG 4 p r)).comp (bG 2 p r)).comp (bG 2 p r)).comp (u1y p r)
theorem DeB.len {B : List Int} (h : DeB B) : 26 ≤ B.length ∧ B.length ≤ 20000 := by
  obtain ⟨id, nm, d1, d2, d3, d4, d5, bs, n, hD, rfl⟩ := h
  have h1 := hD.l; have h2 := hD.r.2
  rw [m6]; omega
theorem DeB.rd {B : List Int} (h : DeB B) (r : List Int) : bI (B ++ r) kY = ⟨B.length, 0⟩ := by
  obtain ⟨id, nm, d1, d2, d3, d4, d5, bs, n, hD, rfl⟩ := h
  exact (tU hD r rfl).1
theorem DeB.val {B : List Int} (h : DeB B) : deV B = true := by
  obtain ⟨id, nm, d1, d2, d3, d4, d5, bs, n, hD, rfl⟩ := h
  have h1 := tU (l := sY id nm d1 d2 d3 d4 d5 bs) hD [] (List.append_nil _).symm
  unfold deV
  rw [h1.2.2.1, h1.2.2.2.1, h1.2.2.2.2.1, h1.2.2.2.2.2.1, h1.2.2.2.2.2.2.1, h1.2.2.2.2.2.2.2.1, h1.2.2.2.2.2.2.2.2]
  exact hD.vd
theorem DeB.cut {B : List Int} (h : DeB B) {k : Nat} (hk : k < B.length) : ¬ (kT (bI (List.take k B) kY) = 0 ∧ kL (bI (List.take k B) kY) = k) := fun ⟨h1, h2⟩ => by
  have h3 := (u1u (List.take k B) (List.drop k B) kY h1).2
  rw [List.take_append_drop] at h3
  have h4 := h.rd []
  rw [List.append_nil] at h4
  rw [← h3, h4] at h2
  have h5 : B.length = k := h2
  omega
theorem DeB.more {B r : List Int} (h : DeB B) (hr : 1 ≤ r.length) : ¬ (kT (bI (B ++ r) kY) = 0 ∧ kL (bI (B ++ r) kY) = (B ++ r).length) := fun ⟨_, h2⟩ => by
  rw [h.rd r] at h2
  have h5 : B.length = (B ++ r).length := h2
  rw [List.length_append] at h5; omega
theorem u1t {x : List Int} {m : Nat} (hm : x.length = m) (h : ¬ (kT (bI (List.take (m - 4) x) kY) = 0 ∧ kL (bI (List.take (m - 4) x) kY) = m - 4)) : ¬ u4 x = 0 := by
  by_cases h1 : m < 8
  · rw [k5j hm h1]; decide
  · by_cases h2 : g32 x (m - 4) = qG (List.take (m - 4) x)
    · by_cases h3 : List.take 4 x = [83, 78, 68, 49]
      · rw [k92 hm h1 h2 h3 h]; decide
      · rw [u1v hm h1 h2 h3]; decide
    · rw [k93 hm h1 h2]; decide
theorem u1w {x : List Int} {m : Nat} (hm : x.length = m) (h : m < 8) : ¬ u4 x = 0 := by rw [k5j hm h]; decide
theorem u22 {B : List Int} {z k : Nat} (h : DeB B) (hz : B.length = z) (hk : k < z + 4) : ¬ u4 (List.take k (B ++ pbL (qG B) 4)) = 0 := by
  have hl : List.length (List.take k (B ++ pbL (qG B) 4)) = k := by rw [List.length_take, List.length_append, pbL_len]; omega
  by_cases h8 : k < 8
  · exact u1w hl h8
  · refine u1t hl ?_
    rw [List.take_take, show min (k - 4) k = k - 4 by omega, List.take_append_of_le_length (by omega)]
    exact h.cut (by omega)
theorem u21 {B : List Int} {z k : Nat} (h : DeB B) (hz : B.length = z) (hk : k < z + 4) (hn : ¬ k = z) (s : Int) : ¬ u4 (List.take k (B ++ pbL (qG B) 4) ++ pbL s 4) = 0 := by
  have hl : List.length (List.take k (B ++ pbL (qG B) 4)) = k := by rw [List.length_take, List.length_append, pbL_len]; omega
  have hl2 : List.length (List.take k (B ++ pbL (qG B) 4) ++ pbL s 4) = k + 4 := by rw [List.length_append, hl, pbL_len]
  refine u1t hl2 ?_
  rw [show k + 4 - 4 = k by omega, List.take_append_of_le_length (by omega), List.take_of_length_le (by omega)]
  by_cases h1 : k < z
  · rw [List.take_append_of_le_length (by omega)]
    exact h.cut (by omega)
  · rw [List.take_append, List.take_of_length_le (by omega)]
    have h2 := h.more (r := List.take (k - B.length) (pbL (qG B) 4)) (by rw [List.length_take, pbL_len]; omega)
    rw [List.length_append, List.length_take, pbL_len, show B.length + min (k - B.length) 4 = k by omega] at h2
    exact h2
theorem u1s {x : List Int} (h : ¬ u4 x = 0) : List.length (cN x) = 0 ∧ List.length (vL x) = 0 := by
  have h1 := sX h
  rw [h1.2.1, h1.2.2.2.2.2.2.2]; exact ⟨rfl, rfl⟩
theorem u20 {B : List Int} {z k : Nat} (h : DeB B) (hz : B.length = z) (hk : k < z + 4) (s : Int) : k = z ∨ (¬ u4 (List.take k (B ++ pbL (qG B) 4) ++ pbL s 4) = 0 ∧ (List.length (cN (List.take k (B ++ pbL (qG B) 4) ++ pbL s 4)) = 0 ∧ List.length (vL (List.take k (B ++ pbL (qG B) 4) ++ pbL s 4)) = 0)) := by
  by_cases e : k = z
  · exact .inl e
  · have h1 := u21 h hz hk e s
    exact .inr ⟨h1, u1s h1⟩
end Go.Proofs.Ytalbpleglapihaa
namespace Go.Proofs.Ytalbpleglapihaa
open Go.ChangeShapes Go.WideShapes Go.ChangeAt Go.RowKit
set_option linter.unusedVariables false
set_option linter.unusedSimpArgs false
set_option maxHeartbeats 4000000
set_option maxRecDepth 100000
abbrev qJ (k : Nat) (B10 : List Int) := pbL (qG (List.take k (B10 ++ (pbL (qG B10) 4)))) 4
theorem s8 {p : Prop} (h : p := by first | omega | with_reducible assumption | (simp only [kR, kQ, pbL_len, uB, qQ, List.length_append, List.length_cons, List.length_nil, List.length_take, List.length_drop, List.length_replicate, List.length_set] <;> omega) | rfl | assumption) : p := h
theorem u2h (sd : List Int) (m : Nat) (x : Int) (hm : List.length sd = m) (hb : m ≤ 9223372036854775807) (hy : Byt sd) (hx : 0 ≤ x ∧ x ≤ 65535) : Fun 3 [.c (.d (D.sl (dI .u8 sd) m)), .c (.d (D.lit (.int .u16 x)))] (kG []) 0 (bV true) (kG []) 0 := by
  refine Fun.mk (n := 69) Try.func3 rfl rfl (Nat.le_of_ble_eq_true rfl) ?_
  intro cx hcx
  refine kK [.no] True [(0, sV .u8 sd m), (1, kP (D.lit (.int .u16 x)))] [] 0 trivial ?_
  refine AW.seq ?_
  refine kX [.call [] (bV true) [] 0 [] none, .no] _ [(0, sV .u8 sd m), (1, kP (D.lit (.int .u16 x))), (13, bV false)] (k9b) ?_
  refine yW ?_
  obtain ⟨id1, nm2, d13, d24, d35, d46, d57, bs8, n9, hx1, hF9⟩ := (k99 sd m zo zo (kS : Byt sd))
  obtain ⟨B10, z11, hx2, hx3, hx4, hx5, hx6, hF11⟩ := (pX id1 nm2 d13 d24 d35 d46 d57 bs8 n9 s8)
  refine kK (.no :: .call [] (.e (.agg [.d (D.lit (.int .u64 id1)), .d (D.lit (.string (strOfNums nm2))), iC d13, iC d24, iC d35, iC d46, iC d57, .d (D.sl (qH bs8) n9)])) [] 0 [] none :: .call [] (.tup [.c (.d (db (B10 ++ (pbL (qG B10) 4)) (z11 + 4))), iE 0]) [] 0 [] none :: kU 5 []) ((_) ∧ (_)) [(1, kP (D.lit (.int .u16 x))), (5, sV .u8 (B10 ++ (pbL (qG B10) 4)) (z11 + 4)), (6, iV 0)] [] 0 ⟨hF9, hF11⟩ ?_
  refine AW.seq ?_
  refine kX [.no, .b false, .no, .no, .no, .b false, .no] ((¬ ((0 : Int) ≠ 0)) ∧ (¬ ((((z11 + 4) : Nat) : Int) = 0))) [(1, kP (D.lit (.int .u16 x))), (5, sV .u8 (B10 ++ (pbL (qG B10) 4)) (z11 + 4)), (26, bV false)] ⟨zo, zo⟩ ?_
  refine yW ?_
  have hx7 : 0 ≤ (x % (((z11 + 4) : Nat) : Int)) ∧ (x % (((z11 + 4) : Nat) : Int)) < (((z11 + 4) : Nat) : Int) := ⟨Int.emod_nonneg _ zo, Int.emod_lt_of_pos _ zo⟩
  refine kX [.no, .no, .w, .no, .no, .ps, .sls 0 (Int.toNat (x % (((z11 + 4) : Nat) : Int))) (Int.toNat (x % (((z11 + 4) : Nat) : Int))) (dI .u8 (List.take (Int.toNat (x % (((z11 + 4) : Nat) : Int))) (B10 ++ (pbL (qG B10) 4)))), .no] ((qM x) ∧ ((0 : Int) ≤ (x : Int)) ∧ ((0 : Int) < ((((z11 + 4) : Nat) : Int) : Int)) ∧ (kM 0) ∧ (((x % (((z11 + 4) : Nat) : Int)) : Int) = (((Int.toNat (x % (((z11 + 4) : Nat) : Int))) : Nat) : Int)) ∧ ((0 : Nat) ≤ (Int.toNat (x % (((z11 + 4) : Nat) : Int)))) ∧ ((Int.toNat (x % (((z11 + 4) : Nat) : Int))) ≤ (z11 + 4)) ∧ ((Int.toNat (x % (((z11 + 4) : Nat) : Int))) - 0 = (Int.toNat (x % (((z11 + 4) : Nat) : Int)))) ∧ (List.take ((Int.toNat (x % (((z11 + 4) : Nat) : Int))) * 1) (List.drop (0 * 1) (dI .u8 (B10 ++ (pbL (qG B10) 4)))) = (dI .u8 (List.take (Int.toNat (x % (((z11 + 4) : Nat) : Int))) (B10 ++ (pbL (qG B10) 4)))))) [(5, sV .u8 (B10 ++ (pbL (qG B10) 4)) (z11 + 4)), (7, sV .u8 (List.take (Int.toNat (x % (((z11 + 4) : Nat) : Int))) (B10 ++ (pbL (qG B10) 4))) (Int.toNat (x % (((z11 + 4) : Nat) : Int))))] ⟨⟨by omega, by omega⟩, zo, zo, rfl, (by first | rfl | omega), zo, zo, zo, (by first | rfl | with_reducible assumption | exact qK _ _ _ | exact aG _ _ _ | (simp only [u5, qT, qK, Nat.mul_one, Nat.zero_mul, List.drop_zero, List.nil_append, List.append_nil]; done) | (simp only [u5, qT, qK, Nat.mul_one, Nat.zero_mul, List.drop_zero, List.nil_append, List.append_nil]; rfl) | (rw [List.take_of_length_le (by simp only [kR, kQ, pbL_len, uB, qQ, qL, List.length_drop, List.length_replicate, Nat.mul_one] <;> omega)]; first | rfl | (simp only [qT, Nat.mul_one, Nat.zero_mul, List.drop_zero]; done) | (simp only [qT, Nat.mul_one, Nat.zero_mul, List.drop_zero]; rfl)))⟩ ?_
  have hx8 : (Int.toNat (x % (((z11 + 4) : Nat) : Int))) < z11 + 4 := zo
  generalize hgk : (Int.toNat (x % (((z11 + 4) : Nat) : Int))) = k at *
  have hx9 : ¬ u4 (List.take k (B10 ++ (pbL (qG B10) 4))) = 0 := (u22 (by assumption) (by assumption) (by assumption))
  have hx10 : List.length (cN (List.take k (B10 ++ (pbL (qG B10) 4)))) = 0 ∧ List.length (vL (List.take k (B10 ++ (pbL (qG B10) 4)))) = 0 := (u1s (by assumption))
  have hx11 : k = z11 ∨ (¬ u4 ((List.take k (B10 ++ (pbL (qG B10) 4))) ++ (qJ k B10)) = 0 ∧ (List.length (cN ((List.take k (B10 ++ (pbL (qG B10) 4))) ++ (qJ k B10))) = 0 ∧ List.length (vL ((List.take k (B10 ++ (pbL (qG B10) 4))) ++ (qJ k B10))) = 0)) := (u20 (by assumption) (by assumption) (by assumption) _)
  have hx12 : (((0 : Int) ≤ (u4 (List.take k (B10 ++ (pbL (qG B10) 4))))) ∧ ((u4 (List.take k (B10 ++ (pbL (qG B10) 4)))) ≤ 6)) := (fU (List.take k (B10 ++ (pbL (qG B10) 4))))
  have hx13 : ((List.length (vL (List.take k (B10 ++ (pbL (qG B10) 4))))) ≤ 65535) := (fT ((Byt.take (Byt.app (kS : Byt B10) (pbL_byt _ _)) _)))
  have hx14 : (BsW (vL (List.take k (B10 ++ (pbL (qG B10) 4))))) := (wL ((Byt.take (Byt.app (kS : Byt B10) (pbL_byt _ _)) _)))
  have hx15 : ((List.length (cN (List.take k (B10 ++ (pbL (qG B10) 4))))) ≤ 64) := (fS (List.take k (B10 ++ (pbL (qG B10) 4))))
  refine kK (.no :: .call [] (.tup [.agg [.d (D.lit (.int .u64 (nN (List.take k (B10 ++ (pbL (qG B10) 4)))))), .d (D.lit (.string (strOfNums (cN (List.take k (B10 ++ (pbL (qG B10) 4))))))), iC (nS (List.take k (B10 ++ (pbL (qG B10) 4)))), iC (nR (List.take k (B10 ++ (pbL (qG B10) 4)))), iC (nQ (List.take k (B10 ++ (pbL (qG B10) 4)))), iC (nP (List.take k (B10 ++ (pbL (qG B10) 4)))), iC (nO (List.take k (B10 ++ (pbL (qG B10) 4)))), .d (D.sl (qH (vL (List.take k (B10 ++ (pbL (qG B10) 4))))) (List.length (vL (List.take k (B10 ++ (pbL (qG B10) 4))))))], iE (u4 (List.take k (B10 ++ (pbL (qG B10) 4))))]) [] 0 [] none :: kU 6 []) _ [(5, sV .u8 (B10 ++ (pbL (qG B10) 4)) (z11 + 4)), (7, sV .u8 (List.take k (B10 ++ (pbL (qG B10) 4))) k), (8, rV 0 0), (9, iV (u4 (List.take k (B10 ++ (pbL (qG B10) 4)))))] [(0, some (31, .ds [D.lit (.int .u64 (nN (List.take k (B10 ++ (pbL (qG B10) 4))))), D.lit (.string (strOfNums (cN (List.take k (B10 ++ (pbL (qG B10) 4)))))), iD (nS (List.take k (B10 ++ (pbL (qG B10) 4)))), iD (nR (List.take k (B10 ++ (pbL (qG B10) 4)))), iD (nQ (List.take k (B10 ++ (pbL (qG B10) 4)))), iD (nP (List.take k (B10 ++ (pbL (qG B10) 4)))), iD (nO (List.take k (B10 ++ (pbL (qG B10) 4)))), D.sl (qH (vL (List.take k (B10 ++ (pbL (qG B10) 4))))) (List.length (vL (List.take k (B10 ++ (pbL (qG B10) 4)))))]))] 1 (d8 (List.take k (B10 ++ (pbL (qG B10) 4))) k s8 zo (Byt.take (Byt.app (kS : Byt B10) (pbL_byt _ _)) _)) ?_
  have hx16 : (Byt ((List.take k (B10 ++ (pbL (qG B10) 4))) ++ (qJ k B10))) := (((Byt.take (Byt.app (kS : Byt B10) (pbL_byt _ _)) _)).app (pbL_byt _ _))
  have hx17 : (((0 : Int) ≤ (u4 ((List.take k (B10 ++ (pbL (qG B10) 4))) ++ (qJ k B10)))) ∧ ((u4 ((List.take k (B10 ++ (pbL (qG B10) 4))) ++ (qJ k B10))) ≤ 6)) := (fU ((List.take k (B10 ++ (pbL (qG B10) 4))) ++ (qJ k B10)))
  have hx18 : ((List.length (vL ((List.take k (B10 ++ (pbL (qG B10) 4))) ++ (qJ k B10)))) ≤ 65535) := (fT (kS : Byt ((List.take k (B10 ++ (pbL (qG B10) 4))) ++ (qJ k B10))))
  have hx19 : (BsW (vL ((List.take k (B10 ++ (pbL (qG B10) 4))) ++ (qJ k B10)))) := (wL (kS : Byt ((List.take k (B10 ++ (pbL (qG B10) 4))) ++ (qJ k B10))))
  have hx20 : ((List.length (cN ((List.take k (B10 ++ (pbL (qG B10) 4))) ++ (qJ k B10)))) ≤ 64) := (fS ((List.take k (B10 ++ (pbL (qG B10) 4))) ++ (qJ k B10)))
  refine kK (.no :: .call [] (sV .u8 ((List.take k (B10 ++ (pbL (qG B10) 4))) ++ (qJ k B10)) (k + 4)) [] 0 [] none :: .call [] (.tup [.agg [.d (D.lit (.int .u64 (nN ((List.take k (B10 ++ (pbL (qG B10) 4))) ++ (qJ k B10))))), .d (D.lit (.string (strOfNums (cN ((List.take k (B10 ++ (pbL (qG B10) 4))) ++ (qJ k B10)))))), iC (nS ((List.take k (B10 ++ (pbL (qG B10) 4))) ++ (qJ k B10))), iC (nR ((List.take k (B10 ++ (pbL (qG B10) 4))) ++ (qJ k B10))), iC (nQ ((List.take k (B10 ++ (pbL (qG B10) 4))) ++ (qJ k B10))), iC (nP ((List.take k (B10 ++ (pbL (qG B10) 4))) ++ (qJ k B10))), iC (nO ((List.take k (B10 ++ (pbL (qG B10) 4))) ++ (qJ k B10))), .d (D.sl (qH (vL ((List.take k (B10 ++ (pbL (qG B10) 4))) ++ (qJ k B10)))) (List.length (vL ((List.take k (B10 ++ (pbL (qG B10) 4))) ++ (qJ k B10)))))], iE (u4 ((List.take k (B10 ++ (pbL (qG B10) 4))) ++ (qJ k B10)))]) [] 0 [] none :: kU 6 []) ((_) ∧ (_)) [(5, sV .u8 (B10 ++ (pbL (qG B10) 4)) (z11 + 4)), (7, sV .u8 (List.take k (B10 ++ (pbL (qG B10) 4))) k), (8, rV 0 0), (9, iV (u4 (List.take k (B10 ++ (pbL (qG B10) 4))))), (10, rV 1 0), (11, iV (u4 ((List.take k (B10 ++ (pbL (qG B10) 4))) ++ (qJ k B10))))] [(0, some (31, .ds [D.lit (.int .u64 (nN (List.take k (B10 ++ (pbL (qG B10) 4))))), D.lit (.string (strOfNums (cN (List.take k (B10 ++ (pbL (qG B10) 4)))))), iD (nS (List.take k (B10 ++ (pbL (qG B10) 4)))), iD (nR (List.take k (B10 ++ (pbL (qG B10) 4)))), iD (nQ (List.take k (B10 ++ (pbL (qG B10) 4)))), iD (nP (List.take k (B10 ++ (pbL (qG B10) 4)))), iD (nO (List.take k (B10 ++ (pbL (qG B10) 4)))), D.sl (qH (vL (List.take k (B10 ++ (pbL (qG B10) 4))))) (List.length (vL (List.take k (B10 ++ (pbL (qG B10) 4)))))])), (1, some (31, .ds [D.lit (.int .u64 (nN ((List.take k (B10 ++ (pbL (qG B10) 4))) ++ (qJ k B10)))), D.lit (.string (strOfNums (cN ((List.take k (B10 ++ (pbL (qG B10) 4))) ++ (qJ k B10))))), iD (nS ((List.take k (B10 ++ (pbL (qG B10) 4))) ++ (qJ k B10))), iD (nR ((List.take k (B10 ++ (pbL (qG B10) 4))) ++ (qJ k B10))), iD (nQ ((List.take k (B10 ++ (pbL (qG B10) 4))) ++ (qJ k B10))), iD (nP ((List.take k (B10 ++ (pbL (qG B10) 4))) ++ (qJ k B10))), iD (nO ((List.take k (B10 ++ (pbL (qG B10) 4))) ++ (qJ k B10))), D.sl (qH (vL ((List.take k (B10 ++ (pbL (qG B10) 4))) ++ (qJ k B10)))) (List.length (vL ((List.take k (B10 ++ (pbL (qG B10) 4))) ++ (qJ k B10))))]))] 2 ⟨(k3k (List.take k (B10 ++ (pbL (qG B10) 4))) k s8 zo (Byt.take (Byt.app (kS : Byt B10) (pbL_byt _ _)) _)), (d8 ((List.take k (B10 ++ (pbL (qG B10) 4))) ++ (qJ k B10)) (k + 4) s8 zo (kS : Byt ((List.take k (B10 ++ (pbL (qG B10) 4))) ++ (qJ k B10))))⟩ ?_
  by_cases hx21 : (((k : Nat) : Int) = ((((z11 + 4) : Nat) : Int) - 4))
  · refine zr (.no :: .b true :: .no :: .no :: .no :: .b true :: kU 6 (.w :: .b true :: kU 4 [])) [4] [] ((((u4 (List.take k (B10 ++ (pbL (qG B10) 4)))) ≠ 0)) ∧ ((ByteArray.toList (strOfNums (cN (List.take k (B10 ++ (pbL (qG B10) 4))))) == ByteArray.toList (ByteArray.mk #[])) = true) ∧ (qM ((((z11 + 4) : Nat) : Int) - 4)) ∧ (((k : Int) = ((((z11 + 4) : Nat) : Int) - 4)))) [(4, bV true)] [] 2 ⟨zo, (tM zo), ⟨by omega, by omega⟩, zo⟩ ?_
    refine AW.ret ?_
    exact kC (.inr rfl) [] (P := (true = true)) zk rfl
  · refine zr (.no :: .b true :: .no :: .no :: .no :: .b true :: kU 6 (.w :: .b false :: .no :: .no :: .b true :: .no :: .no :: .no :: .b true :: kU 4 [])) [4] [] ((((u4 (List.take k (B10 ++ (pbL (qG B10) 4)))) ≠ 0)) ∧ ((ByteArray.toList (strOfNums (cN (List.take k (B10 ++ (pbL (qG B10) 4))))) == ByteArray.toList (ByteArray.mk #[])) = true) ∧ (qM ((((z11 + 4) : Nat) : Int) - 4)) ∧ (¬ ((k : Int) = ((((z11 + 4) : Nat) : Int) - 4))) ∧ (((u4 ((List.take k (B10 ++ (pbL (qG B10) 4))) ++ (qJ k B10))) ≠ 0)) ∧ ((ByteArray.toList (strOfNums (cN ((List.take k (B10 ++ (pbL (qG B10) 4))) ++ (qJ k B10)))) == ByteArray.toList (ByteArray.mk #[])) = true)) [(4, bV true)] [] 2 ⟨zo, (tM zo), ⟨by omega, by omega⟩, zo, zo, (tM zo)⟩ ?_
    refine AW.ret ?_
    exact kC (.inr rfl) [] (P := (true = true)) zk rfl
theorem Sl.max {k : IntKind} {w : World} {a : Option Addr} {len cap : Nat} {l : List Int} (h : Sl k w a len cap l) : List.length l ≤ 9223372036854775807 := by
  obtain ⟨h1, h2, h3, _⟩ := h
  unfold maxLen at h3
  omega
theorem s0 {w : World} {x : Int} {xa0 : Option Addr} {xl0 xc0 : Nat} {sd : List Int} (hs0 : Sl .u8 w xa0 xl0 xc0 sd) (hi_x : 0 ≤ x ∧ x ≤ 65535) : Calls Try.prog 3 #[.slice xa0 xl0 xc0, .int .u16 x] w fun e w' => e = .returned (.bool true) ∧ Below w.heap.size w w' :=
  (u2h sd (List.length sd) x rfl hs0.max (k9j fun x hx => bounds_u8 (hs0.wf x hx)) hi_x).walk ⟨k41 hs0, z6 rfl, trivial⟩
end Go.Proofs.Ytalbpleglapihaa
