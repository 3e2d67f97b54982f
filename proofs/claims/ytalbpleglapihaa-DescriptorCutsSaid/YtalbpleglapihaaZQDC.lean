/- Merged texts. -/
import Derived.Test.YtalbpleglapihaaZD11P
namespace Go.Proofs.Ytalbpleglapihaa
open Go.ChangeShapes Go.WideShapes Go.ChangeAt Go.RowKit
set_option linter.unusedVariables false
set_option linter.unusedSimpArgs false
/-! chapter 11: a beginning is never a whole -/
def Mo (F G : RS → RS) : Prop := ∀ u, kT (F u) = 0 → kT u = 0 ∧ G u = F u
theorem Mo.comp {F G F' G' : RS → RS} (h : Mo F G) (h2 : Mo F' G') : Mo (fun u => F' (F u)) (fun u => G' (G u)) := fun u hq => by
  have h3 := h2 _ hq
  have h4 := h u h3.1
  exact ⟨h4.1, by show G' (G u) = F' (F u); rw [h4.2, h3.2]⟩
theorem Mo.it {F G : RS → RS} (h : Mo F G) : ∀ n, Mo (mK F n) (mK G n)
  | 0 => fun u hq => ⟨hq, rfl⟩
  | n + 1 => fun u hq => by
    by_cases h0 : kT u = 0
    · rw [o5 h0] at hq ⊢
      rw [o5 h0]
      have h3 := Mo.it h n _ hq
      have h4 := h u h3.1
      exact ⟨h0, by rw [h4.2]; exact h3.2⟩
    · rw [k1c h0] at hq; exact absurd hq h0
theorem bI (s : Nat) (p r : List Int) : Mo (kD s p) (kD s (p ++ r)) := fun u hq => by
  by_cases h : kT u = 0
  · by_cases h1 : kL u + s ≤ p.length
    · refine ⟨h, ?_⟩
      have h2 : u.q = 0 := h
      have h3 : u.a + s ≤ p.length := h1
      unfold kD
      rw [if_pos h2, if_pos h2, if_pos h3, if_pos (by rw [List.length_append]; omega)]
    · have := mO rfl h h1; omega
  · rw [pD h] at hq; exact absurd hq h
theorem k7k {p r : List Int} {u : RS} (h : kT (kD 2 p u) = 0) : kV (p ++ r) u = kV p u := by
  have h0 := (bI 2 p r u h).1
  by_cases h1 : kL u + 2 ≤ p.length
  · have h2 : u.q = 0 := h0
    have h3 : u.a + 2 ≤ p.length := h1
    unfold kV
    rw [if_pos (show u.q = 0 ∧ u.a + 2 ≤ (p ++ r).length from ⟨h2, by rw [List.length_append]; omega⟩), if_pos (show u.q = 0 ∧ u.a + 2 ≤ p.length from ⟨h2, h3⟩)]
    have e0 : List.getD (p ++ r) (u.a + 0) 0 = List.getD p (u.a + 0) 0 := bB (by omega)
    have e1 : List.getD (p ++ r) (u.a + 1) 0 = List.getD p (u.a + 1) 0 := bB (by omega)
    unfold g16; rw [e0, e1]
  · have := mO rfl h0 h1; omega
theorem u0c (p r : List Int) : Mo (qO p) (qO (p ++ r)) := fun u hq => by
  by_cases h : kT u = 0
  · by_cases h1 : eN p (kL u) = 0
    · refine ⟨h, ?_⟩
      have h2 := zU rfl h1
      have h3 : u.q = 0 := h
      have h4 : eN p u.a = 0 := h1
      by_cases h5 : kL u < p.length
      · have e0 : uN (p ++ r) u.a = uN p u.a := by
          have e1 : List.getD (p ++ r) u.a 0 = List.getD p u.a 0 := bB h5
          unfold uN; rw [e1]
        have h7 : uN p u.a ≤ 64 ∧ u.a + 1 + uN p u.a ≤ p.length := h2.2
        have h6 : eN (p ++ r) u.a = 0 := zT rfl (by rw [List.length_append]; have : u.a < p.length := h5; omega) (by rw [e0]; omega) (by rw [e0, List.length_append]; omega)
        unfold qO
        rw [if_pos h3, if_pos h3, if_pos h4, if_pos h6, e0]
      · omega
    · have h2 := gI h h1; omega
  · rw [(zR h).1] at hq; exact absurd hq h
theorem wG {F G : RS → RS} {p r : List Int} (h : Mo F G) : Mo (fun u => mK F (kV p u) (kD 2 p u)) (fun u => mK G (kV (p ++ r) u) (kD 2 (p ++ r) u)) := fun u hq => by
  have h1 := h.it (kV p u) _ hq
  have h2 := bI 2 p r u h1.1
  exact ⟨h2.1, by show mK G (kV (p ++ r) u) (kD 2 (p ++ r) u) = mK F (kV p u) (kD 2 p u); rw [k7k h1.1, h2.2, h1.2]⟩
theorem k6e (p r : List Int) : Mo (uU p) (uU (p ++ r)) := wG ((bI 4 p r).comp (bI 4 p r))
theorem u22 (p r : List Int) : Mo (eG p) (eG (p ++ r)) := wG (bI 2 p r)
theorem u1c (p r : List Int) : Mo (vO p) (vO (p ++ r)) := wG (u22 p r)
theorem u23 (p r : List Int) : Mo (j0 p) (j0 (p ++ r)) := wG ((((bI 2 p r).comp (k6e p r)).comp (u1c p r)).comp (k6e p r))
theorem u1z (p r : List Int) : Mo (bK p) (bK (p ++ r)) :=
  (((((((bI 8 p r).comp (u0c p r)).comp (bI 2 p r)).comp (bI 2 p r)).comp (bI 4 p r)).comp (bI 2 p r)).comp (bI 2 p r)).comp (u23 p r)
theorem DeB.len {B : List Int} (h : DeB B) : 26 ≤ B.length ∧ B.length ≤ 20000 := by
  obtain ⟨id, nm, d1, d2, d3, d4, d5, bs, n, hD, rfl⟩ := h
  have h1 := hD.l; have h2 := hD.r.2
  rw [nB]; omega
theorem DeB.rd {B : List Int} (h : DeB B) (r : List Int) : bK (B ++ r) kZ = ⟨B.length, 0⟩ := by
  obtain ⟨id, nm, d1, d2, d3, d4, d5, bs, n, hD, rfl⟩ := h
  exact (tY hD r rfl).1
theorem DeB.val {B : List Int} (h : DeB B) : deV B = true := by
  obtain ⟨id, nm, d1, d2, d3, d4, d5, bs, n, hD, rfl⟩ := h
  have h1 := tY (l := s6 id nm d1 d2 d3 d4 d5 bs) hD [] (List.append_nil _).symm
  unfold deV
  rw [h1.2.2.1, h1.2.2.2.1, h1.2.2.2.2.1, h1.2.2.2.2.2.1, h1.2.2.2.2.2.2.1, h1.2.2.2.2.2.2.2.1, h1.2.2.2.2.2.2.2.2]
  exact hD.vd
theorem DeB.cut {B : List Int} (h : DeB B) {k : Nat} (hk : k < B.length) : ¬ (kT (bK (List.take k B) kZ) = 0 ∧ kL (bK (List.take k B) kZ) = k) := fun ⟨h1, h2⟩ => by
  have h3 := (u1z (List.take k B) (List.drop k B) kZ h1).2
  rw [List.take_append_drop] at h3
  have h4 := h.rd []
  rw [List.append_nil] at h4
  rw [← h3, h4] at h2
  have h5 : B.length = k := h2
  omega
theorem DeB.more {B r : List Int} (h : DeB B) (hr : 1 ≤ r.length) : ¬ (kT (bK (B ++ r) kZ) = 0 ∧ kL (bK (B ++ r) kZ) = (B ++ r).length) := fun ⟨_, h2⟩ => by
  rw [h.rd r] at h2
  have h5 : B.length = (B ++ r).length := h2
  rw [List.length_append] at h5; omega
theorem u1y {x : List Int} {m : Nat} (hm : x.length = m) (h : ¬ (kT (bK (List.take (m - 4) x) kZ) = 0 ∧ kL (bK (List.take (m - 4) x) kZ) = m - 4)) : ¬ u5 x = 0 := by
  by_cases h1 : m < 8
  · rw [k5p hm h1]; decide
  · by_cases h2 : g32 x (m - 4) = qG (List.take (m - 4) x)
    · by_cases h3 : List.take 4 x = [83, 78, 68, 49]
      · rw [k98 hm h1 h2 h3 h]; decide
      · rw [u20 hm h1 h2 h3]; decide
    · rw [k99 hm h1 h2]; decide
theorem u21 {x : List Int} {m : Nat} (hm : x.length = m) (h : m < 8) : ¬ u5 x = 0 := by rw [k5p hm h]; decide
theorem u27 {B : List Int} {z k : Nat} (h : DeB B) (hz : B.length = z) (hk : k < z + 4) : ¬ u5 (List.take k (B ++ pbL (qG B) 4)) = 0 := by
  have hl : List.length (List.take k (B ++ pbL (qG B) 4)) = k := by rw [List.length_take, List.length_append, pbL_len]; omega
  by_cases h8 : k < 8
  · exact u21 hl h8
  · refine u1y hl ?_
    rw [List.take_take, show min (k - 4) k = k - 4 by omega, List.take_append_of_le_length (by omega)]
    exact h.cut (by omega)
theorem u26 {B : List Int} {z k : Nat} (h : DeB B) (hz : B.length = z) (hk : k < z + 4) (hn : ¬ k = z) (s : Int) : ¬ u5 (List.take k (B ++ pbL (qG B) 4) ++ pbL s 4) = 0 := by
  have hl : List.length (List.take k (B ++ pbL (qG B) 4)) = k := by rw [List.length_take, List.length_append, pbL_len]; omega
  have hl2 : List.length (List.take k (B ++ pbL (qG B) 4) ++ pbL s 4) = k + 4 := by rw [List.length_append, hl, pbL_len]
  refine u1y hl2 ?_
  rw [show k + 4 - 4 = k by omega, List.take_append_of_le_length (by omega), List.take_of_length_le (by omega)]
  by_cases h1 : k < z
  · rw [List.take_append_of_le_length (by omega)]
    exact h.cut (by omega)
  · rw [List.take_append, List.take_of_length_le (by omega)]
    have h2 := h.more (r := List.take (k - B.length) (pbL (qG B) 4)) (by rw [List.length_take, pbL_len]; omega)
    rw [List.length_append, List.length_take, pbL_len, show B.length + min (k - B.length) 4 = k by omega] at h2
    exact h2
theorem u1x {x : List Int} (h : ¬ u5 x = 0) : List.length (cT x) = 0 ∧ List.length (vM x) = 0 := by
  have h1 := s5 h
  rw [h1.2.1, h1.2.2.2.2.2.2.2]; exact ⟨rfl, rfl⟩
theorem u25 {B : List Int} {z k : Nat} (h : DeB B) (hz : B.length = z) (hk : k < z + 4) (s : Int) : k = z ∨ (¬ u5 (List.take k (B ++ pbL (qG B) 4) ++ pbL s 4) = 0 ∧ (List.length (cT (List.take k (B ++ pbL (qG B) 4) ++ pbL s 4)) = 0 ∧ List.length (vM (List.take k (B ++ pbL (qG B) 4) ++ pbL s 4)) = 0)) := by
  by_cases e : k = z
  · exact .inl e
  · have h1 := u26 h hz hk e s
    exact .inr ⟨h1, u1x h1⟩
end Go.Proofs.Ytalbpleglapihaa
namespace Go.Proofs.Ytalbpleglapihaa
open Go.ChangeShapes Go.WideShapes Go.ChangeAt Go.RowKit
set_option linter.unusedVariables false
set_option linter.unusedSimpArgs false
set_option maxHeartbeats 4000000
set_option maxRecDepth 100000
abbrev qJ (k : Nat) (B10 : List Int) := pbL (qG (List.take k (B10 ++ (pbL (qG B10) 4)))) 4
theorem tC {p : Prop} (h : p := by first | omega | with_reducible assumption | (simp only [kR, kQ, pbL_len, uB, qR, List.length_append, List.length_cons, List.length_nil, List.length_take, List.length_drop, List.length_replicate, List.length_set] <;> omega) | rfl | assumption) : p := h
theorem u2m (sd : List Int) (m : Nat) (x : Int) (hm : List.length sd = m) (hb : m ≤ 9223372036854775807) (hy : Byt sd) (hx : 0 ≤ x ∧ x ≤ 65535) : Fun 3 [.c (.d (D.sl (dI .u8 sd) m)), .c (.d (D.lit (.int .u16 x)))] (kG []) 0 (bV true) (kG []) 0 := by
  refine Fun.mk (n := 69) Try.func3 rfl rfl (Nat.le_of_ble_eq_true rfl) ?_
  intro cx hcx
  refine kK [.no] True [(0, sV .u8 sd m), (1, kP (D.lit (.int .u16 x)))] [] 0 trivial ?_
  refine AW.seq ?_
  refine kX [.call [] (bV true) [] 0 [] none, .no] _ [(0, sV .u8 sd m), (1, kP (D.lit (.int .u16 x))), (13, bV false)] (k9h) ?_
  refine yY ?_
  obtain ⟨id1, nm2, d13, d24, d35, d46, d57, bs8, n9, hx1, hF9⟩ := (k9f sd m zo zo (kS : Byt sd))
  obtain ⟨B10, z11, hx2, hx3, hx4, hx5, hx6, hF11⟩ := (rA id1 nm2 d13 d24 d35 d46 d57 bs8 n9 tC)
  refine kK (.no :: .call [] (.e (.agg [.d (D.lit (.int .u64 id1)), .d (D.lit (.string (strOfNums nm2))), iC d13, iC d24, iC d35, iC d46, iC d57, .d (D.sl (qH bs8) n9)])) [] 0 [] none :: .call [] (.tup [.c (.d (db (B10 ++ (pbL (qG B10) 4)) (z11 + 4))), iE 0]) [] 0 [] none :: kU 5 []) ((_) ∧ (_)) [(1, kP (D.lit (.int .u16 x))), (5, sV .u8 (B10 ++ (pbL (qG B10) 4)) (z11 + 4)), (6, iV 0)] [] 0 ⟨hF9, hF11⟩ ?_
  refine AW.seq ?_
  refine kX [.no, .b false, .no, .no, .no, .b false, .no] ((¬ ((0 : Int) ≠ 0)) ∧ (¬ ((((z11 + 4) : Nat) : Int) = 0))) [(1, kP (D.lit (.int .u16 x))), (5, sV .u8 (B10 ++ (pbL (qG B10) 4)) (z11 + 4)), (26, bV false)] ⟨zo, zo⟩ ?_
  refine yY ?_
  have hx7 : 0 ≤ (x % (((z11 + 4) : Nat) : Int)) ∧ (x % (((z11 + 4) : Nat) : Int)) < (((z11 + 4) : Nat) : Int) := ⟨Int.emod_nonneg _ zo, Int.emod_lt_of_pos _ zo⟩
  refine kX [.no, .no, .w, .no, .no, .ps, .sls 0 (Int.toNat (x % (((z11 + 4) : Nat) : Int))) (Int.toNat (x % (((z11 + 4) : Nat) : Int))) (dI .u8 (List.take (Int.toNat (x % (((z11 + 4) : Nat) : Int))) (B10 ++ (pbL (qG B10) 4)))), .no] ((qM x) ∧ ((0 : Int) ≤ (x : Int)) ∧ ((0 : Int) < ((((z11 + 4) : Nat) : Int) : Int)) ∧ (kM 0) ∧ (((x % (((z11 + 4) : Nat) : Int)) : Int) = (((Int.toNat (x % (((z11 + 4) : Nat) : Int))) : Nat) : Int)) ∧ ((0 : Nat) ≤ (Int.toNat (x % (((z11 + 4) : Nat) : Int)))) ∧ ((Int.toNat (x % (((z11 + 4) : Nat) : Int))) ≤ (z11 + 4)) ∧ ((Int.toNat (x % (((z11 + 4) : Nat) : Int))) - 0 = (Int.toNat (x % (((z11 + 4) : Nat) : Int)))) ∧ (List.take ((Int.toNat (x % (((z11 + 4) : Nat) : Int))) * 1) (List.drop (0 * 1) (dI .u8 (B10 ++ (pbL (qG B10) 4)))) = (dI .u8 (List.take (Int.toNat (x % (((z11 + 4) : Nat) : Int))) (B10 ++ (pbL (qG B10) 4)))))) [(5, sV .u8 (B10 ++ (pbL (qG B10) 4)) (z11 + 4)), (7, sV .u8 (List.take (Int.toNat (x % (((z11 + 4) : Nat) : Int))) (B10 ++ (pbL (qG B10) 4))) (Int.toNat (x % (((z11 + 4) : Nat) : Int))))] ⟨⟨by omega, by omega⟩, zo, zo, rfl, (by first | rfl | omega), zo, zo, zo, (by first | rfl | with_reducible assumption | exact qK _ _ _ | exact aJ _ _ _ | (simp only [u6, qT, qK, Nat.mul_one, Nat.zero_mul, List.drop_zero, List.nil_append, List.append_nil]; done) | (simp only [u6, qT, qK, Nat.mul_one, Nat.zero_mul, List.drop_zero, List.nil_append, List.append_nil]; rfl) | (rw [List.take_of_length_le (by simp only [kR, kQ, pbL_len, uB, qR, qL, List.length_drop, List.length_replicate, Nat.mul_one] <;> omega)]; first | rfl | (simp only [qT, Nat.mul_one, Nat.zero_mul, List.drop_zero]; done) | (simp only [qT, Nat.mul_one, Nat.zero_mul, List.drop_zero]; rfl)))⟩ ?_
  have hx8 : (Int.toNat (x % (((z11 + 4) : Nat) : Int))) < z11 + 4 := zo
  generalize hgk : (Int.toNat (x % (((z11 + 4) : Nat) : Int))) = k at *
  have hx9 : ¬ u5 (List.take k (B10 ++ (pbL (qG B10) 4))) = 0 := (u27 (by assumption) (by assumption) (by assumption))
  have hx10 : List.length (cT (List.take k (B10 ++ (pbL (qG B10) 4)))) = 0 ∧ List.length (vM (List.take k (B10 ++ (pbL (qG B10) 4)))) = 0 := (u1x (by assumption))
  have hx11 : k = z11 ∨ (¬ u5 ((List.take k (B10 ++ (pbL (qG B10) 4))) ++ (qJ k B10)) = 0 ∧ (List.length (cT ((List.take k (B10 ++ (pbL (qG B10) 4))) ++ (qJ k B10))) = 0 ∧ List.length (vM ((List.take k (B10 ++ (pbL (qG B10) 4))) ++ (qJ k B10))) = 0)) := (u25 (by assumption) (by assumption) (by assumption) _)
  have hx12 : (((0 : Int) ≤ (u5 (List.take k (B10 ++ (pbL (qG B10) 4))))) ∧ ((u5 (List.take k (B10 ++ (pbL (qG B10) 4)))) ≤ 6)) := (fY (List.take k (B10 ++ (pbL (qG B10) 4))))
  have hx13 : ((List.length (vM (List.take k (B10 ++ (pbL (qG B10) 4))))) ≤ 65535) := (fX ((Byt.take (Byt.app (kS : Byt B10) (pbL_byt _ _)) _)))
  have hx14 : (BsW (vM (List.take k (B10 ++ (pbL (qG B10) 4))))) := (wP ((Byt.take (Byt.app (kS : Byt B10) (pbL_byt _ _)) _)))
  have hx15 : ((List.length (cT (List.take k (B10 ++ (pbL (qG B10) 4))))) ≤ 64) := (fW (List.take k (B10 ++ (pbL (qG B10) 4))))
  refine kK (.no :: .call [] (.tup [.agg [.d (D.lit (.int .u64 (nR (List.take k (B10 ++ (pbL (qG B10) 4)))))), .d (D.lit (.string (strOfNums (cT (List.take k (B10 ++ (pbL (qG B10) 4))))))), iC (nX (List.take k (B10 ++ (pbL (qG B10) 4)))), iC (nW (List.take k (B10 ++ (pbL (qG B10) 4)))), iC (nU (List.take k (B10 ++ (pbL (qG B10) 4)))), iC (nT (List.take k (B10 ++ (pbL (qG B10) 4)))), iC (nS (List.take k (B10 ++ (pbL (qG B10) 4)))), .d (D.sl (qH (vM (List.take k (B10 ++ (pbL (qG B10) 4))))) (List.length (vM (List.take k (B10 ++ (pbL (qG B10) 4))))))], iE (u5 (List.take k (B10 ++ (pbL (qG B10) 4))))]) [] 0 [] none :: kU 6 []) _ [(5, sV .u8 (B10 ++ (pbL (qG B10) 4)) (z11 + 4)), (7, sV .u8 (List.take k (B10 ++ (pbL (qG B10) 4))) k), (8, rV 0 0), (9, iV (u5 (List.take k (B10 ++ (pbL (qG B10) 4)))))] [(0, some (31, .ds [D.lit (.int .u64 (nR (List.take k (B10 ++ (pbL (qG B10) 4))))), D.lit (.string (strOfNums (cT (List.take k (B10 ++ (pbL (qG B10) 4)))))), iD (nX (List.take k (B10 ++ (pbL (qG B10) 4)))), iD (nW (List.take k (B10 ++ (pbL (qG B10) 4)))), iD (nU (List.take k (B10 ++ (pbL (qG B10) 4)))), iD (nT (List.take k (B10 ++ (pbL (qG B10) 4)))), iD (nS (List.take k (B10 ++ (pbL (qG B10) 4)))), D.sl (qH (vM (List.take k (B10 ++ (pbL (qG B10) 4))))) (List.length (vM (List.take k (B10 ++ (pbL (qG B10) 4)))))]))] 1 (eD (List.take k (B10 ++ (pbL (qG B10) 4))) k tC zo (Byt.take (Byt.app (kS : Byt B10) (pbL_byt _ _)) _)) ?_
  have hx16 : (Byt ((List.take k (B10 ++ (pbL (qG B10) 4))) ++ (qJ k B10))) := (((Byt.take (Byt.app (kS : Byt B10) (pbL_byt _ _)) _)).app (pbL_byt _ _))
  have hx17 : (((0 : Int) ≤ (u5 ((List.take k (B10 ++ (pbL (qG B10) 4))) ++ (qJ k B10)))) ∧ ((u5 ((List.take k (B10 ++ (pbL (qG B10) 4))) ++ (qJ k B10))) ≤ 6)) := (fY ((List.take k (B10 ++ (pbL (qG B10) 4))) ++ (qJ k B10)))
  have hx18 : ((List.length (vM ((List.take k (B10 ++ (pbL (qG B10) 4))) ++ (qJ k B10)))) ≤ 65535) := (fX (kS : Byt ((List.take k (B10 ++ (pbL (qG B10) 4))) ++ (qJ k B10))))
  have hx19 : (BsW (vM ((List.take k (B10 ++ (pbL (qG B10) 4))) ++ (qJ k B10)))) := (wP (kS : Byt ((List.take k (B10 ++ (pbL (qG B10) 4))) ++ (qJ k B10))))
  have hx20 : ((List.length (cT ((List.take k (B10 ++ (pbL (qG B10) 4))) ++ (qJ k B10)))) ≤ 64) := (fW ((List.take k (B10 ++ (pbL (qG B10) 4))) ++ (qJ k B10)))
  refine kK (.no :: .call [] (sV .u8 ((List.take k (B10 ++ (pbL (qG B10) 4))) ++ (qJ k B10)) (k + 4)) [] 0 [] none :: .call [] (.tup [.agg [.d (D.lit (.int .u64 (nR ((List.take k (B10 ++ (pbL (qG B10) 4))) ++ (qJ k B10))))), .d (D.lit (.string (strOfNums (cT ((List.take k (B10 ++ (pbL (qG B10) 4))) ++ (qJ k B10)))))), iC (nX ((List.take k (B10 ++ (pbL (qG B10) 4))) ++ (qJ k B10))), iC (nW ((List.take k (B10 ++ (pbL (qG B10) 4))) ++ (qJ k B10))), iC (nU ((List.take k (B10 ++ (pbL (qG B10) 4))) ++ (qJ k B10))), iC (nT ((List.take k (B10 ++ (pbL (qG B10) 4))) ++ (qJ k B10))), iC (nS ((List.take k (B10 ++ (pbL (qG B10) 4))) ++ (qJ k B10))), .d (D.sl (qH (vM ((List.take k (B10 ++ (pbL (qG B10) 4))) ++ (qJ k B10)))) (List.length (vM ((List.take k (B10 ++ (pbL (qG B10) 4))) ++ (qJ k B10)))))], iE (u5 ((List.take k (B10 ++ (pbL (qG B10) 4))) ++ (qJ k B10)))]) [] 0 [] none :: kU 6 []) ((_) ∧ (_)) [(5, sV .u8 (B10 ++ (pbL (qG B10) 4)) (z11 + 4)), (7, sV .u8 (List.take k (B10 ++ (pbL (qG B10) 4))) k), (8, rV 0 0), (9, iV (u5 (List.take k (B10 ++ (pbL (qG B10) 4))))), (10, rV 1 0), (11, iV (u5 ((List.take k (B10 ++ (pbL (qG B10) 4))) ++ (qJ k B10))))] [(0, some (31, .ds [D.lit (.int .u64 (nR (List.take k (B10 ++ (pbL (qG B10) 4))))), D.lit (.string (strOfNums (cT (List.take k (B10 ++ (pbL (qG B10) 4)))))), iD (nX (List.take k (B10 ++ (pbL (qG B10) 4)))), iD (nW (List.take k (B10 ++ (pbL (qG B10) 4)))), iD (nU (List.take k (B10 ++ (pbL (qG B10) 4)))), iD (nT (List.take k (B10 ++ (pbL (qG B10) 4)))), iD (nS (List.take k (B10 ++ (pbL (qG B10) 4)))), D.sl (qH (vM (List.take k (B10 ++ (pbL (qG B10) 4))))) (List.length (vM (List.take k (B10 ++ (pbL (qG B10) 4)))))])), (1, some (31, .ds [D.lit (.int .u64 (nR ((List.take k (B10 ++ (pbL (qG B10) 4))) ++ (qJ k B10)))), D.lit (.string (strOfNums (cT ((List.take k (B10 ++ (pbL (qG B10) 4))) ++ (qJ k B10))))), iD (nX ((List.take k (B10 ++ (pbL (qG B10) 4))) ++ (qJ k B10))), iD (nW ((List.take k (B10 ++ (pbL (qG B10) 4))) ++ (qJ k B10))), iD (nU ((List.take k (B10 ++ (pbL (qG B10) 4))) ++ (qJ k B10))), iD (nT ((List.take k (B10 ++ (pbL (qG B10) 4))) ++ (qJ k B10))), iD (nS ((List.take k (B10 ++ (pbL (qG B10) 4))) ++ (qJ k B10))), D.sl (qH (vM ((List.take k (B10 ++ (pbL (qG B10) 4))) ++ (qJ k B10)))) (List.length (vM ((List.take k (B10 ++ (pbL (qG B10) 4))) ++ (qJ k B10))))]))] 2 ⟨(k3r (List.take k (B10 ++ (pbL (qG B10) 4))) k tC zo (Byt.take (Byt.app (kS : Byt B10) (pbL_byt _ _)) _)), (eD ((List.take k (B10 ++ (pbL (qG B10) 4))) ++ (qJ k B10)) (k + 4) tC zo (kS : Byt ((List.take k (B10 ++ (pbL (qG B10) 4))) ++ (qJ k B10))))⟩ ?_
  by_cases hx21 : (((k : Nat) : Int) = ((((z11 + 4) : Nat) : Int) - 4))
  · refine zr (.no :: .b true :: .no :: .no :: .no :: .b true :: kU 6 (.w :: .b true :: kU 4 [])) [4] [] ((((u5 (List.take k (B10 ++ (pbL (qG B10) 4)))) ≠ 0)) ∧ ((ByteArray.toList (strOfNums (cT (List.take k (B10 ++ (pbL (qG B10) 4))))) == ByteArray.toList (ByteArray.mk #[])) = true) ∧ (qM ((((z11 + 4) : Nat) : Int) - 4)) ∧ (((k : Int) = ((((z11 + 4) : Nat) : Int) - 4)))) [(4, bV true)] [] 2 ⟨zo, (tQ zo), ⟨by omega, by omega⟩, zo⟩ ?_
    refine AW.ret ?_
    exact kC (.inr rfl) [] (P := (true = true)) zk rfl
  · refine zr (.no :: .b true :: .no :: .no :: .no :: .b true :: kU 6 (.w :: .b false :: .no :: .no :: .b true :: .no :: .no :: .no :: .b true :: kU 4 [])) [4] [] ((((u5 (List.take k (B10 ++ (pbL (qG B10) 4)))) ≠ 0)) ∧ ((ByteArray.toList (strOfNums (cT (List.take k (B10 ++ (pbL (qG B10) 4))))) == ByteArray.toList (ByteArray.mk #[])) = true) ∧ (qM ((((z11 + 4) : Nat) : Int) - 4)) ∧ (¬ ((k : Int) = ((((z11 + 4) : Nat) : Int) - 4))) ∧ (((u5 ((List.take k (B10 ++ (pbL (qG B10) 4))) ++ (qJ k B10))) ≠ 0)) ∧ ((ByteArray.toList (strOfNums (cT ((List.take k (B10 ++ (pbL (qG B10) 4))) ++ (qJ k B10)))) == ByteArray.toList (ByteArray.mk #[])) = true)) [(4, bV true)] [] 2 ⟨zo, (tQ zo), ⟨by omega, by omega⟩, zo, zo, (tQ zo)⟩ ?_
    refine AW.ret ?_
    exact kC (.inr rfl) [] (P := (true = true)) zk rfl
theorem Sl.max {k : IntKind} {w : World} {a : Option Addr} {len cap : Nat} {l : List Int} (h : Sl k w a len cap l) : List.length l ≤ 9223372036854775807 := by
  obtain ⟨h1, h2, h3, _⟩ := h
  unfold maxLen at h3
  omega
theorem s8 {w : World} {x : Int} {xa0 : Option Addr} {xl0 xc0 : Nat} {sd : List Int} (hs0 : Sl .u8 w xa0 xl0 xc0 sd) (hi_x : 0 ≤ x ∧ x ≤ 65535) : Calls Try.prog 3 #[.slice xa0 xl0 xc0, .int .u16 x] w fun e w' => e = .returned (.bool true) ∧ Below w.heap.size w w' :=
  (u2m sd (List.length sd) x rfl hs0.max (k9p fun x hx => bounds_u8 (hs0.wf x hx)) hi_x).walk ⟨k48 hs0, k01 rfl, trivial⟩
end Go.Proofs.Ytalbpleglapihaa
