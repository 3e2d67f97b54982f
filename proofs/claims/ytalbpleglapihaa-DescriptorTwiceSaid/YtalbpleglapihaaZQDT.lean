/- Merged texts. -/
import Derived.Test.YtalbpleglapihaaZD11P
namespace Go.Proofs.Ytalbpleglapihaa
open Go.ChangeShapes Go.WideShapes Go.ChangeAt Go.RowKit
set_option linter.unusedVariables false
set_option linter.unusedSimpArgs false
/-! chapter 11: a beginning is never a whole -/
def Mo (F G : RS → RS) : Prop := ∀ u, kT (F u) = 0 → kT u = 0 ∧ G u = F u
theorem Mo.comp {F G F' G' : RS → RS} (h : Mo F G) (h2 : Mo F' G') : Mo (fun u => F' (F u)) (fun u => G' (G u)) := fun u hq => by
  have h3 := h2 _ hq
  have h4 := h u h3.1
  exact ⟨h4.1, by show G' (G u) = F' (F u); rw [h4.2, h3.2]⟩
theorem Mo.it {F G : RS → RS} (h : Mo F G) : ∀ n, Mo (mP F n) (mP G n)
  | 0 => fun u hq => ⟨hq, rfl⟩
  | n + 1 => fun u hq => by
    by_cases h0 : kT u = 0
    · rw [o4 h0] at hq ⊢
      rw [o4 h0]
      have h3 := Mo.it h n _ hq
      have h4 := h u h3.1
      exact ⟨h0, by rw [h4.2]; exact h3.2⟩
    · rw [k1i h0] at hq; exact absurd hq h0
theorem bI (s : Nat) (p r : List Int) : Mo (kD s p) (kD s (p ++ r)) := fun u hq => by
  by_cases h : kT u = 0
  · by_cases h1 : kL u + s ≤ p.length
    · refine ⟨h, ?_⟩
      have h2 : u.q = 0 := h
      have h3 : u.a + s ≤ p.length := h1
      unfold kD
      rw [if_pos h2, if_pos h2, if_pos h3, if_pos (by rw [List.length_append]; omega)]
    · have := mT rfl h h1; omega
  · rw [pC h] at hq; exact absurd hq h
theorem k7o {p r : List Int} {u : RS} (h : kT (kD 2 p u) = 0) : kV (p ++ r) u = kV p u := by
  have h0 := (bI 2 p r u h).1
  by_cases h1 : kL u + 2 ≤ p.length
  · have h2 : u.q = 0 := h0
    have h3 : u.a + 2 ≤ p.length := h1
    unfold kV
    rw [if_pos (show u.q = 0 ∧ u.a + 2 ≤ (p ++ r).length from ⟨h2, by rw [List.length_append]; omega⟩), if_pos (show u.q = 0 ∧ u.a + 2 ≤ p.length from ⟨h2, h3⟩)]
    have e0 : List.getD (p ++ r) (u.a + 0) 0 = List.getD p (u.a + 0) 0 := bB (by omega)
    have e1 : List.getD (p ++ r) (u.a + 1) 0 = List.getD p (u.a + 1) 0 := bB (by omega)
    unfold g16; rw [e0, e1]
  · have := mT rfl h0 h1; omega
theorem u0f (p r : List Int) : Mo (qN p) (qN (p ++ r)) := fun u hq => by
  by_cases h : kT u = 0
  · by_cases h1 : eR p (kL u) = 0
    · refine ⟨h, ?_⟩
      have h2 := z2 rfl h1
      have h3 : u.q = 0 := h
      have h4 : eR p u.a = 0 := h1
      by_cases h5 : kL u < p.length
      · have e0 : uN (p ++ r) u.a = uN p u.a := by
          have e1 : List.getD (p ++ r) u.a 0 = List.getD p u.a 0 := bB h5
          unfold uN; rw [e1]
        have h7 : uN p u.a ≤ 64 ∧ u.a + 1 + uN p u.a ≤ p.length := h2.2
        have h6 : eR (p ++ r) u.a = 0 := zZ rfl (by rw [List.length_append]; have : u.a < p.length := h5; omega) (by rw [e0]; omega) (by rw [e0, List.length_append]; omega)
        unfold qN
        rw [if_pos h3, if_pos h3, if_pos h4, if_pos h6, e0]
      · omega
    · have h2 := gL h h1; omega
  · rw [(zX h).1] at hq; exact absurd hq h
theorem wN {F G : RS → RS} {p r : List Int} (h : Mo F G) : Mo (fun u => mP F (kV p u) (kD 2 p u)) (fun u => mP G (kV (p ++ r) u) (kD 2 (p ++ r) u)) := fun u hq => by
  have h1 := h.it (kV p u) _ hq
  have h2 := bI 2 p r u h1.1
  exact ⟨h2.1, by show mP G (kV (p ++ r) u) (kD 2 (p ++ r) u) = mP F (kV p u) (kD 2 p u); rw [k7o h1.1, h2.2, h1.2]⟩
theorem k6h (p r : List Int) : Mo (uW p) (uW (p ++ r)) := wN ((bI 4 p r).comp (bI 4 p r))
theorem u27 (p r : List Int) : Mo (eK p) (eK (p ++ r)) := wN (bI 2 p r)
theorem u1h (p r : List Int) : Mo (vN p) (vN (p ++ r)) := wN (u27 p r)
theorem u28 (p r : List Int) : Mo (j7 p) (j7 (p ++ r)) := wN ((((bI 2 p r).comp (k6h p r)).comp (u1h p r)).comp (k6h p r))
theorem u24 (p r : List Int) : Mo (bK p) (bK (p ++ r)) :=
  (((((((bI 8 p r).comp (u0f p r)).comp (bI 2 p r)).comp (bI 2 p r)).comp (bI 4 p r)).comp (bI 2 p r)).comp (bI 2 p r)).comp (u28 p r)
theorem DeB.len {B : List Int} (h : DeB B) : 26 ≤ B.length ∧ B.length ≤ 20000 := by
  obtain ⟨id, nm, d1, d2, d3, d4, d5, bs, n, hD, rfl⟩ := h
  have h1 := hD.l; have h2 := hD.r.2
  rw [nG]; omega
theorem DeB.head {B : List Int} (h : DeB B) (r : List Int) : List.take 4 (B ++ r) = [83, 78, 68, 49] := by
  obtain ⟨id, nm, d1, d2, d3, d4, d5, bs, n, hD, rfl⟩ := h
  unfold rP; rfl
theorem DeB.rd {B : List Int} (h : DeB B) (r : List Int) : bK (B ++ r) kZ = ⟨B.length, 0⟩ := by
  obtain ⟨id, nm, d1, d2, d3, d4, d5, bs, n, hD, rfl⟩ := h
  exact (t5 hD r rfl).1
theorem DeB.val {B : List Int} (h : DeB B) : deV B = true := by
  obtain ⟨id, nm, d1, d2, d3, d4, d5, bs, n, hD, rfl⟩ := h
  have h1 := t5 (l := rP id nm d1 d2 d3 d4 d5 bs) hD [] (List.append_nil _).symm
  unfold deV
  rw [h1.2.2.1, h1.2.2.2.1, h1.2.2.2.2.1, h1.2.2.2.2.2.1, h1.2.2.2.2.2.2.1, h1.2.2.2.2.2.2.2.1, h1.2.2.2.2.2.2.2.2]
  exact hD.vd
theorem DeB.cut {B : List Int} (h : DeB B) {k : Nat} (hk : k < B.length) : ¬ (kT (bK (List.take k B) kZ) = 0 ∧ kL (bK (List.take k B) kZ) = k) := fun ⟨h1, h2⟩ => by
  have h3 := (u24 (List.take k B) (List.drop k B) kZ h1).2
  rw [List.take_append_drop] at h3
  have h4 := h.rd []
  rw [List.append_nil] at h4
  rw [← h3, h4] at h2
  have h5 : B.length = k := h2
  omega
theorem DeB.more {B r : List Int} (h : DeB B) (hr : 1 ≤ r.length) : ¬ (kT (bK (B ++ r) kZ) = 0 ∧ kL (bK (B ++ r) kZ) = (B ++ r).length) := fun ⟨_, h2⟩ => by
  rw [h.rd r] at h2
  have h5 : B.length = (B ++ r).length := h2
  rw [List.length_append] at h5; omega
end Go.Proofs.Ytalbpleglapihaa
namespace Go.Proofs.Ytalbpleglapihaa
open Go.ChangeShapes Go.WideShapes Go.ChangeAt Go.RowKit
set_option linter.unusedVariables false
set_option linter.unusedSimpArgs false
/-! chapter 11: two in a row -/
theorem r8 (l : List Int) (s : Int) : (l ++ pbL s 4).length = l.length + 4 := by rw [List.length_append, pbL_len]
theorem rZ (l : List Int) : g32 (l ++ pbL (qR l) 4) l.length = qR l := k6k ⟨l, [], by rw [List.append_nil], rfl⟩ (dG l)
theorem eT (l : List Int) (s : Int) : List.take (l.length + 4 - 4) (l ++ pbL s 4) = l := by
  rw [show l.length + 4 - 4 = l.length by omega, List.take_left]
theorem u3w {l : List Int} (h4 : 4 ≤ l.length) (h : List.take 4 l = [83, 78, 68, 49]) (h3 : ¬ (kT (bK l kZ) = 0 ∧ kL (bK l kZ) = l.length)) : uO (l ++ pbL (qR l) 4) = 5 := by
  refine k9d (r8 l _) (by omega) ?_ ?_ ?_
  · rw [eT, show l.length + 4 - 4 = l.length by omega]; exact rZ l
  · rw [List.take_append_of_le_length h4]; exact h
  · rw [eT, show l.length + 4 - 4 = l.length by omega]; exact h3
theorem u3x {l : List Int} (h4 : 4 ≤ l.length) (h : ¬ List.take 4 l = [83, 78, 68, 49]) : uO (l ++ pbL (qR l) 4) = 5 := by
  refine u25 (r8 l _) (by omega) ?_ ?_
  · rw [eT, show l.length + 4 - 4 = l.length by omega]; exact rZ l
  · rw [List.take_append_of_le_length h4]; exact h
theorem k7p {B r : List Int} (h : DeB B) (hr : 1 ≤ r.length) : uO (B ++ r ++ pbL (qR (B ++ r)) 4) = 5 :=
  u3w (by rw [List.length_append]; have := h.len; omega) (h.head r) (h.more hr)
theorem u3m {B : List Int} (h : DeB B) : uO (B ++ pbL (qR B) 4) = 0 := by
  have hl := h.len
  have h1 := h.rd []
  rw [List.append_nil] at h1
  refine u22 (r8 B _) (by omega) ?_ ?_ ?_ ?_
  · rw [eT, show B.length + 4 - 4 = B.length by omega]; exact rZ B
  · exact h.head _
  · rw [eT, h1]; exact ⟨rfl, by show B.length = B.length + 4 - 4; omega⟩
  · rw [eT]; exact h.val
theorem u0k {B r : List Int} {k : Nat} (h : DeB B) (hk : r.length = k) : (1 ≤ k ∧ uO (B ++ r ++ pbL (qR (B ++ r)) 4) = 5) ∨ (k = 0 ∧ uO (B ++ r ++ pbL (qR (B ++ r)) 4) = 0) := by
  by_cases e : k = 0
  · have : r = [] := List.eq_nil_of_length_eq_zero (by omega)
    subst this
    rw [List.append_nil]
    exact .inr ⟨e, u3m h⟩
  · exact .inl ⟨by omega, k7p h (by omega)⟩
theorem u0j {B : List Int} (h : DeB B) : uO ([120] ++ B ++ pbL (qR ([120] ++ B)) 4) = 5 :=
  u3x (by rw [List.length_append]; have := h.len; show 4 ≤ 1 + _; omega) (fun e => by
    have e2 := congrArg (fun l => List.getD l 0 0) e
    have e3 : (120 : Int) = 83 := e2
    omega)
theorem u3n {B P : List Int} {z : Nat} (h : B.length = z) : List.take (z + 4 - 4) (B ++ P) = B := by
  rw [show z + 4 - 4 = z by omega, ← h, List.take_left]
end Go.Proofs.Ytalbpleglapihaa
namespace Go.Proofs.Ytalbpleglapihaa
open Go.ChangeShapes Go.WideShapes Go.ChangeAt Go.RowKit
set_option linter.unusedVariables false
set_option linter.unusedSimpArgs false
set_option maxHeartbeats 4000000
set_option maxRecDepth 100000
abbrev qV (B10 : List Int) := pbL (qR (([120] : List Int) ++ B10)) 4
theorem f9 {p : Prop} (h : p := by first | omega | with_reducible assumption | (simp only [kR, kQ, pbL_len, qX, qM, List.length_append, List.length_cons, List.length_nil, List.length_take, List.length_drop, List.length_replicate, List.length_set] <;> omega) | rfl | assumption) : p := h
theorem bL {p : Prop} (h : p := by first | omega | (simp only [kR, kQ, pbL_len, qX, qM, qJ, List.length_append, List.length_cons, List.length_nil, List.length_take, List.length_drop, List.length_replicate, List.length_set, List.length_map, List.length_reverse, Nat.mul_one] <;> omega) | rfl) : p := h
theorem u2o (sd mo : List Int) (m o : Nat) (hm : List.length sd = m) (hb : m ≤ 9223372036854775807) (hy : Byt sd) (ho : List.length mo = o) (hb2 : o ≤ 9223372036854775807) (hy2 : Byt mo) : Fun 4 [.c (.d (D.sl (dI .u8 sd) m)), .c (.d (D.sl (dI .u8 mo) o))] (kG []) 0 (bV true) (kG []) 0 := by
  refine Fun.mk (n := 82) Try.func4 rfl rfl (Nat.le_of_ble_eq_true rfl) ?_
  intro cx hcx
  refine kK [.no] True [(0, sV .u8 sd m), (1, sV .u8 mo o)] [] 0 trivial ?_
  refine AW.seq ?_
  refine kX [.call [] (bV true) [] 0 [] none, .no] _ [(0, sV .u8 sd m), (1, sV .u8 mo o), (15, bV false)] (k9l) ?_
  refine yV ?_
  refine AW.seq ?_
  by_cases hx1 : ((50 : Int) < ((o : Nat) : Int))
  · refine zr [.no, .no, .b true] [0, 1, 18] [] (((50 : Int) < (o : Int))) [(0, sV .u8 sd m), (1, sV .u8 mo o), (18, bV true)] [] 0 zo ?_
    refine zt ?_
    refine kK [.no] True [(4, bV true)] [] 0 trivial ?_
    refine AW.ret ?_
    exact kC (.inr rfl) [] (P := (true = true)) zk rfl
  · refine zr [.no, .no, .b false] [0, 1, 18] [] (¬ ((50 : Int) < (o : Int))) [(0, sV .u8 sd m), (1, sV .u8 mo o), (18, bV false)] [] 0 zo ?_
    refine yV ?_
    obtain ⟨id1, nm2, d13, d24, d35, d46, d57, bs8, n9, hx2, hF9⟩ := (k9j sd m zo zo (kP : Byt sd))
    obtain ⟨B10, z11, hx3, hx4, hx5, hx6, hx7, hF11⟩ := (rA id1 nm2 d13 d24 d35 d46 d57 bs8 n9 f9)
    refine kK (.no :: .call [] (.e (.agg [.d (D.lit (.int .u64 id1)), .d (D.lit (.string (strOfNums nm2))), iC d13, iC d24, iC d35, iC d46, iC d57, .d (D.sl (qI bs8) n9)])) [] 0 [] none :: .call [] (.tup [.c (.d (db (B10 ++ (pbL (qR B10) 4)) (z11 + 4))), iE 0]) [] 0 [] none :: kU 5 []) ((_) ∧ (_)) [(1, sV .u8 mo o), (5, sV .u8 (B10 ++ (pbL (qR B10) 4)) (z11 + 4)), (6, iV 0)] [] 0 ⟨hF9, hF11⟩ ?_
    refine AW.seq ?_
    refine kX [.no, .b false, .no, .no, .no, .b false, .no] ((¬ ((0 : Int) ≠ 0)) ∧ (¬ ((((z11 + 4) : Nat) : Int) < 8))) [(1, sV .u8 mo o), (5, sV .u8 (B10 ++ (pbL (qR B10) 4)) (z11 + 4)), (31, bV false)] ⟨zo, zo⟩ ?_
    refine yV ?_
    refine kX [.no, .no, .no, .w, .sls 0 ((z11 + 4) - 4) ((z11 + 4) - 4) (dI .u8 (List.take ((z11 + 4) - 4) (B10 ++ (pbL (qR B10) 4)))), .no] ((qL ((((z11 + 4) : Nat) : Int) - 4)) ∧ (kM 0) ∧ ((((((z11 + 4) : Nat) : Int) - 4) : Int) = ((((z11 + 4) - 4) : Nat) : Int)) ∧ ((0 : Nat) ≤ ((z11 + 4) - 4)) ∧ (((z11 + 4) - 4) ≤ (z11 + 4)) ∧ (((z11 + 4) - 4) - 0 = ((z11 + 4) - 4)) ∧ (List.take (((z11 + 4) - 4) * 1) (List.drop (0 * 1) (dI .u8 (B10 ++ (pbL (qR B10) 4)))) = (dI .u8 (List.take ((z11 + 4) - 4) (B10 ++ (pbL (qR B10) 4)))))) [(1, sV .u8 mo o), (7, sV .u8 (List.take ((z11 + 4) - 4) (B10 ++ (pbL (qR B10) 4))) ((z11 + 4) - 4))] ⟨⟨by omega, by omega⟩, rfl, (by first | rfl | omega), zo, zo, zo, (by first | rfl | with_reducible assumption | exact qD _ _ _ | exact aJ _ _ _ | (simp only [u6, qS, qD, Nat.mul_one, Nat.zero_mul, List.drop_zero, List.nil_append, List.append_nil]; done) | (simp only [u6, qS, qD, Nat.mul_one, Nat.zero_mul, List.drop_zero, List.nil_append, List.append_nil]; rfl) | (rw [List.take_of_length_le (by simp only [kR, kQ, pbL_len, qX, qM, qJ, List.length_drop, List.length_replicate, Nat.mul_one] <;> omega)]; first | rfl | (simp only [qS, Nat.mul_one, Nat.zero_mul, List.drop_zero]; done) | (simp only [qS, Nat.mul_one, Nat.zero_mul, List.drop_zero]; rfl)))⟩ ?_
    rw [show List.take (((z11 + 4) - 4)) ((B10 ++ (pbL (qR B10) 4))) = B10 from u3n (by assumption)]
    rw [show ((z11 + 4) - 4) = z11 by omega]
    have hx8 : (Byt ((B10 ++ B10) ++ (pbL (qR (B10 ++ B10)) 4))) := (((Byt.app (kP : Byt B10) (kP : Byt B10))).app (pbL_byt _ _))
    have hx9 : (((0 : Int) ≤ (uO ((B10 ++ B10) ++ (pbL (qR (B10 ++ B10)) 4)))) ∧ ((uO ((B10 ++ B10) ++ (pbL (qR (B10 ++ B10)) 4))) ≤ 6)) := (d9 ((B10 ++ B10) ++ (pbL (qR (B10 ++ B10)) 4)))
    have hx10 : ((List.length (aI ((B10 ++ B10) ++ (pbL (qR (B10 ++ B10)) 4)))) ≤ 65535) := (d8 (kP : Byt ((B10 ++ B10) ++ (pbL (qR (B10 ++ B10)) 4))))
    have hx11 : (BsW (aI ((B10 ++ B10) ++ (pbL (qR (B10 ++ B10)) 4)))) := (pM (kP : Byt ((B10 ++ B10) ++ (pbL (qR (B10 ++ B10)) 4))))
    have hx12 : ((List.length (f0 ((B10 ++ B10) ++ (pbL (qR (B10 ++ B10)) 4)))) ≤ 64) := (d7 ((B10 ++ B10) ++ (pbL (qR (B10 ++ B10)) 4)))
    refine kK (.no :: .ap none z11 (dI .u8 B10) :: .no :: (.fz (.ap none (z11 + z11) (dI .u8 (B10 ++ B10)))) :: .call [] (sV .u8 ((B10 ++ B10) ++ (pbL (qR (B10 ++ B10)) 4)) ((z11 + z11) + 4)) [] 0 [] none :: .call [] (.tup [.agg [.d (D.lit (.int .u64 (rJ ((B10 ++ B10) ++ (pbL (qR (B10 ++ B10)) 4))))), .d (D.lit (.string (strOfNums (f0 ((B10 ++ B10) ++ (pbL (qR (B10 ++ B10)) 4)))))), iC (rO ((B10 ++ B10) ++ (pbL (qR (B10 ++ B10)) 4))), iC (rN ((B10 ++ B10) ++ (pbL (qR (B10 ++ B10)) 4))), iC (rM ((B10 ++ B10) ++ (pbL (qR (B10 ++ B10)) 4))), iC (rL ((B10 ++ B10) ++ (pbL (qR (B10 ++ B10)) 4))), iC (rK ((B10 ++ B10) ++ (pbL (qR (B10 ++ B10)) 4))), .d (D.sl (qI (aI ((B10 ++ B10) ++ (pbL (qR (B10 ++ B10)) 4)))) (List.length (aI ((B10 ++ B10) ++ (pbL (qR (B10 ++ B10)) 4)))))], iE (uO ((B10 ++ B10) ++ (pbL (qR (B10 ++ B10)) 4)))]) [] 0 [] none :: kU 6 []) (((dI .u8 B10).length = z11 * 1) ∧ (z11 * 1 ≤ 140737488355328) ∧ (z11 = z11) ∧ (k8 (dI .u8 B10)) ∧ ((dI .u8 B10).length = z11 * 1) ∧ (((dI .u8 B10) : List D).length = z11 * 1) ∧ ((z11 + z11) * 1 ≤ 140737488355328) ∧ (z11 + z11 = (z11 + z11)) ∧ (((dI .u8 B10) : List D) ++ (dI .u8 B10) = (dI .u8 (B10 ++ B10))) ∧ (((dI .u8 (B10 ++ B10)) : List D).length = (z11 + z11) * 1) ∧ (_) ∧ (_)) [(1, sV .u8 mo o), (7, sV .u8 B10 z11), (9, iV (uO ((B10 ++ B10) ++ (pbL (qR (B10 ++ B10)) 4))))] [] 3 ⟨bL, zo, rfl, rfl, bL, bL, zo, zo, (qD .u8 B10 B10), bL, (iQ (B10 ++ B10) (z11 + z11) f9 zo (Byt.app (kP : Byt B10) (kP : Byt B10))), (cA ((B10 ++ B10) ++ (pbL (qR (B10 ++ B10)) 4)) ((z11 + z11) + 4) f9 zo (kP : Byt ((B10 ++ B10) ++ (pbL (qR (B10 ++ B10)) 4))))⟩ ?_
    have hx13 : (Byt ((B10 ++ mo) ++ (pbL (qR (B10 ++ mo)) 4))) := (((Byt.app (kP : Byt B10) (kP : Byt mo))).app (pbL_byt _ _))
    have hx14 : (((0 : Int) ≤ (uO ((B10 ++ mo) ++ (pbL (qR (B10 ++ mo)) 4)))) ∧ ((uO ((B10 ++ mo) ++ (pbL (qR (B10 ++ mo)) 4))) ≤ 6)) := (d9 ((B10 ++ mo) ++ (pbL (qR (B10 ++ mo)) 4)))
    have hx15 : ((List.length (aI ((B10 ++ mo) ++ (pbL (qR (B10 ++ mo)) 4)))) ≤ 65535) := (d8 (kP : Byt ((B10 ++ mo) ++ (pbL (qR (B10 ++ mo)) 4))))
    have hx16 : (BsW (aI ((B10 ++ mo) ++ (pbL (qR (B10 ++ mo)) 4)))) := (pM (kP : Byt ((B10 ++ mo) ++ (pbL (qR (B10 ++ mo)) 4))))
    have hx17 : ((List.length (f0 ((B10 ++ mo) ++ (pbL (qR (B10 ++ mo)) 4)))) ≤ 64) := (d7 ((B10 ++ mo) ++ (pbL (qR (B10 ++ mo)) 4)))
    refine kK (.no :: .ap none z11 (dI .u8 B10) :: .no :: (.fz (.ap none (z11 + o) (dI .u8 (B10 ++ mo)))) :: .call [] (sV .u8 ((B10 ++ mo) ++ (pbL (qR (B10 ++ mo)) 4)) ((z11 + o) + 4)) [] 0 [] none :: .call [] (.tup [.agg [.d (D.lit (.int .u64 (rJ ((B10 ++ mo) ++ (pbL (qR (B10 ++ mo)) 4))))), .d (D.lit (.string (strOfNums (f0 ((B10 ++ mo) ++ (pbL (qR (B10 ++ mo)) 4)))))), iC (rO ((B10 ++ mo) ++ (pbL (qR (B10 ++ mo)) 4))), iC (rN ((B10 ++ mo) ++ (pbL (qR (B10 ++ mo)) 4))), iC (rM ((B10 ++ mo) ++ (pbL (qR (B10 ++ mo)) 4))), iC (rL ((B10 ++ mo) ++ (pbL (qR (B10 ++ mo)) 4))), iC (rK ((B10 ++ mo) ++ (pbL (qR (B10 ++ mo)) 4))), .d (D.sl (qI (aI ((B10 ++ mo) ++ (pbL (qR (B10 ++ mo)) 4)))) (List.length (aI ((B10 ++ mo) ++ (pbL (qR (B10 ++ mo)) 4)))))], iE (uO ((B10 ++ mo) ++ (pbL (qR (B10 ++ mo)) 4)))]) [] 0 [] none :: kU 6 []) (((dI .u8 B10).length = z11 * 1) ∧ (z11 * 1 ≤ 140737488355328) ∧ (z11 = z11) ∧ (k8 (dI .u8 B10)) ∧ ((dI .u8 mo).length = o * 1) ∧ (((dI .u8 B10) : List D).length = z11 * 1) ∧ ((z11 + o) * 1 ≤ 140737488355328) ∧ (z11 + o = (z11 + o)) ∧ (((dI .u8 B10) : List D) ++ (dI .u8 mo) = (dI .u8 (B10 ++ mo))) ∧ (((dI .u8 (B10 ++ mo)) : List D).length = (z11 + o) * 1) ∧ (_) ∧ (_)) [(1, sV .u8 mo o), (7, sV .u8 B10 z11), (9, iV (uO ((B10 ++ B10) ++ (pbL (qR (B10 ++ B10)) 4)))), (11, iV (uO ((B10 ++ mo) ++ (pbL (qR (B10 ++ mo)) 4))))] [] 6 ⟨bL, zo, rfl, rfl, bL, bL, zo, zo, (qD .u8 B10 mo), bL, (iQ (B10 ++ mo) (z11 + o) f9 zo (Byt.app (kP : Byt B10) (kP : Byt mo))), (cA ((B10 ++ mo) ++ (pbL (qR (B10 ++ mo)) 4)) ((z11 + o) + 4) f9 zo (kP : Byt ((B10 ++ mo) ++ (pbL (qR (B10 ++ mo)) 4))))⟩ ?_
    have hx18 : (Byt ((([120] : List Int) ++ B10) ++ (qV B10))) := (((Byt.app (Byt.cons zo Byt.nil) (kP : Byt B10))).app (pbL_byt _ _))
    have hx19 : (((0 : Int) ≤ (uO ((([120] : List Int) ++ B10) ++ (qV B10)))) ∧ ((uO ((([120] : List Int) ++ B10) ++ (qV B10))) ≤ 6)) := (d9 ((([120] : List Int) ++ B10) ++ (qV B10)))
    have hx20 : ((List.length (aI ((([120] : List Int) ++ B10) ++ (qV B10)))) ≤ 65535) := (d8 (kP : Byt ((([120] : List Int) ++ B10) ++ (qV B10))))
    have hx21 : (BsW (aI ((([120] : List Int) ++ B10) ++ (qV B10)))) := (pM (kP : Byt ((([120] : List Int) ++ B10) ++ (qV B10))))
    have hx22 : ((List.length (f0 ((([120] : List Int) ++ B10) ++ (qV B10)))) ≤ 64) := (d7 ((([120] : List Int) ++ B10) ++ (qV B10)))
    refine kK (.no :: .no :: (.fz (.ap none (1 + z11) (dI .u8 (([120] : List Int) ++ B10)))) :: .call [] (sV .u8 ((([120] : List Int) ++ B10) ++ (qV B10)) ((1 + z11) + 4)) [] 0 [] none :: .call [] (.tup [.agg [.d (D.lit (.int .u64 (rJ ((([120] : List Int) ++ B10) ++ (qV B10))))), .d (D.lit (.string (strOfNums (f0 ((([120] : List Int) ++ B10) ++ (qV B10)))))), iC (rO ((([120] : List Int) ++ B10) ++ (qV B10))), iC (rN ((([120] : List Int) ++ B10) ++ (qV B10))), iC (rM ((([120] : List Int) ++ B10) ++ (qV B10))), iC (rL ((([120] : List Int) ++ B10) ++ (qV B10))), iC (rK ((([120] : List Int) ++ B10) ++ (qV B10))), .d (D.sl (qI (aI ((([120] : List Int) ++ B10) ++ (qV B10)))) (List.length (aI ((([120] : List Int) ++ B10) ++ (qV B10)))))], iE (uO ((([120] : List Int) ++ B10) ++ (qV B10)))]) [] 0 [] none :: kU 6 []) (((dI .u8 B10).length = z11 * 1) ∧ (([D.lit (.int .u8 120)] : List D).length = 1 * 1) ∧ ((1 + z11) * 1 ≤ 140737488355328) ∧ ((1 : Nat) + z11 = (1 + z11)) ∧ (([D.lit (.int .u8 120)] : List D) ++ (dI .u8 B10) = (dI .u8 (([120] : List Int) ++ B10))) ∧ (((dI .u8 (([120] : List Int) ++ B10)) : List D).length = (1 + z11) * 1) ∧ (_) ∧ (_)) [(1, sV .u8 mo o), (9, iV (uO ((B10 ++ B10) ++ (pbL (qR (B10 ++ B10)) 4)))), (11, iV (uO ((B10 ++ mo) ++ (pbL (qR (B10 ++ mo)) 4)))), (13, iV (uO ((([120] : List Int) ++ B10) ++ (qV B10))))] [] 9 ⟨bL, bL, zo, zo, (qD .u8 ([120] : List Int) B10), bL, (iQ (([120] : List Int) ++ B10) (1 + z11) f9 zo (Byt.app (Byt.cons zo Byt.nil) (kP : Byt B10))), (cA ((([120] : List Int) ++ B10) ++ (qV B10)) ((1 + z11) + 4) f9 zo (kP : Byt ((([120] : List Int) ++ B10) ++ (qV B10))))⟩ ?_
    by_cases hx26 : ((uO ((B10 ++ mo) ++ (pbL (qR (B10 ++ mo)) 4))) = 5)
    · have hx27 : uO ((B10 ++ B10) ++ (pbL (qR (B10 ++ B10)) 4)) = 5 := (k7p (by assumption) (by have h9 := DeB.len (by assumption); omega))
      have hx28 : (1 ≤ o ∧ uO ((B10 ++ mo) ++ (pbL (qR (B10 ++ mo)) 4)) = 5) ∨ (o = 0 ∧ uO ((B10 ++ mo) ++ (pbL (qR (B10 ++ mo)) 4)) = 0) := (u0k (by assumption) ho)
      have hx29 : uO ((([120] : List Int) ++ B10) ++ (qV B10)) = 5 := (u0j (by assumption))
      refine kK (.no :: .b true :: .no :: .no :: .b true :: kU 5 [.b true, .no, .no]) ((((uO ((B10 ++ B10) ++ (pbL (qR (B10 ++ B10)) 4))) = 5)) ∧ (((uO ((B10 ++ mo) ++ (pbL (qR (B10 ++ mo)) 4))) = 5)) ∧ (((uO ((([120] : List Int) ++ B10) ++ (qV B10))) = 5))) [(4, bV true)] [] 9 ⟨zo, zo, zo⟩ ?_
      refine AW.ret ?_
      exact kC (.inr rfl) [] (P := (true = true)) zk rfl
    · have hx30 : uO ((B10 ++ B10) ++ (pbL (qR (B10 ++ B10)) 4)) = 5 := (k7p (by assumption) (by have h9 := DeB.len (by assumption); omega))
      have hx31 : (1 ≤ o ∧ uO ((B10 ++ mo) ++ (pbL (qR (B10 ++ mo)) 4)) = 5) ∨ (o = 0 ∧ uO ((B10 ++ mo) ++ (pbL (qR (B10 ++ mo)) 4)) = 0) := (u0k (by assumption) ho)
      have hx32 : uO ((([120] : List Int) ++ B10) ++ (qV B10)) = 5 := (u0j (by assumption))
      refine kK [.no, .b true, .no, .no, .b false, .no, .no, .no, .b true, .no, .no, .b true, .no, .no, .no, .no, .no, .b true, .no, .no] ((((uO ((B10 ++ B10) ++ (pbL (qR (B10 ++ B10)) 4))) = 5)) ∧ (¬ ((uO ((B10 ++ mo) ++ (pbL (qR (B10 ++ mo)) 4))) = 5)) ∧ (((o : Int) = 0)) ∧ (((uO ((B10 ++ mo) ++ (pbL (qR (B10 ++ mo)) 4))) = 0)) ∧ (((uO ((([120] : List Int) ++ B10) ++ (qV B10))) = 5))) [(4, bV true)] [] 9 ⟨zo, zo, zo, zo, zo⟩ ?_
      refine AW.ret ?_
      exact kC (.inr rfl) [] (P := (true = true)) zk rfl
theorem Sl.max {k : IntKind} {w : World} {a : Option Addr} {len cap : Nat} {l : List Int} (h : Sl k w a len cap l) : List.length l ≤ 9223372036854775807 := by
  obtain ⟨h1, h2, h3, _⟩ := h
  unfold maxLen at h3
  omega
theorem tF {w : World}  {xa0 : Option Addr} {xl0 xc0 : Nat} {sd : List Int} (hs0 : Sl .u8 w xa0 xl0 xc0 sd) {xa1 : Option Addr} {xl1 xc1 : Nat} {mo : List Int} (hs1 : Sl .u8 w xa1 xl1 xc1 mo)  : Calls Try.prog 4 #[.slice xa0 xl0 xc0, .slice xa1 xl1 xc1] w fun e w' => e = .returned (.bool true) ∧ Below w.heap.size w w' :=
  (u2o sd mo (List.length sd) (List.length mo) rfl hs0.max (k40 fun x hx => bounds_u8 (hs0.wf x hx)) rfl hs1.max (k40 fun x hx => bounds_u8 (hs1.wf x hx))).walk ⟨t4 hs0, t4 hs1, trivial⟩
end Go.Proofs.Ytalbpleglapihaa
