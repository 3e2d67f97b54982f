/- Merged texts. -/
import Derived.Test.YtbicifcgghmhaaaGreatZK10
import Derived.Test.YtbicifcgghmhaaaGreatZL12C
namespace Go.Proofs.YtbicifcgghmhaaaGreat
open Go.ChangeShapes Go.WideShapes Go.ChangeAt Go.RowKit
set_option linter.unusedVariables false
set_option linter.unusedSimpArgs false
set_option maxHeartbeats 4000000
set_option maxRecDepth 100000
theorem p7 {p : Prop} (h : p := by (simp only [qB, qA, qQ, List.length_append, List.length_cons, List.length_nil, List.length_take, List.length_drop, List.length_replicate, List.length_set, List.length_map, List.length_reverse, Nat.mul_one] <;> omega)) : p := h
theorem u69 (a : Int)  : Fun 112 [iE a] (kF []) 0 (.e (.agg [.d (D.sl (dI .i64 ([a, a] : List Int)) 1)])) (kF []) 0 := by
 refine Fun.mk (n := 8) Tryz.func112 rfl rfl (Nat.le_of_ble_eq_true rfl) ?_
 intro cx hcx
 refine kH [.no] True [(0, iV a), (2, rV 0 0)] [(0, some (60, .ds [qI]))] 1 trivial ?_
 refine kH (qE 6 []) True [(2, rV 0 0)] [(0, some (60, .cs [.own 1 0 1 2 true])), (1, some (95, .ds [iD a, iD a]))] 2 trivial ?_
 refine AW.freeze 1 (l' := [(2, rV 0 0)]) (g' := [(0, some (60, .ds [D.sl [iD a, iD a] 1]))]) rfl (FzS.cons rfl (.same _) FzS.nil) (FzG.to (bc := .cs [.own 1 0 1 2 true]) rfl (by rfl) (FzL.cons (@FzC.own 1 ([iD a, iD a] : List D) 0 (1 : Nat) 2 true ([iD a, iD a] : List D) (by rw [List.drop_zero, List.take_of_length_le (by (simp only [qB, qA, qQ, List.length_append, List.length_cons, List.length_nil, List.length_take, List.length_drop, List.length_replicate, List.length_set, List.length_map, List.length_reverse, Nat.mul_one] <;> omega))]) p7) FzL.nil) FzG.nil) ?_
 refine AW.ret ?_
 exact kA (.inr rfl) [] (P := (((dI .i64 ([a, a] : List Int)) : List D) = [iD a, iD a]) ∧ (kG 1)) zk ⟨(by rfl), rfl⟩
@[reducible] def q1X (k r : Int) (m : List Int) (z : Int) : List Bx := ([(kE (IntKind.i64.wrap (1 * (((2 ^ (Int.toNat k)) : Nat) : Int))) ([r, r] : List Int) 1 ([m] : List (List Int)) ([z, z] : List Int) 1)] : List Bx)
theorem u0t (k r : Int) (m : List Int) (n : Nat) (z : Int) (hm : List.length m = n) (h1 : n ≤ 1000000) : Fun 76 [.agg [iC k, iC r, .d (D.sl (dI .i64 m) n), iC z]] (kF []) 0 (.e (yL (qL k r m z))) (kF []) 0 := by
 refine Fun.mk (n := 32) Tryz.func76 rfl rfl (Nat.le_of_ble_eq_true rfl) ?_
 intro cx hcx
 refine kH [.no, .no] True [(1, rV 0 0)] [(0, some (42, .ds [iD k, iD r, dl m n, iD z]))] 1 trivial ?_
 refine AW.seq ?_
 rcases Bool.eq_false_or_eq_true (decide (1 ≤ k ∧ k ≤ 7)) with hx1 | hx1
 ·have hx2 : (((1 : Int) ≤ k) ∧ (k ≤ 7)) := of_decide_eq_true hx1
  obtain rfl : n = (List.length m) := (by omega)
  refine kH [.no, .no, .no, .call [] (bV true) [] 0 [] none, .no] (Fun 111 [iE k] (kF []) 0 (bV true) (kF []) 0) [(1, rV 0 0), (9, bV false)] [(0, some (42, .ds [iD k, iD r, dl m (List.length m), iD z]))] 1 (by have h0 := (i7 k); rw [hx1] at h0; exact h0) ?_
  refine uO ?_
  refine kS [.no] True [(1, rV 0 0), (3, .e (.c (.fn 112 [])))] trivial ?_
  refine kH (.no :: .no :: .no :: .n2 (Int.toNat k) 0 :: qE 4 (.call [] (.e (.agg [.d (dl ([r, r] : List Int) 1)])) [] 0 [] none :: .no :: .no :: .no :: (.fz (.call [] (oV 0 0 (List.length m) 1) [(0, some (3, .ds (dI .i64 m)))] 1 [] none)) :: qE 4 [.call [] (.e (.agg [.d (dl ([z, z] : List Int) 1)])) [] 0 [] none, .no, .no, .no])) (((k : Int) = (Int.toNat k : Int)) ∧ ((Int.toNat k) ≤ 64) ∧ (_) ∧ (_) ∧ (((dI .i64 m) : List D).length = (List.length m) * 1) ∧ (_)) [(4, oV 3 0 1 4)] [(2, some (38, .ds [dl m (List.length m)])), (3, some (63, .cs [iC (IntKind.i64.wrap (1 * (((2 ^ (Int.toNat k)) : Nat) : Int))), .d (dl ([r, r] : List Int) 1), .own 2 0 1 1 true, .d (dl ([z, z] : List Int) 1)]))] 4 ⟨zo, zo, (u69 r), (c5 m (List.length m) rfl zo), p7, (u69 z)⟩ ?_
  refine AW.freeze 2 (l' := [(4, oV 3 0 1 4)]) (g' := [(3, some (63, .ds [iD (IntKind.i64.wrap (1 * (((2 ^ (Int.toNat k)) : Nat) : Int))), dl ([r, r] : List Int) 1, D.sl [dl m (List.length m)] 1, dl ([z, z] : List Int) 1]))]) rfl (FzS.cons rfl (.same _) FzS.nil) (FzG.to (bc := .cs [iC (IntKind.i64.wrap (1 * (((2 ^ (Int.toNat k)) : Nat) : Int))), .d (dl ([r, r] : List Int) 1), .own 2 0 1 1 true, .d (dl ([z, z] : List Int) 1)]) rfl (by rfl) (FzL.cons (.same _) (FzL.cons (.same _) (FzL.cons (@FzC.own 2 ([dl m (List.length m)] : List D) 0 (1 : Nat) 1 true ([dl m (List.length m)] : List D) (by rw [List.drop_zero, Nat.mul_one, List.take_of_length_le (by (simp only [qB, qA, qQ, List.length_append, List.length_cons, List.length_nil, List.length_take, List.length_drop, List.length_replicate, List.length_set, List.length_map, List.length_reverse, Nat.mul_one] <;> omega))]) p7) (FzL.cons (.same _) FzL.nil)))) FzG.nil) ?_
  refine AW.freeze 3 (l' := [(4, qC [iD (IntKind.i64.wrap (1 * (((2 ^ (Int.toNat k)) : Nat) : Int))), dl ([r, r] : List Int) 1, D.sl [dl m (List.length m)] 1, dl ([z, z] : List Int) 1] 1)]) (g' := []) rfl (FzS.cons rfl (.e (.c (@FzC.own 3 ([iD (IntKind.i64.wrap (1 * (((2 ^ (Int.toNat k)) : Nat) : Int))), dl ([r, r] : List Int) 1, D.sl [dl m (List.length m)] 1, dl ([z, z] : List Int) 1] : List D) 0 (1 : Nat) 4 true ([iD (IntKind.i64.wrap (1 * (((2 ^ (Int.toNat k)) : Nat) : Int))), dl ([r, r] : List Int) 1, D.sl [dl m (List.length m)] 1, dl ([z, z] : List Int) 1] : List D) (by rw [List.drop_zero, List.take_of_length_le (by (simp only [qB, qA, qQ, List.length_append, List.length_cons, List.length_nil, List.length_take, List.length_drop, List.length_replicate, List.length_set, List.length_map, List.length_reverse, Nat.mul_one] <;> omega))]) p7))) FzS.nil) FzG.nil ?_
  rw [show ([iD (IntKind.i64.wrap (1 * (((2 ^ (Int.toNat k)) : Nat) : Int))), D.sl (dI .i64 ([r, r] : List Int)) 1, D.sl [D.sl (dI .i64 m) (List.length m)] 1, D.sl (dI .i64 ([z, z] : List Int)) 1] : List D) = (kN (q1X k r m z)) from rfl]
  have hx3 : BsW (q1X k r m z) := u4d k r m z zo
  have hx4 : ((List.length (kK (q1X k r m z))) ≤ 1) := (by have h9 := j0 (q1X k r m z); omega)
  refine kH [.no, .call [] (.e (yL (kK (q1X k r m z)))) [] 0 [] none, .no] _ [(2, .e (yL (kK (q1X k r m z))))] [] 4 (jA (q1X k r m z) 1 (by (simp only [qB, qA, List.length_append, List.length_cons, List.length_nil, List.length_take, List.length_drop, List.length_replicate, List.length_set] <;> omega)) zo (qD : BsW (q1X k r m z))) ?_
  have hz1 : qL k r m z = kK (siX k r m z) := if_pos (by omega)
  refine AW.ret ?_
  exact kA (.inr rfl) [] (P := (((kN (qL k r m z)) : List D) = (kN (kK (q1X k r m z)))) ∧ (((List.length (qL k r m z)) : Nat) = (List.length (kK (q1X k r m z))))) zk ⟨(by (rw [hz1]; rfl)), (by (rw [hz1]; rfl))⟩
 ·have hx5 : ¬ (((1 : Int) ≤ k) ∧ (k ≤ 7)) := of_decide_eq_false hx1
  obtain rfl : n = (List.length m) := (by omega)
  refine kH [.no, .no, .no, .call [] (bV false) [] 0 [] none, .no] (Fun 111 [iE k] (kF []) 0 (bV false) (kF []) 0) [(1, rV 0 0), (9, bV true)] [(0, some (42, .ds [iD k, iD r, dl m (List.length m), iD z]))] 1 (by have h0 := (i7 k); rw [hx1] at h0; exact h0) ?_
  refine zt ?_
  refine kH [.no] True [(2, nV)] [] 1 trivial ?_
  have hz1 : qL k r m z = [] := if_neg (by omega)
  refine y6 (l' := [(2, qC ([] : List D) 0)]) (g' := []) (NlS.cons rfl (.e (.c .nil)) NlS.nil) NlG.nil ?_
  refine AW.ret ?_
  exact kA (.inr rfl) [] (P := (((kN (qL k r m z)) : List D) = ([] : List D)) ∧ (((List.length (qL k r m z)) : Nat) = 0)) zk ⟨(by (rw [hz1]; rfl)), (by (rw [hz1]; rfl))⟩
end Go.Proofs.YtbicifcgghmhaaaGreat
namespace Go.Proofs.YtbicifcgghmhaaaGreat
open Go.ChangeShapes Go.WideShapes Go.ChangeAt Go.RowKit
set_option linter.unusedVariables false
set_option linter.unusedSimpArgs false
set_option maxHeartbeats 4000000
set_option maxRecDepth 100000
theorem u67 {d : Int} {xs : List Bx} (h : BsW xs) (ys : List Bx) : ∀ i, BsW (agL d xs ys i)
 | 0 => BsW.nil
 | i + 1 => (u67 h ys i).app fun b hb => by
  obtain ⟨l, hl, hb⟩ := List.mem_flatten.1 hb
  obtain ⟨j, _, rfl⟩ := List.mem_map.1 hl
  exact k6u h j i b hb
theorem v3c {d : Int} {xs : List Bx} (h : BsW xs) (ys : List Bx) : BsW (oN d xs ys) := u67 h ys _
theorem PsW.drop {xs : List Pt} (h : PsW xs) (n : Nat) : PsW (List.drop n xs) := fun m hm => h m (List.mem_of_mem_drop hm)
/-! chapter 12: choices as data, what is chosen -/
def sD (k r : Int) (m : List Int) (z : Int) : Co := ⟨k, r, m, z⟩
def coN (k r : Int) (m : List Int) (z : Int) (cs : List Co) : List Co := ⟨k, r, m, z⟩ :: cs
def cdR (c : Co) : List D := [D.lit (.int .i64 c.k), D.lit (.int .i64 c.r), D.sl (dI .i64 c.m) c.m.length, D.lit (.int .i64 c.s)]
def zcR : List D := [D.lit (.int .i64 0), D.lit (.int .i64 0), D.lit (.slice none 0 0), D.lit (.int .i64 0)]
def chD : List Co → List D
 | [] => []
 | c :: r => cdR c ++ chD r
def qT : Nat → List Co → List D
 | 0, cs => chD cs
 | i + 1, cs => zcR ++ qT i cs
theorem k2x : ∀ cs : List Co, (chD cs).length = cs.length * 4
 | [] => rfl
 | c :: r => by show (cdR c ++ chD r).length = (r.length + 1) * 4; rw [List.length_append, k2x r]; show 4 + _ = _; omega
theorem y4 (cs : List Co) : ∀ i, (qT i cs).length = (i + cs.length) * 4
 | 0 => by rw [Nat.zero_add]; exact k2x cs
 | i + 1 => by show (zcR ++ qT i cs).length = _; rw [List.length_append, y4 cs i]; show 4 + _ = _; omega
theorem u5u : ∀ n, (List.replicate n zcR).flatten = qT n ([] : List Co)
 | 0 => rfl
 | n + 1 => by rw [List.replicate_succ, List.flatten_cons, u5u n]; rfl
theorem u03 (cs : List Co) (c : Co) : ∀ i, g6 (qT (i + 1) cs) (i * 4) (cdR c) = qT i (c :: cs)
 | 0 => rfl
 | i + 1 => by
  have ih := u03 cs c i
  rw [show (i + 1) * 4 = i * 4 + 1 + 1 + 1 + 1 by omega]
  show zcR ++ g6 (qT (i + 1) cs) (i * 4) (cdR c) = zcR ++ qT i (c :: cs)
  rw [ih]
theorem u3e {i : Nat} (h : 1 ≤ i) (cs : List Co) (k r : Int) (m : List Int) (z : Int) {n : Nat} (hn : n = m.length) : g6 (qT i cs) ((i - 1) * 4) [D.lit (.int .i64 k), D.lit (.int .i64 r), D.sl (dI .i64 m) n, D.lit (.int .i64 z)] = qT (i - 1) (coN k r m z cs) := by
 subst hn
 obtain ⟨i, rfl⟩ : ∃ j, i = j + 1 := ⟨i - 1, by omega⟩
 exact u03 cs ⟨k, r, m, z⟩ i
theorem k2w (cs : List Co) (c : Co) : ∀ i, List.take 4 (List.drop (i * 4) (qT i (c :: cs))) = cdR c
 | 0 => rfl
 | i + 1 => by
  have ih := k2w cs c i
  rw [show (i + 1) * 4 = i * 4 + 1 + 1 + 1 + 1 by omega]; exact ih
theorem u3f (i : Nat) (k r : Int) (m : List Int) (z : Int) (cs : List Co) : List.take 4 (List.drop (i * 4) (qT i (coN k r m z cs))) = [D.lit (.int .i64 k), D.lit (.int .i64 r), D.sl (dI .i64 m) m.length, D.lit (.int .i64 z)] := k2w cs ⟨k, r, m, z⟩ i
def co0 : Co := ⟨0, 0, [], 0⟩
def cG (cs : List Co) (i : Nat) : Co := List.getD cs i co0
def aB (cs : List Co) (i : Nat) : Int := (cG cs i).k
def vS (cs : List Co) (i : Nat) : Int := (cG cs i).r
def uJ (cs : List Co) (i : Nat) : List Int := (cG cs i).m
def aA (cs : List Co) (i : Nat) : Int := (cG cs i).s
theorem k12 : ∀ (cs : List Co) (i : Nat), i < cs.length → List.take 4 (List.drop (i * 4) (chD cs)) = cdR (cG cs i)
 | [], _, h => absurd h (Nat.not_lt_zero _)
 | _ :: _, 0, _ => rfl
 | c :: r, i + 1, h => by
  have ih := k12 r i (Nat.lt_of_succ_lt_succ h)
  rw [show (i + 1) * 4 = i * 4 + 1 + 1 + 1 + 1 by omega]; exact ih
theorem lF {cs : List Co} {i : Nat} (h : i < cs.length) : List.take 4 (List.drop (i * 4) (qT 0 cs)) = [D.lit (.int .i64 (aB cs i)), D.lit (.int .i64 (vS cs i)), D.sl (dI .i64 (uJ cs i)) (List.length (uJ cs i)), D.lit (.int .i64 (aA cs i))] := k12 cs i h
theorem k2y : ∀ a b : List Co, chD (a ++ b) = chD a ++ chD b
 | [], _ => rfl
 | l :: r, b => by show cdR l ++ chD (r ++ b) = cdR l ++ chD r ++ chD b; rw [k2y r b, List.append_assoc]
theorem u8v (cs : List Co) (k r : Int) (m : List Int) (z : Int) (n : Nat) (hn : m.length = n) : qT 0 cs ++ [D.lit (.int .i64 k), D.lit (.int .i64 r), D.sl (dI .i64 m) n, D.lit (.int .i64 z)] = qT 0 (cs ++ [sD k r m z]) := by
 subst hn
 exact (k2y cs [sD k r m z]).symm
theorem u3d {cs o : List Co} {i : Nat} (h : o = List.take i cs) (hi : i < cs.length) : o ++ [sD (aB cs i) (vS cs i) (uJ cs i) (aA cs i)] = List.take (i + 1) cs := by
 subst h
 have e : cG cs i = cs[i] := by unfold cG; rw [List.getD_eq_getElem?_getD, List.getElem?_eq_getElem hi]; rfl
 rw [List.take_succ_eq_append_getElem hi, ← e]; rfl
def ChW (cs : List Co) : Prop := ∀ c ∈ cs, List.length c.m ≤ 1000000
theorem ChW.get {cs : List Co} (h : ChW cs) (i : Nat) : List.length (uJ cs i) ≤ 1000000 := by
 unfold uJ cG
 rw [List.getD_eq_getElem?_getD]
 cases e : cs[i]? with
 | none => exact Nat.zero_le _
 | some l => exact h l (List.mem_of_getElem? e)
theorem ChW.nil : ChW [] := fun c h => by cases h
theorem ChW.app {a b : List Co} (h : ChW a) (h2 : ChW b) : ChW (a ++ b) := fun m hm => (List.mem_append.1 hm).elim (h m) (h2 m)
theorem ChW.one {k r : Int} {m : List Int} {z : Int} (h : List.length m ≤ 1000000) : ChW [sD k r m z] := fun c hc => by rw [List.mem_singleton.1 hc]; exact h
/-! what is chosen, from the last port to the first -/
def zI (ps : List Pt) (n j : Nat) (w : Co) : List Bx := if j = 0 then eB (uN ps) (n - 1 - j) else oN (uG ps (n - 1 - j)) (eB (uN ps) (n - 1 - j)) (qL w.k w.r w.m w.s)
def aQ (ps : List Pt) (n : Nat) (w : Co) : Nat → Co
 | 0 => w
 | j + 1 => xU (zI ps n j (aQ ps n w j)) (aQ ps n w j).k (aQ ps n w j).r (aQ ps n w j).m (aQ ps n w j).s
def vJ (ps : List Pt) (n : Nat) (k r : Int) (w : List Int) (z : Int) (j : Nat) : List Bx := zI ps n j (aQ ps n ⟨k, r, w, z⟩ j)
def vX (ps : List Pt) (n : Nat) (k r : Int) (w : List Int) (z : Int) (j : Nat) : Int := (aQ ps n ⟨k, r, w, z⟩ j).k
def vG (ps : List Pt) (n : Nat) (k r : Int) (w : List Int) (z : Int) (j : Nat) : Int := (aQ ps n ⟨k, r, w, z⟩ j).r
def y3 (ps : List Pt) (n : Nat) (k r : Int) (w : List Int) (z : Int) (j : Nat) : List Int := (aQ ps n ⟨k, r, w, z⟩ j).m
def vF (ps : List Pt) (n : Nat) (k r : Int) (w : List Int) (z : Int) (j : Nat) : Int := (aQ ps n ⟨k, r, w, z⟩ j).s
def dO (ps : List Pt) (n : Nat) (k r : Int) (w : List Int) (z : Int) : Nat → List Co
 | 0 => []
 | j + 1 => aQ ps n ⟨k, r, w, z⟩ (j + 1) :: dO ps n k r w z j
theorem yK (ps : List Pt) (n : Nat) (k r : Int) (w : List Int) (z : Int) : ∀ j, (dO ps n k r w z j).length = j
 | 0 => rfl
 | j + 1 => congrArg Nat.succ (yK ps n k r w z j)
section
variable {ps : List Pt} {n : Nat} {k r : Int} {w : List Int} {z : Int}
theorem u5o {i j : Nat} (h : j = 0) (hi : i = n - 1 - j) : eB (uN ps) i = vJ ps n k r w z j := by
 subst hi; exact (if_pos h).symm
theorem u5m {i j : Nat} (h : ¬ j = 0) (hi : i = n - 1 - j) : oN (uG ps i) (eB (uN ps) i) (qL (vX ps n k r w z j) (vG ps n k r w z j) (y3 ps n k r w z j) (vF ps n k r w z j)) = vJ ps n k r w z j := by
 subst hi; exact (if_neg h).symm
theorem k9n (hW : PsW ps) (j : Nat) : BsW (vJ ps n k r w z j) ∧ List.length (vJ ps n k r w z j) ≤ 4096 := by
 have hb := (u56 hW).get (n - 1 - j)
 unfold vJ zI
 split
 ·exact ⟨hb.1, by omega⟩
 ·exact ⟨v3c hb.1 _, u0l hb.2 rfl (mS _ _ _ _)⟩
theorem k9m (hW : PsW ps) (hr : -9223372036854775808 ≤ r ∧ r ≤ 9223372036854775807) (hz : -9223372036854775808 ≤ z ∧ z ≤ 9223372036854775807) (hw : List.length w ≤ 1000000) : ∀ j, (-9223372036854775808 ≤ vG ps n k r w z j ∧ vG ps n k r w z j ≤ 9223372036854775807) ∧ (-9223372036854775808 ≤ vF ps n k r w z j ∧ vF ps n k r w z j ≤ 9223372036854775807) ∧ List.length (y3 ps n k r w z j) ≤ 1000000
 | 0 => ⟨hr, hz, hw⟩
 | j + 1 => by
  obtain ⟨_, h2, h3, h4⟩ := k4i (k9n (n := n) (k := k) (r := r) (w := w) (z := z) hW j).1 (vX ps n k r w z j) (vG ps n k r w z j) (y3 ps n k r w z j) (vF ps n k r w z j)
  have h2 : 0 ≤ vG ps n k r w z (j + 1) ∧ vG ps n k r w z (j + 1) ≤ 2147483647 := h2
  have h3 : 0 ≤ vF ps n k r w z (j + 1) ∧ vF ps n k r w z (j + 1) ≤ 2147483647 := h3
  exact ⟨by omega, by omega, h4⟩
theorem k9o (hW : PsW ps) (hr : -9223372036854775808 ≤ r ∧ r ≤ 9223372036854775807) (hz : -9223372036854775808 ≤ z ∧ z ≤ 9223372036854775807) (hw : List.length w ≤ 1000000) : ∀ j, ChW (dO ps n k r w z j)
 | 0 => ChW.nil
 | j + 1 => fun c hc => (List.mem_cons.1 hc).elim (fun e => by rw [e]; exact (k9m (n := n) (k := k) hW hr hz hw (j + 1)).2.2) (k9o hW hr hz hw j c)
end
def u0 (ps : List Pt) (n : Nat) (k r : Int) (w : List Int) (z : Int) : List Co := if uX ps = 0 then dO ps n k r w z n else []
theorem k9z {ps : List Pt} {n : Nat} {k r : Int} {w : List Int} {z : Int} (h : uX ps = 0) : u0 ps n k r w z = dO ps n k r w z n ∧ List.length (dO ps n k r w z n) = n := ⟨if_pos h, yK ..⟩
theorem u00 {ps : List Pt} {n : Nat} {k r : Int} {w : List Int} {z : Int} (h : ¬ uX ps = 0) : u0 ps n k r w z = [] := if_neg h
theorem u02 {ps : List Pt} {n : Nat} {k r : Int} {w : List Int} {z : Int} (hW : PsW ps) (hr : -9223372036854775808 ≤ r ∧ r ≤ 9223372036854775807) (hz : -9223372036854775808 ≤ z ∧ z ≤ 9223372036854775807) (hw : List.length w ≤ 1000000) : ChW (u0 ps n k r w z) := by
 unfold u0; split
 ·exact k9o hW hr hz hw n
 ·exact ChW.nil
theorem k2h {ps : List Pt} {n : Nat} (h : uX ps = 0) (hn : ps.length = n) : List.length (uN ps) = n := by
 subst hn
 unfold uN fwO
 have h2 := h
 unfold uX at h2
 by_cases c : cS ps = true
 ·rw [if_pos c] at h2
  by_cases d : lD ps ps.length < 0
  ·rw [c, decide_eq_true d]; exact q6 _ _
  ·rw [if_neg d] at h2
   by_cases e : fwE ps (fwX ps) = 0
   ·rw [if_pos e] at h2; exact absurd h2 (by decide)
   ·rw [if_neg e] at h2; exact absurd h2 e
 ·rw [if_neg c] at h2; exact absurd h2 (by decide)
theorem u3g {cs : List Co} {i : Nat} (h : i < cs.length) {f : Nat} (hf : f < 4) : (List.drop (i * 4 + f) (qT 0 cs))[0]? = (cdR (cG cs i))[f]? := by
 have e := k12 cs i h
 have e : List.take 4 (List.drop (i * 4) (qT 0 cs)) = cdR (cG cs i) := e
 rw [← e, List.getElem?_take_of_lt hf, List.getElem?_drop, List.getElem?_drop, Nat.add_zero]
theorem u5t {cs : List Co} {i : Nat} (h : i < cs.length) : (List.drop (i * 4 + 1) (qT 0 cs))[0]? = some (D.lit (.int .i64 (vS cs i))) := u3g h (by decide)
theorem vK (k r : Int) (m : List Int) (z : Int) (cs : List Co) : List.length (coN k r m z cs) = List.length cs + 1 := rfl
theorem u57 {ps : List Pt} (h : uX ps = 0) : aY ps = 0 ∧ aZ ps = 0 := by
 unfold aY aZ; rw [h]; exact ⟨rfl, rfl⟩
theorem u5n (ps : List Pt) (n : Nat) (k r : Int) (w : List Int) (z : Int) {i j : Nat} (hi : i = n - 1 - j) : (¬ j = 0 ∨ List.length (vJ ps n k r w z j) = List.length (eB (uN ps) i)) ∧ (j = 0 ∨ List.length (vJ ps n k r w z j) = List.length (oN (uG ps i) (eB (uN ps) i) (qL (vX ps n k r w z j) (vG ps n k r w z j) (y3 ps n k r w z j) (vF ps n k r w z j)))) := by
 by_cases h : j = 0
 ·exact ⟨.inr (congrArg List.length (u5o h hi).symm), .inl h⟩
 ·exact ⟨.inl h, .inr (congrArg List.length (u5m h hi).symm)⟩
abbrev u6 (d : Int) (k : Int) (r : Int) (w : List Int) (z : Int) (i : Nat) (a : List Bx) (j : Nat) := zL d 2 (kY (qL k r w z) i) (kY a j)
abbrev u5 (d : Int) (k : Int) (r : Int) (w : List Int) (z : Int) (i : Nat) (a : List Bx) (j : Nat) := zM d 4 (kT (qL k r w z) i) (kT a j)
abbrev u4 (d : Int) (k : Int) (r : Int) (w : List Int) (z : Int) (i : Nat) (a : List Bx) (j : Nat) := zL d 8 (kX (qL k r w z) i) (kX a j)
theorem gH {p : Prop} (h : p := by (simp only [qB, qA, qS, qV, q6, qQ, List.length_append, List.length_cons, List.length_nil, List.length_take, List.length_drop, List.length_replicate, List.length_set, List.length_map, List.length_reverse, Nat.mul_one] <;> omega)) : p := h
theorem zU {p : Prop} (h : p := by rw [List.drop_zero, List.take_of_length_le (by (simp only [qB, qA, qS, qV, q6, qQ, List.length_append, List.length_cons, List.length_nil, List.length_take, List.length_drop, List.length_replicate, List.length_set, List.length_map, List.length_reverse, Nat.mul_one] <;> omega))]) : p := h
abbrev eT (k : Int) (r : Int) (w : List Int) (z : Int) (i : Nat) : BC := .ds [iD (kQ (qL k r w z) i), D.sl (dI .i64 (kY (qL k r w z) i)) (kV (qL k r w z) i), D.sl (kI (kT (qL k r w z) i)) (List.length (kT (qL k r w z) i)), D.sl (dI .i64 (kX (qL k r w z) i)) (kU (qL k r w z) i)]
theorem v3o (a : List Bx) (n : Nat) (k r : Int) (w : List Int) (c : Nat) (z d : Int) (hn : List.length a = n) (h1 : n ≤ 64) (hW : BsW a) (hm : List.length w = c) (h2 : c ≤ 1000000) : Fun 45 [.c (.d (D.sl (kN a) n)), .agg [iC k, iC r, .d (D.sl (dI .i64 w) c), iC z], iE d] (kF []) 0 (.e (yL (oN d a (qL k r w z)))) (kF []) 0 := by
 have hsi : List.length (qL k r w z) ≤ 1 := mS k r w z
 have hsw : BsW (qL k r w z) := v0d k r w z (by omega)
 refine Fun.mk (n := 40) Tryz.func45 rfl rfl (Nat.le_of_ble_eq_true rfl) ?_
 intro cx hcx
 refine kH [.no, .no] True [(0, .e (k9 a n)), (2, iV d), (4, rV 0 0)] [(0, some (42, .ds [iD k, iD r, dl w c, iD z]))] 1 trivial ?_
 refine kS [.no] True [(0, .e (k9 a n)), (2, iV d), (4, rV 0 0), (7, nV)] trivial ?_
 refine AW.seq ?_
 have hx1 : ((List.length (qL k r w z)) ≤ 1) := mS k r w z
 refine kH [.no, .call [] (.e (yL (qL k r w z))) [] 0 [] none, .no, .no] _ [(0, .e (k9 a n)), (2, iV d), (7, nV), (15, .e (yL (qL k r w z))), (16, uV (List.length (qL k r w z))), (17, iV 0)] [] 1 (u0t k r w c z zo zo) ?_
 refine AW.block ?_
 refine AW.adoptS 7 4 63 rfl ?_
 refine k8 0 hcx (fun (x : {x : Nat × Nat × List Bx // match x with | (i, q, o) => (i ≤ List.length (qL k r w z)) ∧ (agL d a (qL k r w z) i = o) ∧ (List.length o = q) ∧ (q ≤ i * 4096) ∧ (BsW o)}) => match x with | ⟨(i, q, o), _⟩ => (⟨[(0, .e (k9 a n)), (2, iV d), (7, oV 2 0 q 4), (15, .e (yL (qL k r w z))), (16, uV (List.length (qL k r w z))), (17, uV i)], [(2, some (63, .ds (kN o)))], 3⟩ : ES)) (fun x => match x with | ⟨(i, q, o), _⟩ => List.length (qL k r w z) - i) ⟨((0 : Nat), (0 : Nat), (([] : List Bx) : List Bx)), ⟨zo, rfl, rfl, zo, BsW.nil⟩⟩ [(2, 1)] (P := (kJ (kN a)) ∧ (kG n) ∧ (kM d) ∧ (kG 0) ∧ (kG 0) ∧ (kJ (kN (qL k r w z))) ∧ (kG (List.length (qL k r w z))) ∧ (kM (List.length (qL k r w z) : Int)) ∧ (kM 0) ∧ (((kN ([] : List Bx)) : List D) = ([] : List D))) zk ⟨rfl, rfl, rfl, rfl, rfl, rfl, rfl, rfl, rfl, (by rfl)⟩ ?_
 rintro ⟨⟨i, q, o⟩, hinv0⟩
 obtain ⟨hi, hI, hq, hqm, hO⟩ : (i ≤ List.length (qL k r w z)) ∧ (agL d a (qL k r w z) i = o) ∧ (List.length o = q) ∧ (q ≤ i * 4096) ∧ (BsW o) := hinv0
 refine qW (l := [(0, .e (k9 a n)), (2, iV d), (7, oV 2 0 q 4), (15, .e (yL (qL k r w z))), (16, uV (List.length (qL k r w z))), (17, uV i)]) (g := [(2, some (63, .ds (kN o)))]) (nx := 3) rfl rfl rfl ?_
 by_cases hx2 : (((i : Nat) : Int) < (((List.length (qL k r w z)) : Nat) : Int))
 ·refine kH [.b true] (((i : Int) < (List.length (qL k r w z) : Int))) [(0, .e (k9 a n)), (2, iV d), (7, oV 2 0 q 4), (15, .e (yL (qL k r w z))), (16, uV (List.length (qL k r w z))), (17, uV i), (18, bV true)] [(2, some (63, .ds (kN o)))] 3 zo ?_
  refine AW.seq ?_
  refine vL ?_
  refine AW.seq ?_
  refine AW.block ?_
  obtain ⟨hx3, hx4, hx5, hx6, hx7⟩ := BsW.at (qD : BsW (qL k r w z)) (i)
  refine kH [.n i, .ds (yI (qL k r w z) i), .no, .no] ((kM (i : Int)) ∧ (i < (List.length (qL k r w z))) ∧ (List.take 4 (List.drop (i * 4) (kN (qL k r w z))) = (yI (qL k r w z) i)) ∧ (((yI (qL k r w z) i) : List D).length = 4)) [(0, .e (k9 a n)), (2, iV d), (7, oV 2 0 q 4), (9, rV 3 0), (15, .e (yL (qL k r w z))), (16, uV (List.length (qL k r w z))), (17, uV i)] [(2, some (63, .ds (kN o))), (3, some (63, (eT k r w z i)))] 4 ⟨rfl, zo, (vB zo), rfl⟩ ?_
  refine kS [.no, .no, .no] True [(0, .e (k9 a n)), (2, iV d), (7, oV 2 0 q 4), (9, rV 3 0), (15, .e (yL (qL k r w z))), (16, uV (List.length (qL k r w z))), (17, uV i), (21, .e (k9 a n)), (22, uV n), (23, iV 0)] trivial ?_
  refine AW.block ?_
  refine k8 0 hcx (fun (x : {x : Nat × Nat × List Bx // match x with | (j, p, x) => (j ≤ n) ∧ (agJ d a (qL k r w z) i j = x) ∧ (List.length x = p) ∧ (p ≤ i * 4096 + j * 64) ∧ (BsW x)}) => match x with | ⟨(j, p, x), _⟩ => (⟨[(0, .e (k9 a n)), (2, iV d), (7, oV 4 0 p 4), (9, rV 3 0), (15, .e (yL (qL k r w z))), (16, uV (List.length (qL k r w z))), (17, uV i), (21, .e (k9 a n)), (22, uV n), (23, uV j)], [(4, some (63, .ds (kN x))), (3, some (63, (eT k r w z i)))], 5⟩ : ES)) (fun x => match x with | ⟨(j, p, x), _⟩ => n - j) ⟨((0 : Nat), (q : Nat), (o : List Bx)), ⟨zo, (u0o hI), (by assumption), zo, hO⟩⟩ [(4, 2)] (P := (kJ (kN a)) ∧ (kG n) ∧ (kM d) ∧ (kG 0) ∧ (kG q) ∧ (kG 0) ∧ (kJ (kN (qL k r w z))) ∧ (kG (List.length (qL k r w z))) ∧ (kM (List.length (qL k r w z) : Int)) ∧ (kM (i : Int)) ∧ (kJ (kN a)) ∧ (kG n) ∧ (kM (n : Int)) ∧ (kM 0) ∧ (kJ (kN o)) ∧ (kJ (yI (qL k r w z) i))) zk ⟨rfl, rfl, rfl, rfl, rfl, rfl, rfl, rfl, rfl, rfl, rfl, rfl, rfl, rfl, rfl, rfl⟩ ?_
  rintro ⟨⟨j, p, x⟩, hinv1⟩
  obtain ⟨hj, hJ, hp, hpm, hX⟩ : (j ≤ n) ∧ (agJ d a (qL k r w z) i j = x) ∧ (List.length x = p) ∧ (p ≤ i * 4096 + j * 64) ∧ (BsW x) := hinv1
  refine qW (l := [(0, .e (k9 a n)), (2, iV d), (7, oV 4 0 p 4), (9, rV 3 0), (15, .e (yL (qL k r w z))), (16, uV (List.length (qL k r w z))), (17, uV i), (21, .e (k9 a n)), (22, uV n), (23, uV j)]) (g := [(4, some (63, .ds (kN x))), (3, some (63, (eT k r w z i)))]) (nx := 5) rfl rfl rfl ?_
  by_cases hx8 : (((j : Nat) : Int) < ((n : Nat) : Int))
  ·refine kH [.b true] (((j : Int) < (n : Int))) [(0, .e (k9 a n)), (2, iV d), (7, oV 4 0 p 4), (9, rV 3 0), (15, .e (yL (qL k r w z))), (16, uV (List.length (qL k r w z))), (17, uV i), (21, .e (k9 a n)), (22, uV n), (23, uV j), (24, bV true)] [(3, some (63, (eT k r w z i))), (4, some (63, .ds (kN x)))] 5 zo ?_
   refine AW.seq ?_
   refine vL ?_
   refine AW.seq ?_
   refine AW.block ?_
   obtain ⟨hx9, hx10, hx11, hx12, hx13⟩ := BsW.at (qD : BsW a) (j)
   refine kH [.n j, .ds (yI a j), .no, .no] ((kM (j : Int)) ∧ (j < n) ∧ (List.take 4 (List.drop (j * 4) (kN a)) = (yI a j)) ∧ (((yI a j) : List D).length = 4)) [(0, .e (k9 a n)), (2, iV d), (7, oV 4 0 p 4), (9, rV 3 0), (11, rV 5 0), (15, .e (yL (qL k r w z))), (16, uV (List.length (qL k r w z))), (17, uV i), (21, .e (k9 a n)), (22, uV n), (23, uV j)] [(3, some (63, (eT k r w z i))), (4, some (63, .ds (kN x))), (5, some (63, .ds (yI a j)))] 6 ⟨rfl, zo, (vB zo), rfl⟩ ?_
   have hx14 : (((0 : Int) ≤ (eN ([(kE (kQ a j) (kY a j) (kV a j) (kT a j) (kX a j) (kU a j))] : List Bx) ([(kE (zK d (kQ (qL k r w z) i) (kQ a j)) (u6 d k r w z i a j) (zN d 2 (kV (qL k r w z) i) (kV a j)) (u5 d k r w z i a j) (u4 d k r w z i a j) (zN d 8 (kU (qL k r w z) i) (kU a j)))] : List Bx))) ∧ ((eN ([(kE (kQ a j) (kY a j) (kV a j) (kT a j) (kX a j) (kU a j))] : List Bx) ([(kE (zK d (kQ (qL k r w z) i) (kQ a j)) (u6 d k r w z i a j) (zN d 2 (kV (qL k r w z) i) (kV a j)) (u5 d k r w z i a j) (u4 d k r w z i a j) (zN d 8 (kU (qL k r w z) i) (kU a j)))] : List Bx)) ≤ 3)) := sM _ _
   have hx15 : ((List.length (yE ([(kE (kQ a j) (kY a j) (kV a j) (kT a j) (kX a j) (kU a j))] : List Bx) ([(kE (zK d (kQ (qL k r w z) i) (kQ a j)) (u6 d k r w z i a j) (zN d 2 (kV (qL k r w z) i) (kV a j)) (u5 d k r w z i a j) (u4 d k r w z i a j) (zN d 8 (kU (qL k r w z) i) (kU a j)))] : List Bx))) ≤ 64) := sL _ _
   refine kH (.no :: .no :: .no :: .call [] (.tup [.c (.d (D.sl (kN (yE ([(kE (kQ a j) (kY a j) (kV a j) (kT a j) (kX a j) (kU a j))] : List Bx) ([(kE (zK d (kQ (qL k r w z) i) (kQ a j)) (u6 d k r w z i a j) (zN d 2 (kV (qL k r w z) i) (kV a j)) (u5 d k r w z i a j) (u4 d k r w z i a j) (zN d 8 (kU (qL k r w z) i) (kU a j)))] : List Bx))) (List.length (yE ([(kE (kQ a j) (kY a j) (kV a j) (kT a j) (kX a j) (kU a j))] : List Bx) ([(kE (zK d (kQ (qL k r w z) i) (kQ a j)) (u6 d k r w z i a j) (zN d 2 (kV (qL k r w z) i) (kV a j)) (u5 d k r w z i a j) (u4 d k r w z i a j) (zN d 8 (kU (qL k r w z) i) (kU a j)))] : List Bx))))), iE (eN ([(kE (kQ a j) (kY a j) (kV a j) (kT a j) (kX a j) (kU a j))] : List Bx) ([(kE (zK d (kQ (qL k r w z) i) (kQ a j)) (u6 d k r w z i a j) (zN d 2 (kV (qL k r w z) i) (kV a j)) (u5 d k r w z i a j) (u4 d k r w z i a j) (zN d 8 (kU (qL k r w z) i) (kU a j)))] : List Bx))]) [] 0 [] none :: qE 5 []) _ [(0, .e (k9 a n)), (2, iV d), (7, oV 4 0 p 4), (9, rV 3 0), (12, qC (kN (yE ([(kE (kQ a j) (kY a j) (kV a j) (kT a j) (kX a j) (kU a j))] : List Bx) ([(kE (zK d (kQ (qL k r w z) i) (kQ a j)) (u6 d k r w z i a j) (zN d 2 (kV (qL k r w z) i) (kV a j)) (u5 d k r w z i a j) (u4 d k r w z i a j) (zN d 8 (kU (qL k r w z) i) (kU a j)))] : List Bx))) (List.length (yE ([(kE (kQ a j) (kY a j) (kV a j) (kT a j) (kX a j) (kU a j))] : List Bx) ([(kE (zK d (kQ (qL k r w z) i) (kQ a j)) (u6 d k r w z i a j) (zN d 2 (kV (qL k r w z) i) (kV a j)) (u5 d k r w z i a j) (u4 d k r w z i a j) (zN d 8 (kU (qL k r w z) i) (kU a j)))] : List Bx)))), (15, .e (yL (qL k r w z))), (16, uV (List.length (qL k r w z))), (17, uV i), (21, .e (k9 a n)), (22, uV n), (23, uV j)] [(3, some (63, (eT k r w z i))), (4, some (63, .ds (kN x)))] 6 (u15 (kQ a j) (kY a j) (kV a j) (kT a j) (List.length (kT a j)) (kX a j) (kU a j) (kQ (qL k r w z) i) (kY (qL k r w z) i) (kV (qL k r w z) i) (kT (qL k r w z) i) (List.length (kT (qL k r w z) i)) (kX (qL k r w z) i) (kU (qL k r w z) i) d zo zo rfl zo zo zo (BsW.ms (qD : BsW a) _) zo zo rfl zo zo zo (BsW.ms (qD : BsW (qL k r w z)) _)) ?_
   refine aC [.no, .no, .ap none (p + (List.length (yE ([(kE (kQ a j) (kY a j) (kV a j) (kT a j) (kX a j) (kU a j))] : List Bx) ([(kE (zK d (kQ (qL k r w z) i) (kQ a j)) (u6 d k r w z i a j) (zN d 2 (kV (qL k r w z) i) (kV a j)) (u5 d k r w z i a j) (u4 d k r w z i a j) (zN d 8 (kU (qL k r w z) i) (kU a j)))] : List Bx)))) (kN (x ++ (yE ([(kE (kQ a j) (kY a j) (kV a j) (kT a j) (kX a j) (kU a j))] : List Bx) ([(kE (zK d (kQ (qL k r w z) i) (kQ a j)) (u6 d k r w z i a j) (zN d 2 (kV (qL k r w z) i) (kV a j)) (u5 d k r w z i a j) (u4 d k r w z i a j) (zN d 8 (kU (qL k r w z) i) (kU a j)))] : List Bx)))), .no] (((kN (yE ([(kE (kQ a j) (kY a j) (kV a j) (kT a j) (kX a j) (kU a j))] : List Bx) ([(kE (zK d (kQ (qL k r w z) i) (kQ a j)) (u6 d k r w z i a j) (zN d 2 (kV (qL k r w z) i) (kV a j)) (u5 d k r w z i a j) (u4 d k r w z i a j) (zN d 8 (kU (qL k r w z) i) (kU a j)))] : List Bx))).length = (List.length (yE ([(kE (kQ a j) (kY a j) (kV a j) (kT a j) (kX a j) (kU a j))] : List Bx) ([(kE (zK d (kQ (qL k r w z) i) (kQ a j)) (u6 d k r w z i a j) (zN d 2 (kV (qL k r w z) i) (kV a j)) (u5 d k r w z i a j) (u4 d k r w z i a j) (zN d 8 (kU (qL k r w z) i) (kU a j)))] : List Bx))) * 4) ∧ (((kN x) : List D).length = p * 4) ∧ ((p + (List.length (yE ([(kE (kQ a j) (kY a j) (kV a j) (kT a j) (kX a j) (kU a j))] : List Bx) ([(kE (zK d (kQ (qL k r w z) i) (kQ a j)) (u6 d k r w z i a j) (zN d 2 (kV (qL k r w z) i) (kV a j)) (u5 d k r w z i a j) (u4 d k r w z i a j) (zN d 8 (kU (qL k r w z) i) (kU a j)))] : List Bx)))) * 80 ≤ 140737488355328) ∧ (p + (List.length (yE ([(kE (kQ a j) (kY a j) (kV a j) (kT a j) (kX a j) (kU a j))] : List Bx) ([(kE (zK d (kQ (qL k r w z) i) (kQ a j)) (u6 d k r w z i a j) (zN d 2 (kV (qL k r w z) i) (kV a j)) (u5 d k r w z i a j) (u4 d k r w z i a j) (zN d 8 (kU (qL k r w z) i) (kU a j)))] : List Bx))) = (p + (List.length (yE ([(kE (kQ a j) (kY a j) (kV a j) (kT a j) (kX a j) (kU a j))] : List Bx) ([(kE (zK d (kQ (qL k r w z) i) (kQ a j)) (u6 d k r w z i a j) (zN d 2 (kV (qL k r w z) i) (kV a j)) (u5 d k r w z i a j) (u4 d k r w z i a j) (zN d 8 (kU (qL k r w z) i) (kU a j)))] : List Bx))))) ∧ (((kN x) : List D) ++ (kN (yE ([(kE (kQ a j) (kY a j) (kV a j) (kT a j) (kX a j) (kU a j))] : List Bx) ([(kE (zK d (kQ (qL k r w z) i) (kQ a j)) (u6 d k r w z i a j) (zN d 2 (kV (qL k r w z) i) (kV a j)) (u5 d k r w z i a j) (u4 d k r w z i a j) (zN d 8 (kU (qL k r w z) i) (kU a j)))] : List Bx))) = (kN (x ++ (yE ([(kE (kQ a j) (kY a j) (kV a j) (kT a j) (kX a j) (kU a j))] : List Bx) ([(kE (zK d (kQ (qL k r w z) i) (kQ a j)) (u6 d k r w z i a j) (zN d 2 (kV (qL k r w z) i) (kV a j)) (u5 d k r w z i a j) (u4 d k r w z i a j) (zN d 8 (kU (qL k r w z) i) (kU a j)))] : List Bx)))))) [(0, .e (k9 a n)), (2, iV d), (7, oV 6 0 (p + (List.length (yE ([(kE (kQ a j) (kY a j) (kV a j) (kT a j) (kX a j) (kU a j))] : List Bx) ([(kE (zK d (kQ (qL k r w z) i) (kQ a j)) (u6 d k r w z i a j) (zN d 2 (kV (qL k r w z) i) (kV a j)) (u5 d k r w z i a j) (u4 d k r w z i a j) (zN d 8 (kU (qL k r w z) i) (kU a j)))] : List Bx)))) 4), (9, rV 3 0), (15, .e (yL (qL k r w z))), (16, uV (List.length (qL k r w z))), (17, uV i), (21, .e (k9 a n)), (22, uV n), (23, uV j)] [(3, some (63, (eT k r w z i))), (6, some (63, .ds (kN (x ++ (yE ([(kE (kQ a j) (kY a j) (kV a j) (kT a j) (kX a j) (kU a j))] : List Bx) ([(kE (zK d (kQ (qL k r w z) i) (kQ a j)) (u6 d k r w z i a j) (zN d 2 (kV (qL k r w z) i) (kV a j)) (u5 d k r w z i a j) (u4 d k r w z i a j) (zN d 8 (kU (qL k r w z) i) (kU a j)))] : List Bx))))))] 7 ⟨gH, gH, zo, zo, (l6 _ _).symm⟩ ?_
   refine yA [.w, .no] (u3 ((j : Int) + 1)) [(0, .e (k9 a n)), (2, iV d), (7, oV 6 0 (p + (List.length (yE ([(kE (kQ a j) (kY a j) (kV a j) (kT a j) (kX a j) (kU a j))] : List Bx) ([(kE (zK d (kQ (qL k r w z) i) (kQ a j)) (u6 d k r w z i a j) (zN d 2 (kV (qL k r w z) i) (kV a j)) (u5 d k r w z i a j) (u4 d k r w z i a j) (zN d 8 (kU (qL k r w z) i) (kU a j)))] : List Bx)))) 4), (9, rV 3 0), (15, .e (yL (qL k r w z))), (16, uV (List.length (qL k r w z))), (17, uV i), (21, .e (k9 a n)), (22, uV n), (23, iV (↑j + 1))] ⟨by omega, by omega⟩ ?_
   exact kW ⟨(((j + 1) : Nat), ((p + (List.length (yE ([(kE (kQ a j) (kY a j) (kV a j) (kT a j) (kX a j) (kU a j))] : List Bx) ([(kE (zK d (kQ (qL k r w z) i) (kQ a j)) (u6 d k r w z i a j) (zN d 2 (kV (qL k r w z) i) (kV a j)) (u5 d k r w z i a j) (u4 d k r w z i a j) (zN d 8 (kU (qL k r w z) i) (kU a j)))] : List Bx)))) : Nat), ((x ++ (yE ([(kE (kQ a j) (kY a j) (kV a j) (kT a j) (kX a j) (kU a j))] : List Bx) ([(kE (zK d (kQ (qL k r w z) i) (kQ a j)) (u6 d k r w z i a j) (zN d 2 (kV (qL k r w z) i) (kV a j)) (u5 d k r w z i a j) (u4 d k r w z i a j) (zN d 8 (kU (qL k r w z) i) (kU a j)))] : List Bx))) : List Bx)), ⟨zo, (u0m hJ), (by (simp only [qB, qA, qS, qV, q6, List.length_append, List.length_cons, List.length_nil] <;> omega)), zo, (hX.app (k6u hW _ _))⟩⟩ [(4, 6)] (P := (kJ (kN a)) ∧ (kG n) ∧ (kM d) ∧ (kG 0) ∧ (kG (p + (List.length (yE ([(kE (kQ a j) (kY a j) (kV a j) (kT a j) (kX a j) (kU a j))] : List Bx) ([(kE (zK d (kQ (qL k r w z) i) (kQ a j)) (u6 d k r w z i a j) (zN d 2 (kV (qL k r w z) i) (kV a j)) (u5 d k r w z i a j) (u4 d k r w z i a j) (zN d 8 (kU (qL k r w z) i) (kU a j)))] : List Bx))))) ∧ (kG 0) ∧ (kJ (kN (qL k r w z))) ∧ (kG (List.length (qL k r w z))) ∧ (kM (List.length (qL k r w z) : Int)) ∧ (kM (i : Int)) ∧ (kJ (kN a)) ∧ (kG n) ∧ (kM (n : Int)) ∧ (bU j) ∧ (kJ (kN (x ++ (yE ([(kE (kQ a j) (kY a j) (kV a j) (kT a j) (kX a j) (kU a j))] : List Bx) ([(kE (zK d (kQ (qL k r w z) i) (kQ a j)) (u6 d k r w z i a j) (zN d 2 (kV (qL k r w z) i) (kV a j)) (u5 d k r w z i a j) (u4 d k r w z i a j) (zN d 8 (kU (qL k r w z) i) (kU a j)))] : List Bx))))) ∧ (kJ (yI (qL k r w z) i))) zk ⟨rfl, rfl, rfl, rfl, rfl, rfl, rfl, rfl, rfl, rfl, rfl, rfl, rfl, (by rfl), rfl, rfl⟩ (show n - (j + 1) < n - j from zo)
  ·refine kH [.b false] (¬ ((j : Int) < (n : Int))) [(0, .e (k9 a n)), (2, iV d), (7, oV 4 0 p 4), (9, rV 3 0), (15, .e (yL (qL k r w z))), (16, uV (List.length (qL k r w z))), (17, uV i), (21, .e (k9 a n)), (22, uV n), (23, uV j), (24, bV false)] [(3, some (63, (eT k r w z i))), (4, some (63, .ds (kN x)))] 5 zo ?_
   refine AW.seq ?_
   refine zf ?_
   refine AW.exit ?_
   refine aC [.w, .no] (u3 ((i : Int) + 1)) [(0, .e (k9 a n)), (2, iV d), (7, oV 4 0 p 4), (15, .e (yL (qL k r w z))), (16, uV (List.length (qL k r w z))), (17, iV (↑i + 1))] [(4, some (63, .ds (kN x)))] 5 ⟨by omega, by omega⟩ ?_
   exact kW ⟨(((i + 1) : Nat), (p : Nat), (x : List Bx)), ⟨zo, (u68 hJ zo), (by assumption), zo, (by assumption)⟩⟩ [(2, 4)] (P := (kJ (kN a)) ∧ (kG n) ∧ (kM d) ∧ (kG 0) ∧ (kG p) ∧ (kJ (kN (qL k r w z))) ∧ (kG (List.length (qL k r w z))) ∧ (kM (List.length (qL k r w z) : Int)) ∧ (bU i) ∧ (kJ (kN x))) zk ⟨rfl, rfl, rfl, rfl, rfl, rfl, rfl, rfl, (by rfl), rfl⟩ (show List.length (qL k r w z) - (i + 1) < List.length (qL k r w z) - i from zo)
 ·refine kH [.b false] (¬ ((i : Int) < (List.length (qL k r w z) : Int))) [(0, .e (k9 a n)), (2, iV d), (7, oV 2 0 q 4), (15, .e (yL (qL k r w z))), (16, uV (List.length (qL k r w z))), (17, uV i), (18, bV false)] [(2, some (63, .ds (kN o)))] 3 zo ?_
  refine AW.seq ?_
  refine zf ?_
  refine AW.exit ?_
  refine kH [.no, .no] True [(6, oV 2 0 q 4)] [(2, some (63, .ds (kN o)))] 3 trivial ?_
  refine AW.freeze 2 (l' := [(6, .e (k9 o q))]) (g' := []) rfl (FzS.cons rfl (.e (.c (@FzC.own 2 ((kN o) : List D) 0 q 4 true ((kN o) : List D) zU gH))) FzS.nil) FzG.nil ?_
  have hz1 : oN d a (qL k r w z) = o := by have h9 := hI; rw [show i = List.length (qL k r w z) by omega] at h9; exact h9
  refine AW.ret ?_
  exact kA (.inr rfl) [] (P := (((kN (oN d a (qL k r w z))) : List D) = (kN o)) ∧ (((List.length (oN d a (qL k r w z))) : Nat) = q)) zk ⟨(by (rw [hz1]; done)), (by (rw [hz1]; omega))⟩
theorem u6a (x : Int)  : Fun 28 [iE x] (kF []) 0 (.e (.agg [iC 4, .d (D.sl (dI .i64 ([x, x] : List Int)) 1), .d (D.sl (kI ([([3] : List Int)] : List (List Int))) 1), .d (D.sl (dI .i64 ([64, 64] : List Int)) 1)])) (kF []) 0 := by
 refine Fun.mk (n := 14) Tryz.func28 rfl rfl (Nat.le_of_ble_eq_true rfl) ?_
 intro cx hcx
 refine kH [.no] True [(0, iV x), (2, rV 0 0)] [(0, some (63, .ds [iD 0, qI, qI, qI]))] 1 trivial ?_
 refine kH (qE 5 ((.fz (.no)) :: qE 6 [])) (([iD 3] : List D).length = 1 * 1) [(2, rV 0 0)] [(0, some (63, .cs [iC 4, .own 1 0 1 2 true, .own 3 0 1 1 true, .own 4 0 1 2 true])), (1, some (95, .ds [iD x, iD x])), (3, some (38, .ds [D.sl [iD 3] 1])), (4, some (95, .ds [iD 64, iD 64]))] 5 gH ?_
 refine AW.freeze 1 (l' := [(2, rV 0 0)]) (g' := [(0, some (63, .cs [iC 4, .d (D.sl [iD x, iD x] 1), .own 3 0 1 1 true, .own 4 0 1 2 true])), (3, some (38, .ds [D.sl [iD 3] 1])), (4, some (95, .ds [iD 64, iD 64]))]) rfl (FzS.cons rfl (.same _) FzS.nil) (FzG.to (bc := .cs [iC 4, .own 1 0 1 2 true, .own 3 0 1 1 true, .own 4 0 1 2 true]) rfl (by rfl) (FzL.cons (.same _) (FzL.cons (@FzC.own 1 ([iD x, iD x] : List D) 0 (1 : Nat) 2 true ([iD x, iD x] : List D) zU gH) (FzL.cons (.same _) (FzL.cons (.same _) FzL.nil)))) (uI rfl rfl (uI rfl rfl FzG.nil))) ?_
 refine AW.freeze 3 (l' := [(2, rV 0 0)]) (g' := [(0, some (63, .cs [iC 4, .d (D.sl [iD x, iD x] 1), .d (D.sl [D.sl [iD 3] 1] 1), .own 4 0 1 2 true])), (4, some (95, .ds [iD 64, iD 64]))]) rfl (FzS.cons rfl (.same _) FzS.nil) (FzG.to (bc := .cs [iC 4, .d (D.sl [iD x, iD x] 1), .own 3 0 1 1 true, .own 4 0 1 2 true]) rfl (by rfl) (FzL.cons (.same _) (FzL.cons (.same _) (FzL.cons (@FzC.own 3 ([D.sl [iD 3] 1] : List D) 0 (1 : Nat) 1 true ([D.sl [iD 3] 1] : List D) (by rw [List.drop_zero, Nat.mul_one, List.take_of_length_le (by (simp only [qB, qA, qS, qV, q6, qQ, List.length_append, List.length_cons, List.length_nil, List.length_take, List.length_drop, List.length_replicate, List.length_set, List.length_map, List.length_reverse, Nat.mul_one] <;> omega))]) gH) (FzL.cons (.same _) FzL.nil)))) (uI rfl rfl FzG.nil)) ?_
 refine AW.freeze 4 (l' := [(2, rV 0 0)]) (g' := [(0, some (63, .ds [iD 4, D.sl [iD x, iD x] 1, D.sl [D.sl [iD 3] 1] 1, D.sl [iD 64, iD 64] 1]))]) rfl (FzS.cons rfl (.same _) FzS.nil) (FzG.to (bc := .cs [iC 4, .d (D.sl [iD x, iD x] 1), .d (D.sl [D.sl [iD 3] 1] 1), .own 4 0 1 2 true]) rfl (by rfl) (FzL.cons (.same _) (FzL.cons (.same _) (FzL.cons (.same _) (FzL.cons (@FzC.own 4 ([iD 64, iD 64] : List D) 0 (1 : Nat) 2 true ([iD 64, iD 64] : List D) zU gH) FzL.nil)))) FzG.nil) ?_
 refine AW.ret ?_
 exact kA (.inr rfl) [] (P := (kM 4) ∧ (((dI .i64 ([x, x] : List Int)) : List D) = [iD x, iD x]) ∧ (kG 1) ∧ (((kI ([([3] : List Int)] : List (List Int))) : List D) = [D.sl [iD 3] 1]) ∧ (kG 1) ∧ (((dI .i64 ([64, 64] : List Int)) : List D) = [iD 64, iD 64]) ∧ (kG 1)) zk ⟨rfl, (by rfl), rfl, (by rfl), rfl, (by rfl), rfl⟩
theorem mA {p : Prop} (h : p := by (simp only [qB, qA, qS, qV, q6, y4, yK, vK, qQ, List.length_append, List.length_cons, List.length_nil, List.length_take, List.length_drop, List.length_replicate, List.length_set, List.length_map, List.length_reverse, Nat.mul_one] <;> omega)) : p := h
theorem u17 (cs : List Co) (n : Nat) (hn : List.length cs = n) (h1 : n ≤ 1000) (hW : ChW cs) : Fun 47 [.c (.d (D.sl (qT 0 cs) n)), .c (.fn 48 [])] (kF []) 0 (oV 0 0 n 4) (kF [(0, some (42, .ds (qT 0 cs)))]) 1 := by
 refine Fun.mk (n := 22) Tryz.func47 rfl rfl (Nat.le_of_ble_eq_true rfl) ?_
 intro cx hcx
 refine kH [.no] True [(0, qC (qT 0 cs) n), (1, .e (.c (.fn 48 [])))] [] 0 trivial ?_
 refine kS [.no] True [(0, qC (qT 0 cs) n), (1, .e (.c (.fn 48 []))), (5, nV)] trivial ?_
 refine AW.seq ?_
 refine kS [.no, .no, .no] True [(1, .e (.c (.fn 48 []))), (5, nV), (8, qC (qT 0 cs) n), (9, uV n), (10, iV 0)] trivial ?_
 refine AW.block ?_
 refine AW.adoptS 5 4 42 rfl ?_
 refine k8 0 hcx (fun (x : {x : Nat × List Co // match x with | (i, o) => (i ≤ n) ∧ (o = List.take i cs) ∧ (List.length o = i) ∧ (ChW o)}) => match x with | ⟨(i, o), _⟩ => (⟨[(1, .e (.c (.fn 48 []))), (5, oV 1 0 i 4), (8, qC (qT 0 cs) n), (9, uV n), (10, uV i)], [(1, some (42, .ds (qT 0 o)))], 2⟩ : ES)) (fun x => match x with | ⟨(i, o), _⟩ => n - i) ⟨((0 : Nat), (([] : List Co) : List Co)), ⟨zo, rfl, rfl, ChW.nil⟩⟩ [(1, 0)] (P := (kG 0) ∧ (kG 0) ∧ (kJ (qT 0 cs)) ∧ (kG n) ∧ (kM (n : Int)) ∧ (kM 0) ∧ (((qT 0 ([] : List Co)) : List D) = ([] : List D))) zk ⟨rfl, rfl, rfl, rfl, rfl, rfl, (by rfl)⟩ ?_
 rintro ⟨⟨i, o⟩, hinv0⟩
 obtain ⟨hi, ho, hl, hO⟩ : (i ≤ n) ∧ (o = List.take i cs) ∧ (List.length o = i) ∧ (ChW o) := hinv0
 refine qW (l := [(1, .e (.c (.fn 48 []))), (5, oV 1 0 i 4), (8, qC (qT 0 cs) n), (9, uV n), (10, uV i)]) (g := [(1, some (42, .ds (qT 0 o)))]) (nx := 2) rfl rfl rfl ?_
 by_cases hx1 : (((i : Nat) : Int) < ((n : Nat) : Int))
 ·refine kH [.b true] (((i : Int) < (n : Int))) [(1, .e (.c (.fn 48 []))), (5, oV 1 0 i 4), (8, qC (qT 0 cs) n), (9, uV n), (10, uV i), (11, bV true)] [(1, some (42, .ds (qT 0 o)))] 2 zo ?_
  refine AW.seq ?_
  refine vL ?_
  refine AW.seq ?_
  refine AW.block ?_
  have hx2 : ((List.length (uJ cs i)) ≤ 1000000) := (ChW.get (qD : ChW cs) (i))
  refine kH [.n i, .ds [iD (aB cs i), iD (vS cs i), dl (uJ cs i) (List.length (uJ cs i)), iD (aA cs i)], .no, .no] ((kM (i : Int)) ∧ (i < n) ∧ (List.take 4 (List.drop (i * 4) (qT 0 cs)) = [iD (aB cs i), iD (vS cs i), dl (uJ cs i) (List.length (uJ cs i)), iD (aA cs i)]) ∧ (([iD (aB cs i), iD (vS cs i), dl (uJ cs i) (List.length (uJ cs i)), iD (aA cs i)] : List D).length = 4)) [(1, .e (.c (.fn 48 []))), (5, oV 1 0 i 4), (7, rV 2 0), (8, qC (qT 0 cs) n), (9, uV n), (10, uV i)] [(1, some (42, .ds (qT 0 o))), (2, some (42, .ds [iD (aB cs i), iD (vS cs i), dl (uJ cs i) (List.length (uJ cs i)), iD (aA cs i)]))] 3 ⟨rfl, zo, (lF (i := i) zo), rfl⟩ ?_
  refine aC [.no, .no, .no, .call [] (.e (.agg [iC (aB cs i), iC (vS cs i), .d (dl (uJ cs i) (List.length (uJ cs i))), iC (aA cs i)])) [] 0 [] none, .no, .ap none (i + 1) (qT 0 (o ++ ([(sD (aB cs i) (vS cs i) (uJ cs i) (aA cs i))] : List Co))), .no] ((_) ∧ ([iD (aB cs i), iD (vS cs i), dl (uJ cs i) (List.length (uJ cs i)), iD (aA cs i)].length = 1 * 4) ∧ (((qT 0 o) : List D).length = i * 4) ∧ ((i + 1) * 48 ≤ 140737488355328) ∧ (i + 1 = (i + 1)) ∧ (((qT 0 o) : List D) ++ [iD (aB cs i), iD (vS cs i), dl (uJ cs i) (List.length (uJ cs i)), iD (aA cs i)] = (qT 0 (o ++ ([(sD (aB cs i) (vS cs i) (uJ cs i) (aA cs i))] : List Co))))) [(1, .e (.c (.fn 48 []))), (5, oV 4 0 (i + 1) 4), (8, qC (qT 0 cs) n), (9, uV n), (10, uV i)] [(4, some (42, .ds (qT 0 (o ++ ([(sD (aB cs i) (vS cs i) (uJ cs i) (aA cs i))] : List Co)))))] 5 ⟨(zB (aB cs i) (vS cs i) (uJ cs i) (List.length (uJ cs i)) (aA cs i) rfl zo), mA, mA, zo, zo, (u8v o (aB cs i) (vS cs i) (uJ cs i) (aA cs i) (List.length (uJ cs i)) (by rfl))⟩ ?_
  refine yA [.w, .no] (u3 ((i : Int) + 1)) [(1, .e (.c (.fn 48 []))), (5, oV 4 0 (i + 1) 4), (8, qC (qT 0 cs) n), (9, uV n), (10, iV (↑i + 1))] ⟨by omega, by omega⟩ ?_
  exact kW ⟨(((i + 1) : Nat), ((o ++ ([(sD (aB cs i) (vS cs i) (uJ cs i) (aA cs i))] : List Co)) : List Co)), ⟨zo, (u3d ho zo), (by (simp only [qB, qA, qS, qV, q6, y4, yK, vK, List.length_append, List.length_cons, List.length_nil] <;> omega)), (ChW.app hO (ChW.one (ChW.get hW _)))⟩⟩ [(1, 4)] (P := (kG 0) ∧ (kG (i + 1)) ∧ (kJ (qT 0 cs)) ∧ (kG n) ∧ (kM (n : Int)) ∧ (bU i) ∧ (kJ (qT 0 (o ++ ([(sD (aB cs i) (vS cs i) (uJ cs i) (aA cs i))] : List Co))))) zk ⟨rfl, rfl, rfl, rfl, rfl, (by rfl), rfl⟩ (show n - (i + 1) < n - i from zo)
 ·refine kH [.b false] (¬ ((i : Int) < (n : Int))) [(1, .e (.c (.fn 48 []))), (5, oV 1 0 i 4), (8, qC (qT 0 cs) n), (9, uV n), (10, uV i), (11, bV false)] [(1, some (42, .ds (qT 0 o)))] 2 zo ?_
  refine AW.seq ?_
  refine zf ?_
  refine AW.exit ?_
  refine kH [.no, .no] True [(4, oV 1 0 i 4)] [(1, some (42, .ds (qT 0 o)))] 2 trivial ?_
  obtain rfl : n = i := (by omega)
  have hz1 : o = cs := by rw [ho, ← hn]; exact List.take_length
  refine AW.ret ?_
  exact kA (.inr rfl) [(0, 1)] (P := (kG 0) ∧ (kG n) ∧ (((qT 0 cs) : List D) = (qT 0 o))) zk ⟨rfl, rfl, (by (rw [hz1]; done))⟩
abbrev yO (ps : List Pt) (n : Nat) (k : Int) (r : Int) (w : List Int) (z : Int) (j : Nat) := beM (vJ ps n k r w z j) (vX ps n k r w z j) (vG ps n k r w z j) (y3 ps n k r w z j) (vF ps n k r w z j)
abbrev eS (ps : List Pt) (n : Nat) (k : Int) (r : Int) (w : List Int) (z : Int) (j : Nat) : BC := .ds [iD (vX ps n k r w z j), iD (vG ps n k r w z j), D.sl (dI .i64 (y3 ps n k r w z j)) (List.length (y3 ps n k r w z j)), iD (vF ps n k r w z j)]
theorem u1a (ps : List Pt) (n : Nat) (k r : Int) (w : List Int) (c : Nat) (z : Int) (hn : List.length ps = n) (h1 : n ≤ 1000) (hW : PsW ps) (hw : List.length w = c) (h5 : c ≤ 1000000) (hr : -9223372036854775808 ≤ r ∧ r ≤ 9223372036854775807) (hz : -9223372036854775808 ≤ z ∧ z ≤ 9223372036854775807) (hG : ∀ j, j < n → uX ps = 0 → 1 ≤ List.length (kK (vJ ps n k r w z j))) : Fun 20 [.c (.d (D.sl (qN ps) n)), .agg [iC k, iC r, .d (D.sl (dI .i64 w) c), iC z]] (kF []) 0 (.tup [.c (.d (D.sl (qT 0 (u0 ps n k r w z)) (List.length (u0 ps n k r w z)))), .agg [iC (aY ps), iC (aZ ps)], iE (uX ps)]) (kF []) 0 := by
 refine Fun.mk (n := 68) Tryz.func20 rfl rfl (Nat.le_of_ble_eq_true rfl) ?_
 intro cx hcx
 refine kH (qE 4 []) True [(0, qC (qN ps) n), (3, rV 0 0), (5, rV 1 0)] [(0, some (42, .ds [iD k, iD r, dl w c, iD z])), (1, some (32, .ds [iD 0, iD 0]))] 2 trivial ?_
 refine kH (.no :: .call [] (.tup [.c (.d (D.sl (aF (uN ps)) (List.length (uN ps)))), .agg [iC (aY ps), iC (aZ ps)], iE (uX ps)]) [] 0 [] none :: qE 8 []) _ [(0, qC (qN ps) n), (3, rV 0 0), (5, rV 1 0), (7, qC (aF (uN ps)) (List.length (uN ps))), (8, rV 2 0), (9, iV (uX ps))] [(0, some (42, .ds [iD k, iD r, dl w c, iD z])), (1, some (32, .ds [iD 0, iD 0])), (2, some (32, .ds [iD (aY ps), iD (aZ ps)]))] 3 (u18 ps n zo zo (qD : PsW ps)) ?_
 refine AW.seq ?_
 by_cases hx1 : ((uX ps) ≠ 0)
 ·refine kS [.no, .b true] (((uX ps) ≠ 0)) [(0, qC (qN ps) n), (3, rV 0 0), (5, rV 1 0), (7, qC (aF (uN ps)) (List.length (uN ps))), (8, rV 2 0), (9, iV (uX ps)), (21, bV true)] zo ?_
  refine zt ?_
  refine kH (qE 5 []) True [(4, nV), (5, rV 1 0), (6, iV (uX ps))] [(1, some (32, .ds [iD (aY ps), iD (aZ ps)]))] 3 trivial ?_
  have hz1 := u00 (n := n) (k := k) (r := r) (w := w) (z := z) (ps := ps) (by omega)
  refine y6 (l' := [(4, qC ([] : List D) 0), (5, rV 1 0), (6, iV (uX ps))]) (g' := [(1, some (32, .ds [iD (aY ps), iD (aZ ps)]))]) (NlS.cons rfl (.e (.c .nil)) (NlS.cons rfl (.same _) (NlS.cons rfl (.same _) NlS.nil))) (fH rfl NlG.nil) ?_
  refine AW.ret ?_
  exact kA (.inr rfl) [] (P := (((qT 0 (u0 ps n k r w z)) : List D) = ([] : List D)) ∧ (((List.length (u0 ps n k r w z)) : Nat) = 0) ∧ (kM (aY ps)) ∧ (kM (aZ ps)) ∧ (kM (uX ps))) zk ⟨(by (rw [hz1]; rfl)), (by (rw [hz1]; rfl)), rfl, rfl, rfl⟩
 ·refine kS [.no, .b false] (¬ ((uX ps) ≠ 0)) [(0, qC (qN ps) n), (3, rV 0 0), (5, rV 1 0), (7, qC (aF (uN ps)) (List.length (uN ps))), (8, rV 2 0), (9, iV (uX ps)), (21, bV false)] zo ?_
  refine uO ?_
  have hx2 : BzW (uN ps) := u56 hW
  have hx3 : List.length (uN ps) = n := k2h zo hn
  refine kH [.no, .no, .mk n n (qT n ([] : List Co)), .no] ((kM (n : Int)) ∧ (kM (n : Int)) ∧ (kG n) ∧ (48 * n ≤ 281474976710656) ∧ ((List.replicate n ([iD 0, iD 0, qI, iD 0] : List D)).flatten = (qT n ([] : List Co)))) [(0, qC (qN ps) n), (3, rV 0 0), (5, rV 1 0), (7, qC (aF (uN ps)) (List.length (uN ps))), (10, oV 3 0 n 4)] [(0, some (42, .ds [iD k, iD r, dl w c, iD z])), (1, some (32, .ds [iD 0, iD 0])), (3, some (42, .ds (qT n ([] : List Co))))] 4 ⟨rfl, rfl, rfl, zo, (u5u _)⟩ ?_
  refine kH [.no, .no, .no] True [(0, qC (qN ps) n), (5, rV 1 0), (7, qC (aF (uN ps)) (List.length (uN ps))), (10, oV 3 0 n 4), (11, rV 4 0)] [(1, some (32, .ds [iD 0, iD 0])), (3, some (42, .ds (qT n ([] : List Co)))), (4, some (42, .ds [iD k, iD r, dl w c, iD z]))] 5 trivial ?_
  refine AW.seq ?_
  refine kS [.no, .no, .w, .no] (u3 ((n : Int) - 1)) [(0, qC (qN ps) n), (5, rV 1 0), (7, qC (aF (uN ps)) (List.length (uN ps))), (10, oV 3 0 n 4), (11, rV 4 0), (12, iV (↑n - 1))] ⟨by omega, by omega⟩ ?_
  refine AW.block ?_
  refine k8 0 hcx (fun (x : {x : Nat × Nat // match x with | (i, j) => (i + j = n)}) => match x with | ⟨(i, j), _⟩ => (⟨[(0, qC (qN ps) n), (5, rV 1 0), (7, qC (aF (uN ps)) (List.length (uN ps))), (10, oV 3 0 n 4), (11, rV 4 0), (12, iV ((i : Int) - 1))], [(1, some (32, .ds [iD 0, iD 0])), (3, some (42, .ds (qT i (dO ps n k r w z j)))), (4, some (42, (eS ps n k r w z j)))], 5⟩ : ES)) (fun x => match x with | ⟨(i, j), _⟩ => i) ⟨((n : Nat), (0 : Nat)), (show (n + (0 : Nat) = n) from zo)⟩ [] (P := (kJ (qN ps)) ∧ (kG n) ∧ (kG 0) ∧ (kJ (aF (uN ps))) ∧ (kG (List.length (uN ps))) ∧ (kG 0) ∧ (kG n) ∧ (kG 0) ∧ (kM ((n : Int) - 1)) ∧ (kJ [iD 0, iD 0]) ∧ (((qT n (dO ps n k r w z 0)) : List D) = (qT n ([] : List Co))) ∧ (([iD (vX ps n k r w z 0), iD (vG ps n k r w z 0), dl (y3 ps n k r w z 0) (List.length (y3 ps n k r w z 0)), iD (vF ps n k r w z 0)] : List D) = [iD k, iD r, dl w c, iD z])) zk ⟨rfl, rfl, rfl, rfl, rfl, rfl, rfl, rfl, rfl, rfl, (by rfl), (by (rw [show c = List.length w by omega]; rfl))⟩ ?_
  rintro ⟨⟨i, j⟩, hinv0⟩
  have hij : (i + j = n) := hinv0
  refine qW (l := [(0, qC (qN ps) n), (5, rV 1 0), (7, qC (aF (uN ps)) (List.length (uN ps))), (10, oV 3 0 n 4), (11, rV 4 0), (12, iV ((i : Int) - 1))]) (g := [(1, some (32, .ds [iD 0, iD 0])), (3, some (42, .ds (qT i (dO ps n k r w z j)))), (4, some (42, (eS ps n k r w z j)))]) (nx := 5) rfl rfl rfl ?_
  refine AW.seq ?_
  by_cases hx4 : ((0 : Int) ≤ (((i : Nat) : Int) - 1))
  ·refine kH [.no, .b true] (((0 : Int) ≤ ((i : Int) - 1))) [(0, qC (qN ps) n), (5, rV 1 0), (7, qC (aF (uN ps)) (List.length (uN ps))), (10, oV 3 0 n 4), (11, rV 4 0), (12, iV (↑i - 1)), (32, bV true)] [(1, some (32, .ds [iD 0, iD 0])), (3, some (42, .ds (qT i (dO ps n k r w z j)))), (4, some (42, (eS ps n k r w z j)))] 5 zo ?_
   refine vL ?_
   refine AW.seq ?_
   refine AW.block ?_
   have hx5 : (-9223372036854775808 ≤ vG ps n k r w z j ∧ vG ps n k r w z j ≤ 9223372036854775807) ∧ (-9223372036854775808 ≤ vF ps n k r w z j ∧ vF ps n k r w z j ≤ 9223372036854775807) ∧ List.length (y3 ps n k r w z j) ≤ 1000000 := k9m hW hr hz zo j
   have hx6 : ((List.length (eB (uN ps) (i - 1))) ≤ 64) := (BzW.get (qD : BzW (uN ps)) ((i - 1))).2
   refine kS [.no, .no, .n (i - 1), .d (D.sl (kN (eB (uN ps) (i - 1))) (List.length (eB (uN ps) (i - 1)))), .no] (((((i : Int) - 1) : Int) = (((i - 1) : Nat) : Int)) ∧ ((i - 1) < (List.length (uN ps))) ∧ ((List.drop (i - 1) (aF (uN ps)))[0]? = some (D.sl (kN (eB (uN ps) (i - 1))) (List.length (eB (uN ps) (i - 1)))))) [(0, qC (qN ps) n), (5, rV 1 0), (7, qC (aF (uN ps)) (List.length (uN ps))), (10, oV 3 0 n 4), (11, rV 4 0), (12, iV (↑i - 1)), (13, .e (yL (eB (uN ps) (i - 1))))] ⟨zo, zo, (u04 _ _ zo)⟩ ?_
   refine vZ hcx [(0, qC (qN ps) n), (5, rV 1 0), (7, qC (aF (uN ps)) (List.length (uN ps))), (10, oV 3 0 n 4), (11, rV 4 0), (12, iV (↑i - 1)), (13, .e (yL (vJ ps n k r w z j)))] [(1, some (32, .ds [iD 0, iD 0])), (3, some (42, .ds (qT i (dO ps n k r w z j)))), (4, some (42, (eS ps n k r w z j)))] 5 ?_ ?_
   ·by_cases hx8 : ((((i : Nat) : Int) - 1) < (((n : Nat) : Int) - 1))
    ·have hx9 : (¬ j = 0 ∨ List.length (vJ ps n k r w z j) = List.length (eB (uN ps) (i - 1))) ∧ (j = 0 ∨ List.length (vJ ps n k r w z j) = List.length (oN (uG ps (i - 1)) (eB (uN ps) (i - 1)) (qL (vX ps n k r w z j) (vG ps n k r w z j) (y3 ps n k r w z j) (vF ps n k r w z j)))) := u5n ps n k r w z zo
     refine kH [.no, .no, .no, .w, .b true] ((u3 ((n : Int) - 1)) ∧ ((((i : Int) - 1) < ((n : Int) - 1)))) [(0, qC (qN ps) n), (5, rV 1 0), (7, qC (aF (uN ps)) (List.length (uN ps))), (10, oV 3 0 n 4), (11, rV 4 0), (12, iV (↑i - 1)), (13, .e (yL (eB (uN ps) (i - 1)))), (43, bV true)] [(1, some (32, .ds [iD 0, iD 0])), (3, some (42, .ds (qT i (dO ps n k r w z j)))), (4, some (42, (eS ps n k r w z j)))] 5 ⟨⟨by omega, by omega⟩, zo⟩ ?_
     refine zt ?_
     have hx10 : ((List.length (kR ps (i - 1))) ≤ 1000) := (PsW.get (qD : PsW ps) ((i - 1))).2
     have hx11 : ((List.length (oN (uG ps (i - 1)) (eB (uN ps) (i - 1)) (qL (vX ps n k r w z j) (vG ps n k r w z j) (y3 ps n k r w z j) (vF ps n k r w z j)))) ≤ 4096) := u0l (zo) (rfl) (mS (vX ps n k r w z j) (vG ps n k r w z j) (y3 ps n k r w z j) (vF ps n k r w z j))
     refine yA (qE 4 [.n (i - 1), .no, .d (iD (uG ps (i - 1))), .call [] (.e (yL (oN (uG ps (i - 1)) (eB (uN ps) (i - 1)) (qL (vX ps n k r w z j) (vG ps n k r w z j) (y3 ps n k r w z j) (vF ps n k r w z j))))) [] 0 [] none, .no]) (((((i : Int) - 1) : Int) = (((i - 1) : Nat) : Int)) ∧ ((i - 1) < n) ∧ ((List.drop 1 (List.drop ((i - 1) * 2) (qN ps)))[0]? = some (iD (uG ps (i - 1)))) ∧ (_)) [(0, qC (qN ps) n), (5, rV 1 0), (7, qC (aF (uN ps)) (List.length (uN ps))), (10, oV 3 0 n 4), (11, rV 4 0), (12, iV (↑i - 1)), (13, .e (yL (oN (uG ps (i - 1)) (eB (uN ps) (i - 1)) (qL (vX ps n k r w z j) (vG ps n k r w z j) (y3 ps n k r w z j) (vF ps n k r w z j)))))] ⟨zo, zo, (by (rw [List.drop_drop]; exact (u7g (i := (i - 1)) zo))), (v3o (eB (uN ps) (i - 1)) (List.length (eB (uN ps) (i - 1))) (vX ps n k r w z j) (vG ps n k r w z j) (y3 ps n k r w z j) (List.length (y3 ps n k r w z j)) (vF ps n k r w z j) (uG ps (i - 1)) rfl zo (BzW.get (qD : BzW (uN ps)) _).1 rfl zo)⟩ ?_
     exact kW () [] (P := (kJ (qN ps)) ∧ (kG n) ∧ (kG 0) ∧ (kJ (aF (uN ps))) ∧ (kG (List.length (uN ps))) ∧ (kG 0) ∧ (kG n) ∧ (kG 0) ∧ (kM ((i : Int) - 1)) ∧ (((kN (vJ ps n k r w z j)) : List D) = (kN (oN (uG ps (i - 1)) (eB (uN ps) (i - 1)) (qL (vX ps n k r w z j) (vG ps n k r w z j) (y3 ps n k r w z j) (vF ps n k r w z j))))) ∧ (((List.length (vJ ps n k r w z j)) : Nat) = (List.length (oN (uG ps (i - 1)) (eB (uN ps) (i - 1)) (qL (vX ps n k r w z j) (vG ps n k r w z j) (y3 ps n k r w z j) (vF ps n k r w z j))))) ∧ (kJ [iD 0, iD 0]) ∧ (kJ (qT i (dO ps n k r w z j))) ∧ (kJ [iD (vX ps n k r w z j), iD (vG ps n k r w z j), dl (y3 ps n k r w z j) (List.length (y3 ps n k r w z j)), iD (vF ps n k r w z j)])) zk ⟨rfl, rfl, rfl, rfl, rfl, rfl, rfl, rfl, rfl, (by exact congrArg kN (u5m zo zo).symm), zo, rfl, rfl, rfl⟩ True.intro
    ·have hx12 : (¬ j = 0 ∨ List.length (vJ ps n k r w z j) = List.length (eB (uN ps) (i - 1))) ∧ (j = 0 ∨ List.length (vJ ps n k r w z j) = List.length (oN (uG ps (i - 1)) (eB (uN ps) (i - 1)) (qL (vX ps n k r w z j) (vG ps n k r w z j) (y3 ps n k r w z j) (vF ps n k r w z j)))) := u5n ps n k r w z zo
     refine kH [.no, .no, .no, .w, .b false] ((u3 ((n : Int) - 1)) ∧ (¬ (((i : Int) - 1) < ((n : Int) - 1)))) [(0, qC (qN ps) n), (5, rV 1 0), (7, qC (aF (uN ps)) (List.length (uN ps))), (10, oV 3 0 n 4), (11, rV 4 0), (12, iV (↑i - 1)), (13, .e (yL (eB (uN ps) (i - 1)))), (43, bV false)] [(1, some (32, .ds [iD 0, iD 0])), (3, some (42, .ds (qT i (dO ps n k r w z j)))), (4, some (42, (eS ps n k r w z j)))] 5 ⟨⟨by omega, by omega⟩, zo⟩ ?_
     refine uO ?_
     exact kW () [] (P := (kJ (qN ps)) ∧ (kG n) ∧ (kG 0) ∧ (kJ (aF (uN ps))) ∧ (kG (List.length (uN ps))) ∧ (kG 0) ∧ (kG n) ∧ (kG 0) ∧ (kM ((i : Int) - 1)) ∧ (((kN (vJ ps n k r w z j)) : List D) = (kN (eB (uN ps) (i - 1)))) ∧ (((List.length (vJ ps n k r w z j)) : Nat) = (List.length (eB (uN ps) (i - 1)))) ∧ (kJ [iD 0, iD 0]) ∧ (kJ (qT i (dO ps n k r w z j))) ∧ (kJ [iD (vX ps n k r w z j), iD (vG ps n k r w z j), dl (y3 ps n k r w z j) (List.length (y3 ps n k r w z j)), iD (vF ps n k r w z j)])) zk ⟨rfl, rfl, rfl, rfl, rfl, rfl, rfl, rfl, rfl, (by exact congrArg kN (u5o zo zo).symm), zo, rfl, rfl, rfl⟩ True.intro
   ·have hx13 : BsW (vJ ps n k r w z j) := (k9n hW j).1
    have hx14 : List.length (vJ ps n k r w z j) ≤ 4096 := (k9n hW j).2
    have hx15 : 1 ≤ List.length (kK (vJ ps n k r w z j)) := hG j zo zo
    have hx16 : (((0 : Int) ≤ (oL (vJ ps n k r w z j) (vX ps n k r w z j) (vG ps n k r w z j) (y3 ps n k r w z j) (vF ps n k r w z j))) ∧ ((oL (vJ ps n k r w z j) (vX ps n k r w z j) (vG ps n k r w z j) (y3 ps n k r w z j) (vF ps n k r w z j)) ≤ 7)) := (k4i (qD : BsW (vJ ps n k r w z j)) (vX ps n k r w z j) (vG ps n k r w z j) (y3 ps n k r w z j) (vF ps n k r w z j)).1
    have hx17 : (((0 : Int) ≤ (oK (vJ ps n k r w z j) (vX ps n k r w z j) (vG ps n k r w z j) (y3 ps n k r w z j) (vF ps n k r w z j))) ∧ ((oK (vJ ps n k r w z j) (vX ps n k r w z j) (vG ps n k r w z j) (y3 ps n k r w z j) (vF ps n k r w z j)) ≤ 2147483647)) := (k4i (qD : BsW (vJ ps n k r w z j)) (vX ps n k r w z j) (vG ps n k r w z j) (y3 ps n k r w z j) (vF ps n k r w z j)).2.1
    have hx18 : (((0 : Int) ≤ (oJ (vJ ps n k r w z j) (vX ps n k r w z j) (vG ps n k r w z j) (y3 ps n k r w z j) (vF ps n k r w z j))) ∧ ((oJ (vJ ps n k r w z j) (vX ps n k r w z j) (vG ps n k r w z j) (y3 ps n k r w z j) (vF ps n k r w z j)) ≤ 2147483647)) := (k4i (qD : BsW (vJ ps n k r w z j)) (vX ps n k r w z j) (vG ps n k r w z j) (y3 ps n k r w z j) (vF ps n k r w z j)).2.2.1
    have hx19 : ((List.length (yO ps n k r w z j)) ≤ 1000000) := (k4i (qD : BsW (vJ ps n k r w z j)) (vX ps n k r w z j) (vG ps n k r w z j) (y3 ps n k r w z j) (vF ps n k r w z j)).2.2.2
    refine kH (qE 4 [.call [] (.tup [.agg [iC (oL (vJ ps n k r w z j) (vX ps n k r w z j) (vG ps n k r w z j) (y3 ps n k r w z j) (vF ps n k r w z j)), iC (oK (vJ ps n k r w z j) (vX ps n k r w z j) (vG ps n k r w z j) (y3 ps n k r w z j) (vF ps n k r w z j)), .d (dl (yO ps n k r w z j) (List.length (yO ps n k r w z j))), iC (oJ (vJ ps n k r w z j) (vX ps n k r w z j) (vG ps n k r w z j) (y3 ps n k r w z j) (vF ps n k r w z j))], .c (.d (D.lit (.bool true)))]) [] 0 [] none, .no, .no, .no, .n2 (i - 1) ((i - 1) * 4), .ds (qT (i - 1) (coN (oL (vJ ps n k r w z j) (vX ps n k r w z j) (vG ps n k r w z j) (y3 ps n k r w z j) (vF ps n k r w z j)) (oK (vJ ps n k r w z j) (vX ps n k r w z j) (vG ps n k r w z j) (y3 ps n k r w z j) (vF ps n k r w z j)) (yO ps n k r w z j) (oJ (vJ ps n k r w z j) (vX ps n k r w z j) (vG ps n k r w z j) (y3 ps n k r w z j) (vF ps n k r w z j)) (dO ps n k r w z j)))]) ((_) ∧ ((((i : Int) - 1) : Int) = (((i - 1) : Nat) : Int)) ∧ ((i - 1) < n) ∧ ((0 : Nat) + (i - 1) * 4 = ((i - 1) * 4)) ∧ (((i - 1) * 4) + 4 ≤ (qT i (dO ps n k r w z j)).length) ∧ (g6 (qT i (dO ps n k r w z j)) ((i - 1) * 4) [iD (oL (vJ ps n k r w z j) (vX ps n k r w z j) (vG ps n k r w z j) (y3 ps n k r w z j) (vF ps n k r w z j)), iD (oK (vJ ps n k r w z j) (vX ps n k r w z j) (vG ps n k r w z j) (y3 ps n k r w z j) (vF ps n k r w z j)), dl (yO ps n k r w z j) (List.length (yO ps n k r w z j)), iD (oJ (vJ ps n k r w z j) (vX ps n k r w z j) (vG ps n k r w z j) (y3 ps n k r w z j) (vF ps n k r w z j))] = (qT (i - 1) (coN (oL (vJ ps n k r w z j) (vX ps n k r w z j) (vG ps n k r w z j) (y3 ps n k r w z j) (vF ps n k r w z j)) (oK (vJ ps n k r w z j) (vX ps n k r w z j) (vG ps n k r w z j) (y3 ps n k r w z j) (vF ps n k r w z j)) (yO ps n k r w z j) (oJ (vJ ps n k r w z j) (vX ps n k r w z j) (vG ps n k r w z j) (y3 ps n k r w z j) (vF ps n k r w z j)) (dO ps n k r w z j))))) [(0, qC (qN ps) n), (5, rV 1 0), (7, qC (aF (uN ps)) (List.length (uN ps))), (10, oV 3 0 n 4), (11, rV 4 0), (12, iV (↑i - 1))] [(1, some (32, .ds [iD 0, iD 0])), (3, some (42, .ds (qT (i - 1) (coN (oL (vJ ps n k r w z j) (vX ps n k r w z j) (vG ps n k r w z j) (y3 ps n k r w z j) (vF ps n k r w z j)) (oK (vJ ps n k r w z j) (vX ps n k r w z j) (vG ps n k r w z j) (y3 ps n k r w z j) (vF ps n k r w z j)) (yO ps n k r w z j) (oJ (vJ ps n k r w z j) (vX ps n k r w z j) (vG ps n k r w z j) (y3 ps n k r w z j) (vF ps n k r w z j)) (dO ps n k r w z j))))), (4, some (42, (eS ps n k r w z j)))] 5 ⟨(u42 (vJ ps n k r w z j) (List.length (vJ ps n k r w z j)) (vX ps n k r w z j) (vG ps n k r w z j) (y3 ps n k r w z j) (List.length (y3 ps n k r w z j)) (vF ps n k r w z j) rfl zo (qD : BsW (vJ ps n k r w z j)) rfl zo zo zo zo), zo, zo, zo, mA, (u3e zo _ _ _ _ _ (by rfl))⟩ ?_
    refine aC [.no, .no, .n2 (i - 1) ((i - 1) * 4), .ds [iD (oL (vJ ps n k r w z j) (vX ps n k r w z j) (vG ps n k r w z j) (y3 ps n k r w z j) (vF ps n k r w z j)), iD (oK (vJ ps n k r w z j) (vX ps n k r w z j) (vG ps n k r w z j) (y3 ps n k r w z j) (vF ps n k r w z j)), dl (yO ps n k r w z j) (List.length (yO ps n k r w z j)), iD (oJ (vJ ps n k r w z j) (vX ps n k r w z j) (vG ps n k r w z j) (y3 ps n k r w z j) (vF ps n k r w z j))], .no] (((((i : Int) - 1) : Int) = (((i - 1) : Nat) : Int)) ∧ ((i - 1) < n) ∧ ((0 : Nat) + (i - 1) * 4 = ((i - 1) * 4)) ∧ (List.take 4 (List.drop ((i - 1) * 4) (qT (i - 1) (coN (oL (vJ ps n k r w z j) (vX ps n k r w z j) (vG ps n k r w z j) (y3 ps n k r w z j) (vF ps n k r w z j)) (oK (vJ ps n k r w z j) (vX ps n k r w z j) (vG ps n k r w z j) (y3 ps n k r w z j) (vF ps n k r w z j)) (yO ps n k r w z j) (oJ (vJ ps n k r w z j) (vX ps n k r w z j) (vG ps n k r w z j) (y3 ps n k r w z j) (vF ps n k r w z j)) (dO ps n k r w z j)))) = [iD (oL (vJ ps n k r w z j) (vX ps n k r w z j) (vG ps n k r w z j) (y3 ps n k r w z j) (vF ps n k r w z j)), iD (oK (vJ ps n k r w z j) (vX ps n k r w z j) (vG ps n k r w z j) (y3 ps n k r w z j) (vF ps n k r w z j)), dl (yO ps n k r w z j) (List.length (yO ps n k r w z j)), iD (oJ (vJ ps n k r w z j) (vX ps n k r w z j) (vG ps n k r w z j) (y3 ps n k r w z j) (vF ps n k r w z j))]) ∧ (([iD (oL (vJ ps n k r w z j) (vX ps n k r w z j) (vG ps n k r w z j) (y3 ps n k r w z j) (vF ps n k r w z j)), iD (oK (vJ ps n k r w z j) (vX ps n k r w z j) (vG ps n k r w z j) (y3 ps n k r w z j) (vF ps n k r w z j)), dl (yO ps n k r w z j) (List.length (yO ps n k r w z j)), iD (oJ (vJ ps n k r w z j) (vX ps n k r w z j) (vG ps n k r w z j) (y3 ps n k r w z j) (vF ps n k r w z j))] : List D).length = 4)) [(0, qC (qN ps) n), (5, rV 1 0), (7, qC (aF (uN ps)) (List.length (uN ps))), (10, oV 3 0 n 4), (11, rV 4 0), (12, iV (↑i - 1))] [(1, some (32, .ds [iD 0, iD 0])), (3, some (42, .ds (qT (i - 1) (coN (oL (vJ ps n k r w z j) (vX ps n k r w z j) (vG ps n k r w z j) (y3 ps n k r w z j) (vF ps n k r w z j)) (oK (vJ ps n k r w z j) (vX ps n k r w z j) (vG ps n k r w z j) (y3 ps n k r w z j) (vF ps n k r w z j)) (yO ps n k r w z j) (oJ (vJ ps n k r w z j) (vX ps n k r w z j) (vG ps n k r w z j) (y3 ps n k r w z j) (vF ps n k r w z j)) (dO ps n k r w z j))))), (4, some (42, .ds [iD (oL (vJ ps n k r w z j) (vX ps n k r w z j) (vG ps n k r w z j) (y3 ps n k r w z j) (vF ps n k r w z j)), iD (oK (vJ ps n k r w z j) (vX ps n k r w z j) (vG ps n k r w z j) (y3 ps n k r w z j) (vF ps n k r w z j)), dl (yO ps n k r w z j) (List.length (yO ps n k r w z j)), iD (oJ (vJ ps n k r w z j) (vX ps n k r w z j) (vG ps n k r w z j) (y3 ps n k r w z j) (vF ps n k r w z j))]))] 5 ⟨zo, zo, zo, (u3f _ _ _ _ _ _), rfl⟩ ?_
    refine yA [.no, .w, .no] (u3 (((i : Int) - 1) - 1)) [(0, qC (qN ps) n), (5, rV 1 0), (7, qC (aF (uN ps)) (List.length (uN ps))), (10, oV 3 0 n 4), (11, rV 4 0), (12, iV ((↑i - 1) - 1))] ⟨by omega, by omega⟩ ?_
    exact kW ⟨(((i - 1) : Nat), ((j + 1) : Nat)), (show ((i - 1) + (j + 1) = n) from zo)⟩ [] (P := (kJ (qN ps)) ∧ (kG n) ∧ (kG 0) ∧ (kJ (aF (uN ps))) ∧ (kG (List.length (uN ps))) ∧ (kG 0) ∧ (kG n) ∧ (kG 0) ∧ ((((((i - 1) : Nat) : Int) - 1) : Int) = (((i : Int) - 1) - 1)) ∧ (kJ [iD 0, iD 0]) ∧ (((qT (i - 1) (dO ps n k r w z (j + 1))) : List D) = (qT (i - 1) (coN (oL (vJ ps n k r w z j) (vX ps n k r w z j) (vG ps n k r w z j) (y3 ps n k r w z j) (vF ps n k r w z j)) (oK (vJ ps n k r w z j) (vX ps n k r w z j) (vG ps n k r w z j) (y3 ps n k r w z j) (vF ps n k r w z j)) (yO ps n k r w z j) (oJ (vJ ps n k r w z j) (vX ps n k r w z j) (vG ps n k r w z j) (y3 ps n k r w z j) (vF ps n k r w z j)) (dO ps n k r w z j)))) ∧ (([iD (vX ps n k r w z (j + 1)), iD (vG ps n k r w z (j + 1)), dl (y3 ps n k r w z (j + 1)) (List.length (y3 ps n k r w z (j + 1))), iD (vF ps n k r w z (j + 1))] : List D) = [iD (oL (vJ ps n k r w z j) (vX ps n k r w z j) (vG ps n k r w z j) (y3 ps n k r w z j) (vF ps n k r w z j)), iD (oK (vJ ps n k r w z j) (vX ps n k r w z j) (vG ps n k r w z j) (y3 ps n k r w z j) (vF ps n k r w z j)), dl (yO ps n k r w z j) (List.length (yO ps n k r w z j)), iD (oJ (vJ ps n k r w z j) (vX ps n k r w z j) (vG ps n k r w z j) (y3 ps n k r w z j) (vF ps n k r w z j))])) zk ⟨rfl, rfl, rfl, rfl, rfl, rfl, rfl, rfl, zo, rfl, (by rfl), (by rfl)⟩ (show (i - 1) < i from zo)
  ·refine kH [.no, .b false] (¬ ((0 : Int) ≤ ((i : Int) - 1))) [(0, qC (qN ps) n), (5, rV 1 0), (7, qC (aF (uN ps)) (List.length (uN ps))), (10, oV 3 0 n 4), (11, rV 4 0), (12, iV (↑i - 1)), (32, bV false)] [(1, some (32, .ds [iD 0, iD 0])), (3, some (42, .ds (qT i (dO ps n k r w z j)))), (4, some (42, (eS ps n k r w z j)))] 5 zo ?_
   refine zf ?_
   refine AW.exit ?_
   obtain rfl : i = 0 := (by omega)
   obtain rfl : n = j := (by omega)
   have hx20 : ChW (dO ps n k r w z n) := k9o hW hr hz zo n
   refine AW.freeze 3 (l' := [(0, qC (qN ps) n), (5, rV 1 0), (7, qC (aF (uN ps)) (List.length (uN ps))), (10, qC (qT 0 (dO ps n k r w z n)) n), (11, rV 4 0), (12, iV (-1)), (32, bV false)]) (g' := [(1, some (32, .ds [iD 0, iD 0])), (4, some (42, .ds [iD (vX ps n k r w z n), iD (vG ps n k r w z n), dl (y3 ps n k r w z n) (List.length (y3 ps n k r w z n)), iD (vF ps n k r w z n)]))]) rfl (FzS.cons rfl (.same _) (FzS.cons rfl (.same _) (FzS.cons rfl (.same _) (FzS.cons rfl (.e (.c (@FzC.own 3 ((qT 0 (dO ps n k r w z n)) : List D) 0 n 4 true ((qT 0 (dO ps n k r w z n)) : List D) (by rw [List.drop_zero, List.take_of_length_le (by (simp only [qB, qA, qS, qV, q6, y4, yK, vK, qQ, List.length_append, List.length_cons, List.length_nil, List.length_take, List.length_drop, List.length_replicate, List.length_set, List.length_map, List.length_reverse, Nat.mul_one] <;> omega))]) mA))) (FzS.cons rfl (.same _) (FzS.cons rfl (.same _) (FzS.cons rfl (.same _) FzS.nil))))))) (uI rfl rfl (uI rfl rfl FzG.nil)) ?_
   refine kH (.no :: .call [] (oV 0 0 n 4) [(0, some (42, .ds (qT 0 (dO ps n k r w z n))))] 1 [] none :: qE 4 []) _ [(4, oV 5 0 n 4), (5, rV 1 0), (6, iV 0)] [(1, some (32, .ds [iD 0, iD 0])), (5, some (42, .ds (qT 0 (dO ps n k r w z n))))] 6 (u17 (dO ps n k r w z n) n (by (simp only [qB, qA, qS, qV, q6, y4, yK, vK, List.length_append, List.length_cons, List.length_nil, List.length_take, List.length_drop, List.length_replicate, List.length_set] <;> omega)) zo (qD : ChW (dO ps n k r w z n))) ?_
   obtain ⟨hz1, hz2⟩ := k9z (n := n) (k := k) (r := r) (w := w) (z := z) (ps := ps) zo
   have hx21 : aY ps = 0 ∧ aZ ps = 0 := u57 zo
   refine AW.freeze 5 (l' := [(4, qC (qT 0 (dO ps n k r w z n)) n), (5, rV 1 0), (6, iV 0)]) (g' := [(1, some (32, .ds [iD 0, iD 0]))]) rfl (FzS.cons rfl (.e (.c (@FzC.own 5 ((qT 0 (dO ps n k r w z n)) : List D) 0 n 4 true ((qT 0 (dO ps n k r w z n)) : List D) (by rw [List.drop_zero, List.take_of_length_le (by (simp only [qB, qA, qS, qV, q6, y4, yK, vK, qQ, List.length_append, List.length_cons, List.length_nil, List.length_take, List.length_drop, List.length_replicate, List.length_set, List.length_map, List.length_reverse, Nat.mul_one] <;> omega))]) mA))) (FzS.cons rfl (.same _) (FzS.cons rfl (.same _) FzS.nil))) (uI rfl rfl FzG.nil) ?_
   refine AW.ret ?_
   exact kA (.inr rfl) [] (P := (((qT 0 (u0 ps n k r w z)) : List D) = (qT 0 (dO ps n k r w z n))) ∧ (((List.length (u0 ps n k r w z)) : Nat) = n) ∧ (((aY ps) : Int) = 0) ∧ (((aZ ps) : Int) = 0) ∧ (((uX ps) : Int) = 0)) zk ⟨(by (rw [hz1]; done)), (by (rw [hz1]; omega)), zo, zo, zo⟩
end Go.Proofs.YtbicifcgghmhaaaGreat
