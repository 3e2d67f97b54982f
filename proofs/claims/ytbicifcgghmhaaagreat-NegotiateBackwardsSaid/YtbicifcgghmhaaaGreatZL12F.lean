/- Merged texts. -/
import Derived.Test.YtbicifcgghmhaaaGreatZK10
import Derived.Test.YtbicifcgghmhaaaGreatZL12C
namespace Go.Proofs.YtbicifcgghmhaaaGreat
open Go.ChangeShapes Go.WideShapes Go.ChangeAt Go.RowKit
set_option linter.unusedVariables false
set_option linter.unusedSimpArgs false
set_option maxHeartbeats 4000000
set_option maxRecDepth 100000
theorem pE {p : Prop} (h : p := by (simp only [qA, k9, qP, List.length_append, List.length_cons, List.length_nil, List.length_take, List.length_drop, List.length_replicate, List.length_set, List.length_map, List.length_reverse, Nat.mul_one] <;> omega)) : p := h
theorem u56 (a : Int)  : Fun 112 [iE a] (kF []) 0 (.e (.agg [.d (D.sl (dI .i64 ([a, a] : List Int)) 1)])) (kF []) 0 := by
 refine Fun.mk (n := 8) Tryz.func112 rfl rfl (Nat.le_of_ble_eq_true rfl) ?_
 intro cx hcx
 refine kH [.no] True [(0, iV a), (2, rV 0 0)] [(0, some (60, .ds [qJ]))] 1 trivial ?_
 refine kH (qD 6 []) True [(2, rV 0 0)] [(0, some (60, .cs [.own 1 0 1 2 true])), (1, some (95, .ds [iD a, iD a]))] 2 trivial ?_
 refine AW.freeze 1 (l' := [(2, rV 0 0)]) (g' := [(0, some (60, .ds [D.sl [iD a, iD a] 1]))]) rfl (FzS.cons rfl (.same _) FzS.nil) (FzG.to (bc := .cs [.own 1 0 1 2 true]) rfl (by rfl) (FzL.cons (@FzC.own 1 ([iD a, iD a] : List D) 0 (1 : Nat) 2 true ([iD a, iD a] : List D) (by rw [List.drop_zero, List.take_of_length_le (by (simp only [qA, k9, qP, List.length_append, List.length_cons, List.length_nil, List.length_take, List.length_drop, List.length_replicate, List.length_set, List.length_map, List.length_reverse, Nat.mul_one] <;> omega))]) pE) FzL.nil) FzG.nil) ?_
 refine AW.ret ?_
 exact kA (.inr rfl) [] (P := (((dI .i64 ([a, a] : List Int)) : List D) = [iD a, iD a]) ∧ (kG 1)) zk ⟨(by rfl), rfl⟩
@[reducible] def q1X (k r : Int) (m : List Int) (z : Int) : List Bx := ([(kE (IntKind.i64.wrap (1 * (((2 ^ (Int.toNat k)) : Nat) : Int))) ([r, r] : List Int) 1 ([m] : List (List Int)) ([z, z] : List Int) 1)] : List Bx)
theorem k9v (k r : Int) (m : List Int) (n : Nat) (z : Int) (hm : List.length m = n) (h1 : n ≤ 1000000) : Fun 76 [.agg [iC k, iC r, .d (D.sl (dI .i64 m) n), iC z]] (kF []) 0 (.e (yL (qM k r m z))) (kF []) 0 := by
 refine Fun.mk (n := 32) Tryz.func76 rfl rfl (Nat.le_of_ble_eq_true rfl) ?_
 intro cx hcx
 refine kH [.no, .no] True [(1, rV 0 0)] [(0, some (42, .ds [iD k, iD r, dl m n, iD z]))] 1 trivial ?_
 refine AW.seq ?_
 rcases Bool.eq_false_or_eq_true (decide (1 ≤ k ∧ k ≤ 7)) with hx1 | hx1
 ·have hx2 : (((1 : Int) ≤ k) ∧ (k ≤ 7)) := of_decide_eq_true hx1
  obtain rfl : n = (List.length m) := (by omega)
  refine kH [.no, .no, .no, .call [] (bV true) [] 0 [] none, .no] (Fun 111 [iE k] (kF []) 0 (bV true) (kF []) 0) [(1, rV 0 0), (9, bV false)] [(0, some (42, .ds [iD k, iD r, dl m (List.length m), iD z]))] 1 (by have h0 := (iJ k); rw [hx1] at h0; exact h0) ?_
  refine uP ?_
  refine kQ [.no] True [(1, rV 0 0), (3, .e (.c (.fn 112 [])))] trivial ?_
  refine kH (.no :: .no :: .no :: .n2 (Int.toNat k) 0 :: qD 4 (.call [] (.e (.agg [.d (dl ([r, r] : List Int) 1)])) [] 0 [] none :: .no :: .no :: .no :: (.fz (.call [] (oV 0 0 (List.length m) 1) [(0, some (3, .ds (dI .i64 m)))] 1 [] none)) :: qD 4 [.call [] (.e (.agg [.d (dl ([z, z] : List Int) 1)])) [] 0 [] none, .no, .no, .no])) (((k : Int) = (Int.toNat k : Int)) ∧ ((Int.toNat k) ≤ 64) ∧ (_) ∧ (_) ∧ (((dI .i64 m) : List D).length = (List.length m) * 1) ∧ (_)) [(4, oV 3 0 1 4)] [(2, some (38, .ds [dl m (List.length m)])), (3, some (63, .cs [iC (IntKind.i64.wrap (1 * (((2 ^ (Int.toNat k)) : Nat) : Int))), .d (dl ([r, r] : List Int) 1), .own 2 0 1 1 true, .d (dl ([z, z] : List Int) 1)]))] 4 ⟨zo, zo, (u56 r), (cW m (List.length m) rfl zo), pE, (u56 z)⟩ ?_
  refine AW.freeze 2 (l' := [(4, oV 3 0 1 4)]) (g' := [(3, some (63, .ds [iD (IntKind.i64.wrap (1 * (((2 ^ (Int.toNat k)) : Nat) : Int))), dl ([r, r] : List Int) 1, D.sl [dl m (List.length m)] 1, dl ([z, z] : List Int) 1]))]) rfl (FzS.cons rfl (.same _) FzS.nil) (FzG.to (bc := .cs [iC (IntKind.i64.wrap (1 * (((2 ^ (Int.toNat k)) : Nat) : Int))), .d (dl ([r, r] : List Int) 1), .own 2 0 1 1 true, .d (dl ([z, z] : List Int) 1)]) rfl (by rfl) (FzL.cons (.same _) (FzL.cons (.same _) (FzL.cons (@FzC.own 2 ([dl m (List.length m)] : List D) 0 (1 : Nat) 1 true ([dl m (List.length m)] : List D) (by rw [List.drop_zero, Nat.mul_one, List.take_of_length_le (by (simp only [qA, k9, qP, List.length_append, List.length_cons, List.length_nil, List.length_take, List.length_drop, List.length_replicate, List.length_set, List.length_map, List.length_reverse, Nat.mul_one] <;> omega))]) pE) (FzL.cons (.same _) FzL.nil)))) FzG.nil) ?_
  refine AW.freeze 3 (l' := [(4, qB [iD (IntKind.i64.wrap (1 * (((2 ^ (Int.toNat k)) : Nat) : Int))), dl ([r, r] : List Int) 1, D.sl [dl m (List.length m)] 1, dl ([z, z] : List Int) 1] 1)]) (g' := []) rfl (FzS.cons rfl (.e (.c (@FzC.own 3 ([iD (IntKind.i64.wrap (1 * (((2 ^ (Int.toNat k)) : Nat) : Int))), dl ([r, r] : List Int) 1, D.sl [dl m (List.length m)] 1, dl ([z, z] : List Int) 1] : List D) 0 (1 : Nat) 4 true ([iD (IntKind.i64.wrap (1 * (((2 ^ (Int.toNat k)) : Nat) : Int))), dl ([r, r] : List Int) 1, D.sl [dl m (List.length m)] 1, dl ([z, z] : List Int) 1] : List D) (by rw [List.drop_zero, List.take_of_length_le (by (simp only [qA, k9, qP, List.length_append, List.length_cons, List.length_nil, List.length_take, List.length_drop, List.length_replicate, List.length_set, List.length_map, List.length_reverse, Nat.mul_one] <;> omega))]) pE))) FzS.nil) FzG.nil ?_
  rw [show ([iD (IntKind.i64.wrap (1 * (((2 ^ (Int.toNat k)) : Nat) : Int))), D.sl (dI .i64 ([r, r] : List Int)) 1, D.sl [D.sl (dI .i64 m) (List.length m)] 1, D.sl (dI .i64 ([z, z] : List Int)) 1] : List D) = (kP (q1X k r m z)) from rfl]
  have hx3 : BsW (q1X k r m z) := u3b k r m z zo
  have hx4 : ((List.length (kK (q1X k r m z))) ≤ 1) := (by have h9 := jK (q1X k r m z); omega)
  refine kH [.no, .call [] (.e (yL (kK (q1X k r m z)))) [] 0 [] none, .no] _ [(2, .e (yL (kK (q1X k r m z))))] [] 4 (iL (q1X k r m z) 1 (by (simp only [qA, k9, List.length_append, List.length_cons, List.length_nil, List.length_take, List.length_drop, List.length_replicate, List.length_set] <;> omega)) zo (qC : BsW (q1X k r m z))) ?_
  have hz1 : qM k r m z = kK (siX k r m z) := if_pos (by omega)
  refine AW.ret ?_
  exact kA (.inr rfl) [] (P := (((kP (qM k r m z)) : List D) = (kP (kK (q1X k r m z)))) ∧ (((List.length (qM k r m z)) : Nat) = (List.length (kK (q1X k r m z))))) zk ⟨(by (rw [hz1]; rfl)), (by (rw [hz1]; rfl))⟩
 ·have hx5 : ¬ (((1 : Int) ≤ k) ∧ (k ≤ 7)) := of_decide_eq_false hx1
  obtain rfl : n = (List.length m) := (by omega)
  refine kH [.no, .no, .no, .call [] (bV false) [] 0 [] none, .no] (Fun 111 [iE k] (kF []) 0 (bV false) (kF []) 0) [(1, rV 0 0), (9, bV true)] [(0, some (42, .ds [iD k, iD r, dl m (List.length m), iD z]))] 1 (by have h0 := (iJ k); rw [hx1] at h0; exact h0) ?_
  refine zt ?_
  refine kH [.no] True [(2, nV)] [] 1 trivial ?_
  have hz1 : qM k r m z = [] := if_neg (by omega)
  refine y6 (l' := [(2, qB ([] : List D) 0)]) (g' := []) (NlS.cons rfl (.e (.c .nil)) NlS.nil) NlG.nil ?_
  refine AW.ret ?_
  exact kA (.inr rfl) [] (P := (((kP (qM k r m z)) : List D) = ([] : List D)) ∧ (((List.length (qM k r m z)) : Nat) = 0)) zk ⟨(by (rw [hz1]; rfl)), (by (rw [hz1]; rfl))⟩
end Go.Proofs.YtbicifcgghmhaaaGreat
namespace Go.Proofs.YtbicifcgghmhaaaGreat
open Go.ChangeShapes Go.WideShapes Go.ChangeAt Go.RowKit
set_option linter.unusedVariables false
set_option linter.unusedSimpArgs false
set_option maxHeartbeats 4000000
set_option maxRecDepth 100000
theorem u54 {d : Int} {xs : List Bx} (h : BsW xs) (ys : List Bx) : ∀ i, BsW (agL d xs ys i)
 | 0 => BsW.nil
 | i + 1 => (u54 h ys i).app fun b hb => by
  obtain ⟨l, hl, hb⟩ := List.mem_flatten.1 hb
  obtain ⟨j, _, rfl⟩ := List.mem_map.1 hl
  exact k67 h j i b hb
theorem v2c {d : Int} {xs : List Bx} (h : BsW xs) (ys : List Bx) : BsW (n4 d xs ys) := u54 h ys _
theorem PsW.drop {xs : List Pt} (h : PsW xs) (n : Nat) : PsW (List.drop n xs) := fun m hm => h m (List.mem_of_mem_drop hm)
/-! chapter 12: choices as data, what is chosen -/
def rM (k r : Int) (m : List Int) (z : Int) : Co := ⟨k, r, m, z⟩
def coN (k r : Int) (m : List Int) (z : Int) (cs : List Co) : List Co := ⟨k, r, m, z⟩ :: cs
def cdR (c : Co) : List D := [D.lit (.int .i64 c.k), D.lit (.int .i64 c.r), D.sl (dI .i64 c.m) c.m.length, D.lit (.int .i64 c.s)]
def zcR : List D := [D.lit (.int .i64 0), D.lit (.int .i64 0), D.lit (.slice none 0 0), D.lit (.int .i64 0)]
def chD : List Co → List D
 | [] => []
 | c :: r => cdR c ++ chD r
def uI : Nat → List Co → List D
 | 0, cs => chD cs
 | i + 1, cs => zcR ++ uI i cs
theorem k2b : ∀ cs : List Co, (chD cs).length = cs.length * 4
 | [] => rfl
 | c :: r => by show (cdR c ++ chD r).length = (r.length + 1) * 4; rw [List.length_append, k2b r]; show 4 + _ = _; omega
theorem vG (cs : List Co) : ∀ i, (uI i cs).length = (i + cs.length) * 4
 | 0 => by rw [Nat.zero_add]; exact k2b cs
 | i + 1 => by show (zcR ++ uI i cs).length = _; rw [List.length_append, vG cs i]; show 4 + _ = _; omega
theorem u4r : ∀ n, (List.replicate n zcR).flatten = uI n ([] : List Co)
 | 0 => rfl
 | n + 1 => by rw [List.replicate_succ, List.flatten_cons, u4r n]; rfl
theorem k98 (cs : List Co) (c : Co) : ∀ i, nH (uI (i + 1) cs) (i * 4) (cdR c) = uI i (c :: cs)
 | 0 => rfl
 | i + 1 => by
  have ih := k98 cs c i
  rw [show (i + 1) * 4 = i * 4 + 1 + 1 + 1 + 1 by omega]
  show zcR ++ nH (uI (i + 1) cs) (i * 4) (cdR c) = zcR ++ uI i (c :: cs)
  rw [ih]
theorem u2f {i : Nat} (h : 1 ≤ i) (cs : List Co) (k r : Int) (m : List Int) (z : Int) {n : Nat} (hn : n = m.length) : nH (uI i cs) ((i - 1) * 4) [D.lit (.int .i64 k), D.lit (.int .i64 r), D.sl (dI .i64 m) n, D.lit (.int .i64 z)] = uI (i - 1) (coN k r m z cs) := by
 subst hn
 obtain ⟨i, rfl⟩ : ∃ j, i = j + 1 := ⟨i - 1, by omega⟩
 exact k98 cs ⟨k, r, m, z⟩ i
theorem k2a (cs : List Co) (c : Co) : ∀ i, List.take 4 (List.drop (i * 4) (uI i (c :: cs))) = cdR c
 | 0 => rfl
 | i + 1 => by
  have ih := k2a cs c i
  rw [show (i + 1) * 4 = i * 4 + 1 + 1 + 1 + 1 by omega]; exact ih
theorem u2g (i : Nat) (k r : Int) (m : List Int) (z : Int) (cs : List Co) : List.take 4 (List.drop (i * 4) (uI i (coN k r m z cs))) = [D.lit (.int .i64 k), D.lit (.int .i64 r), D.sl (dI .i64 m) m.length, D.lit (.int .i64 z)] := k2a cs ⟨k, r, m, z⟩ i
def co0 : Co := ⟨0, 0, [], 0⟩
def cG (cs : List Co) (i : Nat) : Co := List.getD cs i co0
def bD (cs : List Co) (i : Nat) : Int := (cG cs i).k
def aV (cs : List Co) (i : Nat) : Int := (cG cs i).r
def u7 (cs : List Co) (i : Nat) : List Int := (cG cs i).m
def bC (cs : List Co) (i : Nat) : Int := (cG cs i).s
theorem k0l : ∀ (cs : List Co) (i : Nat), i < cs.length → List.take 4 (List.drop (i * 4) (chD cs)) = cdR (cG cs i)
 | [], _, h => absurd h (Nat.not_lt_zero _)
 | _ :: _, 0, _ => rfl
 | c :: r, i + 1, h => by
  have ih := k0l r i (Nat.lt_of_succ_lt_succ h)
  rw [show (i + 1) * 4 = i * 4 + 1 + 1 + 1 + 1 by omega]; exact ih
theorem o5 {cs : List Co} {i : Nat} (h : i < cs.length) : List.take 4 (List.drop (i * 4) (uI 0 cs)) = [D.lit (.int .i64 (bD cs i)), D.lit (.int .i64 (aV cs i)), D.sl (dI .i64 (u7 cs i)) (List.length (u7 cs i)), D.lit (.int .i64 (bC cs i))] := k0l cs i h
theorem k2c : ∀ a b : List Co, chD (a ++ b) = chD a ++ chD b
 | [], _ => rfl
 | l :: r, b => by show cdR l ++ chD (r ++ b) = cdR l ++ chD r ++ chD b; rw [k2c r b, List.append_assoc]
theorem u7t (cs : List Co) (k r : Int) (m : List Int) (z : Int) (n : Nat) (hn : m.length = n) : uI 0 cs ++ [D.lit (.int .i64 k), D.lit (.int .i64 r), D.sl (dI .i64 m) n, D.lit (.int .i64 z)] = uI 0 (cs ++ [rM k r m z]) := by
 subst hn
 exact (k2c cs [rM k r m z]).symm
theorem u2c {cs o : List Co} {i : Nat} (h : o = List.take i cs) (hi : i < cs.length) : o ++ [rM (bD cs i) (aV cs i) (u7 cs i) (bC cs i)] = List.take (i + 1) cs := by
 subst h
 have e : cG cs i = cs[i] := by unfold cG; rw [List.getD_eq_getElem?_getD, List.getElem?_eq_getElem hi]; rfl
 rw [List.take_succ_eq_append_getElem hi, ← e]; rfl
def ChW (cs : List Co) : Prop := ∀ c ∈ cs, List.length c.m ≤ 1000000
theorem ChW.get {cs : List Co} (h : ChW cs) (i : Nat) : List.length (u7 cs i) ≤ 1000000 := by
 unfold u7 cG
 rw [List.getD_eq_getElem?_getD]
 cases e : cs[i]? with
 | none => exact Nat.zero_le _
 | some l => exact h l (List.mem_of_getElem? e)
theorem ChW.nil : ChW [] := fun c h => by cases h
theorem ChW.app {a b : List Co} (h : ChW a) (h2 : ChW b) : ChW (a ++ b) := fun m hm => (List.mem_append.1 hm).elim (h m) (h2 m)
theorem ChW.one {k r : Int} {m : List Int} {z : Int} (h : List.length m ≤ 1000000) : ChW [rM k r m z] := fun c hc => by rw [List.mem_singleton.1 hc]; exact h
/-! what is chosen, from the last port to the first -/
def cwY (ps : List Pt) (n j : Nat) (w : Co) : List Bx := if j = 0 then d7 (uL ps) (n - 1 - j) else n4 (q6 ps (n - 1 - j)) (d7 (uL ps) (n - 1 - j)) (qM w.k w.r w.m w.s)
def a8 (ps : List Pt) (n : Nat) (w : Co) : Nat → Co
 | 0 => w
 | j + 1 => beL (cwY ps n j (a8 ps n w j)) (a8 ps n w j).k (a8 ps n w j).r (a8 ps n w j).m (a8 ps n w j).s
def vF (ps : List Pt) (n : Nat) (k r : Int) (w : List Int) (z : Int) (j : Nat) : List Bx := cwY ps n j (a8 ps n ⟨k, r, w, z⟩ j)
def vT (ps : List Pt) (n : Nat) (k r : Int) (w : List Int) (z : Int) (j : Nat) : Int := (a8 ps n ⟨k, r, w, z⟩ j).k
def vC (ps : List Pt) (n : Nat) (k r : Int) (w : List Int) (z : Int) (j : Nat) : Int := (a8 ps n ⟨k, r, w, z⟩ j).r
def y3 (ps : List Pt) (n : Nat) (k r : Int) (w : List Int) (z : Int) (j : Nat) : List Int := (a8 ps n ⟨k, r, w, z⟩ j).m
def vB (ps : List Pt) (n : Nat) (k r : Int) (w : List Int) (z : Int) (j : Nat) : Int := (a8 ps n ⟨k, r, w, z⟩ j).s
def d6 (ps : List Pt) (n : Nat) (k r : Int) (w : List Int) (z : Int) : Nat → List Co
 | 0 => []
 | j + 1 => a8 ps n ⟨k, r, w, z⟩ (j + 1) :: d6 ps n k r w z j
theorem y4 (ps : List Pt) (n : Nat) (k r : Int) (w : List Int) (z : Int) : ∀ j, (d6 ps n k r w z j).length = j
 | 0 => rfl
 | j + 1 => congrArg Nat.succ (y4 ps n k r w z j)
section
variable {ps : List Pt} {n : Nat} {k r : Int} {w : List Int} {z : Int}
theorem u4h {i j : Nat} (h : j = 0) (hi : i = n - 1 - j) : d7 (uL ps) i = vF ps n k r w z j := by
 subst hi; exact (if_pos h).symm
theorem u4f {i j : Nat} (h : ¬ j = 0) (hi : i = n - 1 - j) : n4 (q6 ps i) (d7 (uL ps) i) (qM (vT ps n k r w z j) (vC ps n k r w z j) (y3 ps n k r w z j) (vB ps n k r w z j)) = vF ps n k r w z j := by
 subst hi; exact (if_neg h).symm
theorem k8y (hW : PsW ps) (j : Nat) : BsW (vF ps n k r w z j) ∧ List.length (vF ps n k r w z j) ≤ 4096 := by
 have hb := (u40 hW).get (n - 1 - j)
 unfold vF cwY
 split
 ·exact ⟨hb.1, by omega⟩
 ·exact ⟨v2c hb.1 _, k9n hb.2 rfl (mA _ _ _ _)⟩
theorem k8w (hW : PsW ps) (hr : -9223372036854775808 ≤ r ∧ r ≤ 9223372036854775807) (hz : -9223372036854775808 ≤ z ∧ z ≤ 9223372036854775807) (hw : List.length w ≤ 1000000) : ∀ j, (-9223372036854775808 ≤ vC ps n k r w z j ∧ vC ps n k r w z j ≤ 9223372036854775807) ∧ (-9223372036854775808 ≤ vB ps n k r w z j ∧ vB ps n k r w z j ≤ 9223372036854775807) ∧ List.length (y3 ps n k r w z j) ≤ 1000000
 | 0 => ⟨hr, hz, hw⟩
 | j + 1 => by
  obtain ⟨_, h2, h3, h4⟩ := k3v (k8y (n := n) (k := k) (r := r) (w := w) (z := z) hW j).1 (vT ps n k r w z j) (vC ps n k r w z j) (y3 ps n k r w z j) (vB ps n k r w z j)
  have h2 : 0 ≤ vC ps n k r w z (j + 1) ∧ vC ps n k r w z (j + 1) ≤ 2147483647 := h2
  have h3 : 0 ≤ vB ps n k r w z (j + 1) ∧ vB ps n k r w z (j + 1) ≤ 2147483647 := h3
  exact ⟨by omega, by omega, h4⟩
theorem k8z (hW : PsW ps) (hr : -9223372036854775808 ≤ r ∧ r ≤ 9223372036854775807) (hz : -9223372036854775808 ≤ z ∧ z ≤ 9223372036854775807) (hw : List.length w ≤ 1000000) : ∀ j, ChW (d6 ps n k r w z j)
 | 0 => ChW.nil
 | j + 1 => fun c hc => (List.mem_cons.1 hc).elim (fun e => by rw [e]; exact (k8w (n := n) (k := k) hW hr hz hw (j + 1)).2.2) (k8z hW hr hz hw j c)
end
def uF (ps : List Pt) (n : Nat) (k r : Int) (w : List Int) (z : Int) : List Co := if uK ps = 0 then d6 ps n k r w z n else []
theorem k29 {ps : List Pt} {n : Nat} {k r : Int} {w : List Int} {z : Int} (h : uK ps = 0) : uF ps n k r w z = d6 ps n k r w z n ∧ List.length (d6 ps n k r w z n) = n := ⟨if_pos h, y4 ..⟩
theorem u4o {ps : List Pt} {n : Nat} {k r : Int} {w : List Int} {z : Int} (h : ¬ uK ps = 0) : uF ps n k r w z = [] := if_neg h
theorem u4q {ps : List Pt} {n : Nat} {k r : Int} {w : List Int} {z : Int} (hW : PsW ps) (hr : -9223372036854775808 ≤ r ∧ r ≤ 9223372036854775807) (hz : -9223372036854775808 ≤ z ∧ z ≤ 9223372036854775807) (hw : List.length w ≤ 1000000) : ChW (uF ps n k r w z) := by
 unfold uF; split
 ·exact k8z hW hr hz hw n
 ·exact ChW.nil
theorem k1x {ps : List Pt} {n : Nat} (h : uK ps = 0) (hn : ps.length = n) : List.length (uL ps) = n := by
 subst hn
 unfold uL fwO
 have h2 := h
 unfold uK at h2
 by_cases c : cM ps = true
 ·rw [if_pos c] at h2
  by_cases d : oX ps ps.length < 0
  ·rw [c, decide_eq_true d]; exact q5 _ _
  ·rw [if_neg d] at h2
   by_cases e : fwE ps (fwX ps) = 0
   ·rw [if_pos e] at h2; exact absurd h2 (by decide)
   ·rw [if_neg e] at h2; exact absurd h2 e
 ·rw [if_neg c] at h2; exact absurd h2 (by decide)
theorem u2h {cs : List Co} {i : Nat} (h : i < cs.length) {f : Nat} (hf : f < 4) : (List.drop (i * 4 + f) (uI 0 cs))[0]? = (cdR (cG cs i))[f]? := by
 have e := k0l cs i h
 have e : List.take 4 (List.drop (i * 4) (uI 0 cs)) = cdR (cG cs i) := e
 rw [← e, List.getElem?_take_of_lt hf, List.getElem?_drop, List.getElem?_drop, Nat.add_zero]
theorem u4n {cs : List Co} {i : Nat} (h : i < cs.length) : (List.drop (i * 4 + 1) (uI 0 cs))[0]? = some (D.lit (.int .i64 (aV cs i))) := u2h h (by decide)
theorem vU (k r : Int) (m : List Int) (z : Int) (cs : List Co) : List.length (coN k r m z cs) = List.length cs + 1 := rfl
theorem v1a {ps : List Pt} (h : uK ps = 0) : cK ps = 0 ∧ cL ps = 0 := by
 unfold cK cL; rw [h]; exact ⟨rfl, rfl⟩
theorem u4g (ps : List Pt) (n : Nat) (k r : Int) (w : List Int) (z : Int) {i j : Nat} (hi : i = n - 1 - j) : (¬ j = 0 ∨ List.length (vF ps n k r w z j) = List.length (d7 (uL ps) i)) ∧ (j = 0 ∨ List.length (vF ps n k r w z j) = List.length (n4 (q6 ps i) (d7 (uL ps) i) (qM (vT ps n k r w z j) (vC ps n k r w z j) (y3 ps n k r w z j) (vB ps n k r w z j)))) := by
 by_cases h : j = 0
 ·exact ⟨.inr (congrArg List.length (u4h h hi).symm), .inl h⟩
 ·exact ⟨.inl h, .inr (congrArg List.length (u4f h hi).symm)⟩
abbrev u5 (d : Int) (k : Int) (r : Int) (w : List Int) (z : Int) (i : Nat) (a : List Bx) (j : Nat) := zL d 2 (k8 (qM k r w z) i) (k8 a j)
abbrev u4 (d : Int) (k : Int) (r : Int) (w : List Int) (z : Int) (i : Nat) (a : List Bx) (j : Nat) := zM d 4 (kS (qM k r w z) i) (kS a j)
abbrev u3 (d : Int) (k : Int) (r : Int) (w : List Int) (z : Int) (i : Nat) (a : List Bx) (j : Nat) := zL d 8 (kZ (qM k r w z) i) (kZ a j)
theorem f0 {p : Prop} (h : p := by (simp only [qA, k9, qS, qY, q5, qP, List.length_append, List.length_cons, List.length_nil, List.length_take, List.length_drop, List.length_replicate, List.length_set, List.length_map, List.length_reverse, Nat.mul_one] <;> omega)) : p := h
theorem zC {p : Prop} (h : p := by rw [List.drop_zero, List.take_of_length_le (by (simp only [qA, k9, qS, qY, q5, qP, List.length_append, List.length_cons, List.length_nil, List.length_take, List.length_drop, List.length_replicate, List.length_set, List.length_map, List.length_reverse, Nat.mul_one] <;> omega))]) : p := h
abbrev eK (k : Int) (r : Int) (w : List Int) (z : Int) (i : Nat) : BC := .ds [iD (kR (qM k r w z) i), D.sl (dI .i64 (k8 (qM k r w z) i)) (kU (qM k r w z) i), D.sl (kI (kS (qM k r w z) i)) (List.length (kS (qM k r w z) i)), D.sl (dI .i64 (kZ (qM k r w z) i)) (kT (qM k r w z) i)]
theorem v2o (a : List Bx) (n : Nat) (k r : Int) (w : List Int) (c : Nat) (z d : Int) (hn : List.length a = n) (h1 : n ≤ 64) (hW : BsW a) (hm : List.length w = c) (h2 : c ≤ 1000000) : Fun 45 [.c (.d (D.sl (kP a) n)), .agg [iC k, iC r, .d (D.sl (dI .i64 w) c), iC z], iE d] (kF []) 0 (.e (yL (n4 d a (qM k r w z)))) (kF []) 0 := by
 have hsi : List.length (qM k r w z) ≤ 1 := mA k r w z
 have hsw : BsW (qM k r w z) := u9b k r w z (by omega)
 refine Fun.mk (n := 40) Tryz.func45 rfl rfl (Nat.le_of_ble_eq_true rfl) ?_
 intro cx hcx
 refine kH [.no, .no] True [(0, .e (kY a n)), (2, iV d), (4, rV 0 0)] [(0, some (42, .ds [iD k, iD r, dl w c, iD z]))] 1 trivial ?_
 refine kQ [.no] True [(0, .e (kY a n)), (2, iV d), (4, rV 0 0), (7, nV)] trivial ?_
 refine AW.seq ?_
 have hx1 : ((List.length (qM k r w z)) ≤ 1) := mA k r w z
 refine kH [.no, .call [] (.e (yL (qM k r w z))) [] 0 [] none, .no, .no] _ [(0, .e (kY a n)), (2, iV d), (7, nV), (15, .e (yL (qM k r w z))), (16, uV (List.length (qM k r w z))), (17, iV 0)] [] 1 (k9v k r w c z zo zo) ?_
 refine AW.block ?_
 refine AW.adoptS 7 4 63 rfl ?_
 refine kX 0 hcx (fun (x : {x : Nat × Nat × List Bx // match x with | (i, q, o) => (i ≤ List.length (qM k r w z)) ∧ (agL d a (qM k r w z) i = o) ∧ (List.length o = q) ∧ (q ≤ i * 4096) ∧ (BsW o)}) => match x with | ⟨(i, q, o), _⟩ => (⟨[(0, .e (kY a n)), (2, iV d), (7, oV 2 0 q 4), (15, .e (yL (qM k r w z))), (16, uV (List.length (qM k r w z))), (17, uV i)], [(2, some (63, .ds (kP o)))], 3⟩ : ES)) (fun x => match x with | ⟨(i, q, o), _⟩ => List.length (qM k r w z) - i) ⟨((0 : Nat), (0 : Nat), (([] : List Bx) : List Bx)), ⟨zo, rfl, rfl, zo, BsW.nil⟩⟩ [(2, 1)] (P := (kJ (kP a)) ∧ (kG n) ∧ (kM d) ∧ (kG 0) ∧ (kG 0) ∧ (kJ (kP (qM k r w z))) ∧ (kG (List.length (qM k r w z))) ∧ (kM (List.length (qM k r w z) : Int)) ∧ (kM 0) ∧ (((kP ([] : List Bx)) : List D) = ([] : List D))) zk ⟨rfl, rfl, rfl, rfl, rfl, rfl, rfl, rfl, rfl, (by rfl)⟩ ?_
 rintro ⟨⟨i, q, o⟩, hinv0⟩
 obtain ⟨hi, hI, hq, hqm, hO⟩ : (i ≤ List.length (qM k r w z)) ∧ (agL d a (qM k r w z) i = o) ∧ (List.length o = q) ∧ (q ≤ i * 4096) ∧ (BsW o) := hinv0
 refine qU (l := [(0, .e (kY a n)), (2, iV d), (7, oV 2 0 q 4), (15, .e (yL (qM k r w z))), (16, uV (List.length (qM k r w z))), (17, uV i)]) (g := [(2, some (63, .ds (kP o)))]) (nx := 3) rfl rfl rfl ?_
 by_cases hx2 : (((i : Nat) : Int) < (((List.length (qM k r w z)) : Nat) : Int))
 ·refine kH [.b true] (((i : Int) < (List.length (qM k r w z) : Int))) [(0, .e (kY a n)), (2, iV d), (7, oV 2 0 q 4), (15, .e (yL (qM k r w z))), (16, uV (List.length (qM k r w z))), (17, uV i), (18, bV true)] [(2, some (63, .ds (kP o)))] 3 zo ?_
  refine AW.seq ?_
  refine vI ?_
  refine AW.seq ?_
  refine AW.block ?_
  obtain ⟨hx3, hx4, hx5, hx6, hx7⟩ := BsW.at (qC : BsW (qM k r w z)) (i)
  refine kH [.n i, .ds (yJ (qM k r w z) i), .no, .no] ((kM (i : Int)) ∧ (i < (List.length (qM k r w z))) ∧ (List.take 4 (List.drop (i * 4) (kP (qM k r w z))) = (yJ (qM k r w z) i)) ∧ (((yJ (qM k r w z) i) : List D).length = 4)) [(0, .e (kY a n)), (2, iV d), (7, oV 2 0 q 4), (9, rV 3 0), (15, .e (yL (qM k r w z))), (16, uV (List.length (qM k r w z))), (17, uV i)] [(2, some (63, .ds (kP o))), (3, some (63, (eK k r w z i)))] 4 ⟨rfl, zo, (vH zo), rfl⟩ ?_
  refine kQ [.no, .no, .no] True [(0, .e (kY a n)), (2, iV d), (7, oV 2 0 q 4), (9, rV 3 0), (15, .e (yL (qM k r w z))), (16, uV (List.length (qM k r w z))), (17, uV i), (21, .e (kY a n)), (22, uV n), (23, iV 0)] trivial ?_
  refine AW.block ?_
  refine kX 0 hcx (fun (x : {x : Nat × Nat × List Bx // match x with | (j, p, x) => (j ≤ n) ∧ (agJ d a (qM k r w z) i j = x) ∧ (List.length x = p) ∧ (p ≤ i * 4096 + j * 64) ∧ (BsW x)}) => match x with | ⟨(j, p, x), _⟩ => (⟨[(0, .e (kY a n)), (2, iV d), (7, oV 4 0 p 4), (9, rV 3 0), (15, .e (yL (qM k r w z))), (16, uV (List.length (qM k r w z))), (17, uV i), (21, .e (kY a n)), (22, uV n), (23, uV j)], [(4, some (63, .ds (kP x))), (3, some (63, (eK k r w z i)))], 5⟩ : ES)) (fun x => match x with | ⟨(j, p, x), _⟩ => n - j) ⟨((0 : Nat), (q : Nat), (o : List Bx)), ⟨zo, (k9q hI), (by assumption), zo, hO⟩⟩ [(4, 2)] (P := (kJ (kP a)) ∧ (kG n) ∧ (kM d) ∧ (kG 0) ∧ (kG q) ∧ (kG 0) ∧ (kJ (kP (qM k r w z))) ∧ (kG (List.length (qM k r w z))) ∧ (kM (List.length (qM k r w z) : Int)) ∧ (kM (i : Int)) ∧ (kJ (kP a)) ∧ (kG n) ∧ (kM (n : Int)) ∧ (kM 0) ∧ (kJ (kP o)) ∧ (kJ (yJ (qM k r w z) i))) zk ⟨rfl, rfl, rfl, rfl, rfl, rfl, rfl, rfl, rfl, rfl, rfl, rfl, rfl, rfl, rfl, rfl⟩ ?_
  rintro ⟨⟨j, p, x⟩, hinv1⟩
  obtain ⟨hj, hJ, hp, hpm, hX⟩ : (j ≤ n) ∧ (agJ d a (qM k r w z) i j = x) ∧ (List.length x = p) ∧ (p ≤ i * 4096 + j * 64) ∧ (BsW x) := hinv1
  refine qU (l := [(0, .e (kY a n)), (2, iV d), (7, oV 4 0 p 4), (9, rV 3 0), (15, .e (yL (qM k r w z))), (16, uV (List.length (qM k r w z))), (17, uV i), (21, .e (kY a n)), (22, uV n), (23, uV j)]) (g := [(4, some (63, .ds (kP x))), (3, some (63, (eK k r w z i)))]) (nx := 5) rfl rfl rfl ?_
  by_cases hx8 : (((j : Nat) : Int) < ((n : Nat) : Int))
  ·refine kH [.b true] (((j : Int) < (n : Int))) [(0, .e (kY a n)), (2, iV d), (7, oV 4 0 p 4), (9, rV 3 0), (15, .e (yL (qM k r w z))), (16, uV (List.length (qM k r w z))), (17, uV i), (21, .e (kY a n)), (22, uV n), (23, uV j), (24, bV true)] [(3, some (63, (eK k r w z i))), (4, some (63, .ds (kP x)))] 5 zo ?_
   refine AW.seq ?_
   refine vI ?_
   refine AW.seq ?_
   refine AW.block ?_
   obtain ⟨hx9, hx10, hx11, hx12, hx13⟩ := BsW.at (qC : BsW a) (j)
   refine kH [.n j, .ds (yJ a j), .no, .no] ((kM (j : Int)) ∧ (j < n) ∧ (List.take 4 (List.drop (j * 4) (kP a)) = (yJ a j)) ∧ (((yJ a j) : List D).length = 4)) [(0, .e (kY a n)), (2, iV d), (7, oV 4 0 p 4), (9, rV 3 0), (11, rV 5 0), (15, .e (yL (qM k r w z))), (16, uV (List.length (qM k r w z))), (17, uV i), (21, .e (kY a n)), (22, uV n), (23, uV j)] [(3, some (63, (eK k r w z i))), (4, some (63, .ds (kP x))), (5, some (63, .ds (yJ a j)))] 6 ⟨rfl, zo, (vH zo), rfl⟩ ?_
   have hx14 : (((0 : Int) ≤ (eE ([(kE (kR a j) (k8 a j) (kU a j) (kS a j) (kZ a j) (kT a j))] : List Bx) ([(kE (zK d (kR (qM k r w z) i) (kR a j)) (u5 d k r w z i a j) (zN d 2 (kU (qM k r w z) i) (kU a j)) (u4 d k r w z i a j) (u3 d k r w z i a j) (zN d 8 (kT (qM k r w z) i) (kT a j)))] : List Bx))) ∧ ((eE ([(kE (kR a j) (k8 a j) (kU a j) (kS a j) (kZ a j) (kT a j))] : List Bx) ([(kE (zK d (kR (qM k r w z) i) (kR a j)) (u5 d k r w z i a j) (zN d 2 (kU (qM k r w z) i) (kU a j)) (u4 d k r w z i a j) (u3 d k r w z i a j) (zN d 8 (kT (qM k r w z) i) (kT a j)))] : List Bx)) ≤ 3)) := rX _ _
   have hx15 : ((List.length (yE ([(kE (kR a j) (k8 a j) (kU a j) (kS a j) (kZ a j) (kT a j))] : List Bx) ([(kE (zK d (kR (qM k r w z) i) (kR a j)) (u5 d k r w z i a j) (zN d 2 (kU (qM k r w z) i) (kU a j)) (u4 d k r w z i a j) (u3 d k r w z i a j) (zN d 8 (kT (qM k r w z) i) (kT a j)))] : List Bx))) ≤ 64) := rW _ _
   refine kH (.no :: .no :: .no :: .call [] (.tup [.c (.d (D.sl (kP (yE ([(kE (kR a j) (k8 a j) (kU a j) (kS a j) (kZ a j) (kT a j))] : List Bx) ([(kE (zK d (kR (qM k r w z) i) (kR a j)) (u5 d k r w z i a j) (zN d 2 (kU (qM k r w z) i) (kU a j)) (u4 d k r w z i a j) (u3 d k r w z i a j) (zN d 8 (kT (qM k r w z) i) (kT a j)))] : List Bx))) (List.length (yE ([(kE (kR a j) (k8 a j) (kU a j) (kS a j) (kZ a j) (kT a j))] : List Bx) ([(kE (zK d (kR (qM k r w z) i) (kR a j)) (u5 d k r w z i a j) (zN d 2 (kU (qM k r w z) i) (kU a j)) (u4 d k r w z i a j) (u3 d k r w z i a j) (zN d 8 (kT (qM k r w z) i) (kT a j)))] : List Bx))))), iE (eE ([(kE (kR a j) (k8 a j) (kU a j) (kS a j) (kZ a j) (kT a j))] : List Bx) ([(kE (zK d (kR (qM k r w z) i) (kR a j)) (u5 d k r w z i a j) (zN d 2 (kU (qM k r w z) i) (kU a j)) (u4 d k r w z i a j) (u3 d k r w z i a j) (zN d 8 (kT (qM k r w z) i) (kT a j)))] : List Bx))]) [] 0 [] none :: qD 5 []) _ [(0, .e (kY a n)), (2, iV d), (7, oV 4 0 p 4), (9, rV 3 0), (12, qB (kP (yE ([(kE (kR a j) (k8 a j) (kU a j) (kS a j) (kZ a j) (kT a j))] : List Bx) ([(kE (zK d (kR (qM k r w z) i) (kR a j)) (u5 d k r w z i a j) (zN d 2 (kU (qM k r w z) i) (kU a j)) (u4 d k r w z i a j) (u3 d k r w z i a j) (zN d 8 (kT (qM k r w z) i) (kT a j)))] : List Bx))) (List.length (yE ([(kE (kR a j) (k8 a j) (kU a j) (kS a j) (kZ a j) (kT a j))] : List Bx) ([(kE (zK d (kR (qM k r w z) i) (kR a j)) (u5 d k r w z i a j) (zN d 2 (kU (qM k r w z) i) (kU a j)) (u4 d k r w z i a j) (u3 d k r w z i a j) (zN d 8 (kT (qM k r w z) i) (kT a j)))] : List Bx)))), (15, .e (yL (qM k r w z))), (16, uV (List.length (qM k r w z))), (17, uV i), (21, .e (kY a n)), (22, uV n), (23, uV j)] [(3, some (63, (eK k r w z i))), (4, some (63, .ds (kP x)))] 6 (u07 (kR a j) (k8 a j) (kU a j) (kS a j) (List.length (kS a j)) (kZ a j) (kT a j) (kR (qM k r w z) i) (k8 (qM k r w z) i) (kU (qM k r w z) i) (kS (qM k r w z) i) (List.length (kS (qM k r w z) i)) (kZ (qM k r w z) i) (kT (qM k r w z) i) d zo zo rfl zo zo zo (BsW.ms (qC : BsW a) _) zo zo rfl zo zo zo (BsW.ms (qC : BsW (qM k r w z)) _)) ?_
   refine vY [.no, .no, .ap none (p + (List.length (yE ([(kE (kR a j) (k8 a j) (kU a j) (kS a j) (kZ a j) (kT a j))] : List Bx) ([(kE (zK d (kR (qM k r w z) i) (kR a j)) (u5 d k r w z i a j) (zN d 2 (kU (qM k r w z) i) (kU a j)) (u4 d k r w z i a j) (u3 d k r w z i a j) (zN d 8 (kT (qM k r w z) i) (kT a j)))] : List Bx)))) (kP (x ++ (yE ([(kE (kR a j) (k8 a j) (kU a j) (kS a j) (kZ a j) (kT a j))] : List Bx) ([(kE (zK d (kR (qM k r w z) i) (kR a j)) (u5 d k r w z i a j) (zN d 2 (kU (qM k r w z) i) (kU a j)) (u4 d k r w z i a j) (u3 d k r w z i a j) (zN d 8 (kT (qM k r w z) i) (kT a j)))] : List Bx)))), .no] (((kP (yE ([(kE (kR a j) (k8 a j) (kU a j) (kS a j) (kZ a j) (kT a j))] : List Bx) ([(kE (zK d (kR (qM k r w z) i) (kR a j)) (u5 d k r w z i a j) (zN d 2 (kU (qM k r w z) i) (kU a j)) (u4 d k r w z i a j) (u3 d k r w z i a j) (zN d 8 (kT (qM k r w z) i) (kT a j)))] : List Bx))).length = (List.length (yE ([(kE (kR a j) (k8 a j) (kU a j) (kS a j) (kZ a j) (kT a j))] : List Bx) ([(kE (zK d (kR (qM k r w z) i) (kR a j)) (u5 d k r w z i a j) (zN d 2 (kU (qM k r w z) i) (kU a j)) (u4 d k r w z i a j) (u3 d k r w z i a j) (zN d 8 (kT (qM k r w z) i) (kT a j)))] : List Bx))) * 4) ∧ (((kP x) : List D).length = p * 4) ∧ ((p + (List.length (yE ([(kE (kR a j) (k8 a j) (kU a j) (kS a j) (kZ a j) (kT a j))] : List Bx) ([(kE (zK d (kR (qM k r w z) i) (kR a j)) (u5 d k r w z i a j) (zN d 2 (kU (qM k r w z) i) (kU a j)) (u4 d k r w z i a j) (u3 d k r w z i a j) (zN d 8 (kT (qM k r w z) i) (kT a j)))] : List Bx)))) * 80 ≤ 140737488355328) ∧ (p + (List.length (yE ([(kE (kR a j) (k8 a j) (kU a j) (kS a j) (kZ a j) (kT a j))] : List Bx) ([(kE (zK d (kR (qM k r w z) i) (kR a j)) (u5 d k r w z i a j) (zN d 2 (kU (qM k r w z) i) (kU a j)) (u4 d k r w z i a j) (u3 d k r w z i a j) (zN d 8 (kT (qM k r w z) i) (kT a j)))] : List Bx))) = (p + (List.length (yE ([(kE (kR a j) (k8 a j) (kU a j) (kS a j) (kZ a j) (kT a j))] : List Bx) ([(kE (zK d (kR (qM k r w z) i) (kR a j)) (u5 d k r w z i a j) (zN d 2 (kU (qM k r w z) i) (kU a j)) (u4 d k r w z i a j) (u3 d k r w z i a j) (zN d 8 (kT (qM k r w z) i) (kT a j)))] : List Bx))))) ∧ (((kP x) : List D) ++ (kP (yE ([(kE (kR a j) (k8 a j) (kU a j) (kS a j) (kZ a j) (kT a j))] : List Bx) ([(kE (zK d (kR (qM k r w z) i) (kR a j)) (u5 d k r w z i a j) (zN d 2 (kU (qM k r w z) i) (kU a j)) (u4 d k r w z i a j) (u3 d k r w z i a j) (zN d 8 (kT (qM k r w z) i) (kT a j)))] : List Bx))) = (kP (x ++ (yE ([(kE (kR a j) (k8 a j) (kU a j) (kS a j) (kZ a j) (kT a j))] : List Bx) ([(kE (zK d (kR (qM k r w z) i) (kR a j)) (u5 d k r w z i a j) (zN d 2 (kU (qM k r w z) i) (kU a j)) (u4 d k r w z i a j) (u3 d k r w z i a j) (zN d 8 (kT (qM k r w z) i) (kT a j)))] : List Bx)))))) [(0, .e (kY a n)), (2, iV d), (7, oV 6 0 (p + (List.length (yE ([(kE (kR a j) (k8 a j) (kU a j) (kS a j) (kZ a j) (kT a j))] : List Bx) ([(kE (zK d (kR (qM k r w z) i) (kR a j)) (u5 d k r w z i a j) (zN d 2 (kU (qM k r w z) i) (kU a j)) (u4 d k r w z i a j) (u3 d k r w z i a j) (zN d 8 (kT (qM k r w z) i) (kT a j)))] : List Bx)))) 4), (9, rV 3 0), (15, .e (yL (qM k r w z))), (16, uV (List.length (qM k r w z))), (17, uV i), (21, .e (kY a n)), (22, uV n), (23, uV j)] [(3, some (63, (eK k r w z i))), (6, some (63, .ds (kP (x ++ (yE ([(kE (kR a j) (k8 a j) (kU a j) (kS a j) (kZ a j) (kT a j))] : List Bx) ([(kE (zK d (kR (qM k r w z) i) (kR a j)) (u5 d k r w z i a j) (zN d 2 (kU (qM k r w z) i) (kU a j)) (u4 d k r w z i a j) (u3 d k r w z i a j) (zN d 8 (kT (qM k r w z) i) (kT a j)))] : List Bx))))))] 7 ⟨f0, f0, zo, zo, (lO _ _).symm⟩ ?_
   refine u2 [.w, .no] (uZ ((j : Int) + 1)) [(0, .e (kY a n)), (2, iV d), (7, oV 6 0 (p + (List.length (yE ([(kE (kR a j) (k8 a j) (kU a j) (kS a j) (kZ a j) (kT a j))] : List Bx) ([(kE (zK d (kR (qM k r w z) i) (kR a j)) (u5 d k r w z i a j) (zN d 2 (kU (qM k r w z) i) (kU a j)) (u4 d k r w z i a j) (u3 d k r w z i a j) (zN d 8 (kT (qM k r w z) i) (kT a j)))] : List Bx)))) 4), (9, rV 3 0), (15, .e (yL (qM k r w z))), (16, uV (List.length (qM k r w z))), (17, uV i), (21, .e (kY a n)), (22, uV n), (23, iV (↑j + 1))] ⟨by omega, by omega⟩ ?_
   exact kV ⟨(((j + 1) : Nat), ((p + (List.length (yE ([(kE (kR a j) (k8 a j) (kU a j) (kS a j) (kZ a j) (kT a j))] : List Bx) ([(kE (zK d (kR (qM k r w z) i) (kR a j)) (u5 d k r w z i a j) (zN d 2 (kU (qM k r w z) i) (kU a j)) (u4 d k r w z i a j) (u3 d k r w z i a j) (zN d 8 (kT (qM k r w z) i) (kT a j)))] : List Bx)))) : Nat), ((x ++ (yE ([(kE (kR a j) (k8 a j) (kU a j) (kS a j) (kZ a j) (kT a j))] : List Bx) ([(kE (zK d (kR (qM k r w z) i) (kR a j)) (u5 d k r w z i a j) (zN d 2 (kU (qM k r w z) i) (kU a j)) (u4 d k r w z i a j) (u3 d k r w z i a j) (zN d 8 (kT (qM k r w z) i) (kT a j)))] : List Bx))) : List Bx)), ⟨zo, (k9o hJ), (by (simp only [qA, k9, qS, qY, q5, List.length_append, List.length_cons, List.length_nil] <;> omega)), zo, (hX.app (k67 hW _ _))⟩⟩ [(4, 6)] (P := (kJ (kP a)) ∧ (kG n) ∧ (kM d) ∧ (kG 0) ∧ (kG (p + (List.length (yE ([(kE (kR a j) (k8 a j) (kU a j) (kS a j) (kZ a j) (kT a j))] : List Bx) ([(kE (zK d (kR (qM k r w z) i) (kR a j)) (u5 d k r w z i a j) (zN d 2 (kU (qM k r w z) i) (kU a j)) (u4 d k r w z i a j) (u3 d k r w z i a j) (zN d 8 (kT (qM k r w z) i) (kT a j)))] : List Bx))))) ∧ (kG 0) ∧ (kJ (kP (qM k r w z))) ∧ (kG (List.length (qM k r w z))) ∧ (kM (List.length (qM k r w z) : Int)) ∧ (kM (i : Int)) ∧ (kJ (kP a)) ∧ (kG n) ∧ (kM (n : Int)) ∧ (bU j) ∧ (kJ (kP (x ++ (yE ([(kE (kR a j) (k8 a j) (kU a j) (kS a j) (kZ a j) (kT a j))] : List Bx) ([(kE (zK d (kR (qM k r w z) i) (kR a j)) (u5 d k r w z i a j) (zN d 2 (kU (qM k r w z) i) (kU a j)) (u4 d k r w z i a j) (u3 d k r w z i a j) (zN d 8 (kT (qM k r w z) i) (kT a j)))] : List Bx))))) ∧ (kJ (yJ (qM k r w z) i))) zk ⟨rfl, rfl, rfl, rfl, rfl, rfl, rfl, rfl, rfl, rfl, rfl, rfl, rfl, (by rfl), rfl, rfl⟩ (show n - (j + 1) < n - j from zo)
  ·refine kH [.b false] (¬ ((j : Int) < (n : Int))) [(0, .e (kY a n)), (2, iV d), (7, oV 4 0 p 4), (9, rV 3 0), (15, .e (yL (qM k r w z))), (16, uV (List.length (qM k r w z))), (17, uV i), (21, .e (kY a n)), (22, uV n), (23, uV j), (24, bV false)] [(3, some (63, (eK k r w z i))), (4, some (63, .ds (kP x)))] 5 zo ?_
   refine AW.seq ?_
   refine zf ?_
   refine AW.exit ?_
   refine vY [.w, .no] (uZ ((i : Int) + 1)) [(0, .e (kY a n)), (2, iV d), (7, oV 4 0 p 4), (15, .e (yL (qM k r w z))), (16, uV (List.length (qM k r w z))), (17, iV (↑i + 1))] [(4, some (63, .ds (kP x)))] 5 ⟨by omega, by omega⟩ ?_
   exact kV ⟨(((i + 1) : Nat), (p : Nat), (x : List Bx)), ⟨zo, (u55 hJ zo), (by assumption), zo, (by assumption)⟩⟩ [(2, 4)] (P := (kJ (kP a)) ∧ (kG n) ∧ (kM d) ∧ (kG 0) ∧ (kG p) ∧ (kJ (kP (qM k r w z))) ∧ (kG (List.length (qM k r w z))) ∧ (kM (List.length (qM k r w z) : Int)) ∧ (bU i) ∧ (kJ (kP x))) zk ⟨rfl, rfl, rfl, rfl, rfl, rfl, rfl, rfl, (by rfl), rfl⟩ (show List.length (qM k r w z) - (i + 1) < List.length (qM k r w z) - i from zo)
 ·refine kH [.b false] (¬ ((i : Int) < (List.length (qM k r w z) : Int))) [(0, .e (kY a n)), (2, iV d), (7, oV 2 0 q 4), (15, .e (yL (qM k r w z))), (16, uV (List.length (qM k r w z))), (17, uV i), (18, bV false)] [(2, some (63, .ds (kP o)))] 3 zo ?_
  refine AW.seq ?_
  refine zf ?_
  refine AW.exit ?_
  refine kH [.no, .no] True [(6, oV 2 0 q 4)] [(2, some (63, .ds (kP o)))] 3 trivial ?_
  refine AW.freeze 2 (l' := [(6, .e (kY o q))]) (g' := []) rfl (FzS.cons rfl (.e (.c (@FzC.own 2 ((kP o) : List D) 0 q 4 true ((kP o) : List D) zC f0))) FzS.nil) FzG.nil ?_
  have hz1 : n4 d a (qM k r w z) = o := by have h9 := hI; rw [show i = List.length (qM k r w z) by omega] at h9; exact h9
  refine AW.ret ?_
  exact kA (.inr rfl) [] (P := (((kP (n4 d a (qM k r w z))) : List D) = (kP o)) ∧ (((List.length (n4 d a (qM k r w z))) : Nat) = q)) zk ⟨(by (rw [hz1]; done)), (by (rw [hz1]; omega))⟩
theorem u57 (x : Int)  : Fun 28 [iE x] (kF []) 0 (.e (.agg [iC 4, .d (D.sl (dI .i64 ([x, x] : List Int)) 1), .d (D.sl (kI ([([3] : List Int)] : List (List Int))) 1), .d (D.sl (dI .i64 ([64, 64] : List Int)) 1)])) (kF []) 0 := by
 refine Fun.mk (n := 14) Tryz.func28 rfl rfl (Nat.le_of_ble_eq_true rfl) ?_
 intro cx hcx
 refine kH [.no] True [(0, iV x), (2, rV 0 0)] [(0, some (63, .ds [iD 0, qJ, qJ, qJ]))] 1 trivial ?_
 refine kH (qD 5 ((.fz (.no)) :: qD 6 [])) (([iD 3] : List D).length = 1 * 1) [(2, rV 0 0)] [(0, some (63, .cs [iC 4, .own 1 0 1 2 true, .own 3 0 1 1 true, .own 4 0 1 2 true])), (1, some (95, .ds [iD x, iD x])), (3, some (38, .ds [D.sl [iD 3] 1])), (4, some (95, .ds [iD 64, iD 64]))] 5 f0 ?_
 refine AW.freeze 1 (l' := [(2, rV 0 0)]) (g' := [(0, some (63, .cs [iC 4, .d (D.sl [iD x, iD x] 1), .own 3 0 1 1 true, .own 4 0 1 2 true])), (3, some (38, .ds [D.sl [iD 3] 1])), (4, some (95, .ds [iD 64, iD 64]))]) rfl (FzS.cons rfl (.same _) FzS.nil) (FzG.to (bc := .cs [iC 4, .own 1 0 1 2 true, .own 3 0 1 1 true, .own 4 0 1 2 true]) rfl (by rfl) (FzL.cons (.same _) (FzL.cons (@FzC.own 1 ([iD x, iD x] : List D) 0 (1 : Nat) 2 true ([iD x, iD x] : List D) zC f0) (FzL.cons (.same _) (FzL.cons (.same _) FzL.nil)))) (u1 rfl rfl (u1 rfl rfl FzG.nil))) ?_
 refine AW.freeze 3 (l' := [(2, rV 0 0)]) (g' := [(0, some (63, .cs [iC 4, .d (D.sl [iD x, iD x] 1), .d (D.sl [D.sl [iD 3] 1] 1), .own 4 0 1 2 true])), (4, some (95, .ds [iD 64, iD 64]))]) rfl (FzS.cons rfl (.same _) FzS.nil) (FzG.to (bc := .cs [iC 4, .d (D.sl [iD x, iD x] 1), .own 3 0 1 1 true, .own 4 0 1 2 true]) rfl (by rfl) (FzL.cons (.same _) (FzL.cons (.same _) (FzL.cons (@FzC.own 3 ([D.sl [iD 3] 1] : List D) 0 (1 : Nat) 1 true ([D.sl [iD 3] 1] : List D) (by rw [List.drop_zero, Nat.mul_one, List.take_of_length_le (by (simp only [qA, k9, qS, qY, q5, qP, List.length_append, List.length_cons, List.length_nil, List.length_take, List.length_drop, List.length_replicate, List.length_set, List.length_map, List.length_reverse, Nat.mul_one] <;> omega))]) f0) (FzL.cons (.same _) FzL.nil)))) (u1 rfl rfl FzG.nil)) ?_
 refine AW.freeze 4 (l' := [(2, rV 0 0)]) (g' := [(0, some (63, .ds [iD 4, D.sl [iD x, iD x] 1, D.sl [D.sl [iD 3] 1] 1, D.sl [iD 64, iD 64] 1]))]) rfl (FzS.cons rfl (.same _) FzS.nil) (FzG.to (bc := .cs [iC 4, .d (D.sl [iD x, iD x] 1), .d (D.sl [D.sl [iD 3] 1] 1), .own 4 0 1 2 true]) rfl (by rfl) (FzL.cons (.same _) (FzL.cons (.same _) (FzL.cons (.same _) (FzL.cons (@FzC.own 4 ([iD 64, iD 64] : List D) 0 (1 : Nat) 2 true ([iD 64, iD 64] : List D) zC f0) FzL.nil)))) FzG.nil) ?_
 refine AW.ret ?_
 exact kA (.inr rfl) [] (P := (kM 4) ∧ (((dI .i64 ([x, x] : List Int)) : List D) = [iD x, iD x]) ∧ (kG 1) ∧ (((kI ([([3] : List Int)] : List (List Int))) : List D) = [D.sl [iD 3] 1]) ∧ (kG 1) ∧ (((dI .i64 ([64, 64] : List Int)) : List D) = [iD 64, iD 64]) ∧ (kG 1)) zk ⟨rfl, (by rfl), rfl, (by rfl), rfl, (by rfl), rfl⟩
theorem lS {p : Prop} (h : p := by (simp only [qA, k9, qS, qY, q5, vG, y4, vU, qP, List.length_append, List.length_cons, List.length_nil, List.length_take, List.length_drop, List.length_replicate, List.length_set, List.length_map, List.length_reverse, Nat.mul_one] <;> omega)) : p := h
theorem u08 (cs : List Co) (n : Nat) (hn : List.length cs = n) (h1 : n ≤ 1000) (hW : ChW cs) : Fun 47 [.c (.d (D.sl (uI 0 cs) n)), .c (.fn 48 [])] (kF []) 0 (oV 0 0 n 4) (kF [(0, some (42, .ds (uI 0 cs)))]) 1 := by
 refine Fun.mk (n := 22) Tryz.func47 rfl rfl (Nat.le_of_ble_eq_true rfl) ?_
 intro cx hcx
 refine kH [.no] True [(0, qB (uI 0 cs) n), (1, .e (.c (.fn 48 [])))] [] 0 trivial ?_
 refine kQ [.no] True [(0, qB (uI 0 cs) n), (1, .e (.c (.fn 48 []))), (5, nV)] trivial ?_
 refine AW.seq ?_
 refine kQ [.no, .no, .no] True [(1, .e (.c (.fn 48 []))), (5, nV), (8, qB (uI 0 cs) n), (9, uV n), (10, iV 0)] trivial ?_
 refine AW.block ?_
 refine AW.adoptS 5 4 42 rfl ?_
 refine kX 0 hcx (fun (x : {x : Nat × List Co // match x with | (i, o) => (i ≤ n) ∧ (o = List.take i cs) ∧ (List.length o = i) ∧ (ChW o)}) => match x with | ⟨(i, o), _⟩ => (⟨[(1, .e (.c (.fn 48 []))), (5, oV 1 0 i 4), (8, qB (uI 0 cs) n), (9, uV n), (10, uV i)], [(1, some (42, .ds (uI 0 o)))], 2⟩ : ES)) (fun x => match x with | ⟨(i, o), _⟩ => n - i) ⟨((0 : Nat), (([] : List Co) : List Co)), ⟨zo, rfl, rfl, ChW.nil⟩⟩ [(1, 0)] (P := (kG 0) ∧ (kG 0) ∧ (kJ (uI 0 cs)) ∧ (kG n) ∧ (kM (n : Int)) ∧ (kM 0) ∧ (((uI 0 ([] : List Co)) : List D) = ([] : List D))) zk ⟨rfl, rfl, rfl, rfl, rfl, rfl, (by rfl)⟩ ?_
 rintro ⟨⟨i, o⟩, hinv0⟩
 obtain ⟨hi, ho, hl, hO⟩ : (i ≤ n) ∧ (o = List.take i cs) ∧ (List.length o = i) ∧ (ChW o) := hinv0
 refine qU (l := [(1, .e (.c (.fn 48 []))), (5, oV 1 0 i 4), (8, qB (uI 0 cs) n), (9, uV n), (10, uV i)]) (g := [(1, some (42, .ds (uI 0 o)))]) (nx := 2) rfl rfl rfl ?_
 by_cases hx1 : (((i : Nat) : Int) < ((n : Nat) : Int))
 ·refine kH [.b true] (((i : Int) < (n : Int))) [(1, .e (.c (.fn 48 []))), (5, oV 1 0 i 4), (8, qB (uI 0 cs) n), (9, uV n), (10, uV i), (11, bV true)] [(1, some (42, .ds (uI 0 o)))] 2 zo ?_
  refine AW.seq ?_
  refine vI ?_
  refine AW.seq ?_
  refine AW.block ?_
  have hx2 : ((List.length (u7 cs i)) ≤ 1000000) := (ChW.get (qC : ChW cs) (i))
  refine kH [.n i, .ds [iD (bD cs i), iD (aV cs i), dl (u7 cs i) (List.length (u7 cs i)), iD (bC cs i)], .no, .no] ((kM (i : Int)) ∧ (i < n) ∧ (List.take 4 (List.drop (i * 4) (uI 0 cs)) = [iD (bD cs i), iD (aV cs i), dl (u7 cs i) (List.length (u7 cs i)), iD (bC cs i)]) ∧ (([iD (bD cs i), iD (aV cs i), dl (u7 cs i) (List.length (u7 cs i)), iD (bC cs i)] : List D).length = 4)) [(1, .e (.c (.fn 48 []))), (5, oV 1 0 i 4), (7, rV 2 0), (8, qB (uI 0 cs) n), (9, uV n), (10, uV i)] [(1, some (42, .ds (uI 0 o))), (2, some (42, .ds [iD (bD cs i), iD (aV cs i), dl (u7 cs i) (List.length (u7 cs i)), iD (bC cs i)]))] 3 ⟨rfl, zo, (o5 (i := i) zo), rfl⟩ ?_
  refine vY [.no, .no, .no, .call [] (.e (.agg [iC (bD cs i), iC (aV cs i), .d (dl (u7 cs i) (List.length (u7 cs i))), iC (bC cs i)])) [] 0 [] none, .no, .ap none (i + 1) (uI 0 (o ++ ([(rM (bD cs i) (aV cs i) (u7 cs i) (bC cs i))] : List Co))), .no] ((_) ∧ ([iD (bD cs i), iD (aV cs i), dl (u7 cs i) (List.length (u7 cs i)), iD (bC cs i)].length = 1 * 4) ∧ (((uI 0 o) : List D).length = i * 4) ∧ ((i + 1) * 48 ≤ 140737488355328) ∧ (i + 1 = (i + 1)) ∧ (((uI 0 o) : List D) ++ [iD (bD cs i), iD (aV cs i), dl (u7 cs i) (List.length (u7 cs i)), iD (bC cs i)] = (uI 0 (o ++ ([(rM (bD cs i) (aV cs i) (u7 cs i) (bC cs i))] : List Co))))) [(1, .e (.c (.fn 48 []))), (5, oV 4 0 (i + 1) 4), (8, qB (uI 0 cs) n), (9, uV n), (10, uV i)] [(4, some (42, .ds (uI 0 (o ++ ([(rM (bD cs i) (aV cs i) (u7 cs i) (bC cs i))] : List Co)))))] 5 ⟨(xT (bD cs i) (aV cs i) (u7 cs i) (List.length (u7 cs i)) (bC cs i) rfl zo), lS, lS, zo, zo, (u7t o (bD cs i) (aV cs i) (u7 cs i) (bC cs i) (List.length (u7 cs i)) (by rfl))⟩ ?_
  refine u2 [.w, .no] (uZ ((i : Int) + 1)) [(1, .e (.c (.fn 48 []))), (5, oV 4 0 (i + 1) 4), (8, qB (uI 0 cs) n), (9, uV n), (10, iV (↑i + 1))] ⟨by omega, by omega⟩ ?_
  exact kV ⟨(((i + 1) : Nat), ((o ++ ([(rM (bD cs i) (aV cs i) (u7 cs i) (bC cs i))] : List Co)) : List Co)), ⟨zo, (u2c ho zo), (by (simp only [qA, k9, qS, qY, q5, vG, y4, vU, List.length_append, List.length_cons, List.length_nil] <;> omega)), (ChW.app hO (ChW.one (ChW.get hW _)))⟩⟩ [(1, 4)] (P := (kG 0) ∧ (kG (i + 1)) ∧ (kJ (uI 0 cs)) ∧ (kG n) ∧ (kM (n : Int)) ∧ (bU i) ∧ (kJ (uI 0 (o ++ ([(rM (bD cs i) (aV cs i) (u7 cs i) (bC cs i))] : List Co))))) zk ⟨rfl, rfl, rfl, rfl, rfl, (by rfl), rfl⟩ (show n - (i + 1) < n - i from zo)
 ·refine kH [.b false] (¬ ((i : Int) < (n : Int))) [(1, .e (.c (.fn 48 []))), (5, oV 1 0 i 4), (8, qB (uI 0 cs) n), (9, uV n), (10, uV i), (11, bV false)] [(1, some (42, .ds (uI 0 o)))] 2 zo ?_
  refine AW.seq ?_
  refine zf ?_
  refine AW.exit ?_
  refine kH [.no, .no] True [(4, oV 1 0 i 4)] [(1, some (42, .ds (uI 0 o)))] 2 trivial ?_
  obtain rfl : n = i := (by omega)
  have hz1 : o = cs := by rw [ho, ← hn]; exact List.take_length
  refine AW.ret ?_
  exact kA (.inr rfl) [(0, 1)] (P := (kG 0) ∧ (kG n) ∧ (((uI 0 cs) : List D) = (uI 0 o))) zk ⟨rfl, rfl, (by (rw [hz1]; done))⟩
abbrev yO (ps : List Pt) (n : Nat) (k : Int) (r : Int) (w : List Int) (z : Int) (j : Nat) := beM (vF ps n k r w z j) (vT ps n k r w z j) (vC ps n k r w z j) (y3 ps n k r w z j) (vB ps n k r w z j)
abbrev eJ (ps : List Pt) (n : Nat) (k : Int) (r : Int) (w : List Int) (z : Int) (j : Nat) : BC := .ds [iD (vT ps n k r w z j), iD (vC ps n k r w z j), D.sl (dI .i64 (y3 ps n k r w z j)) (List.length (y3 ps n k r w z j)), iD (vB ps n k r w z j)]
theorem u5h (ps : List Pt) (n : Nat) (k r : Int) (w : List Int) (c : Nat) (z : Int) (hn : List.length ps = n) (h1 : n ≤ 1000) (hW : PsW ps) (hw : List.length w = c) (h5 : c ≤ 1000000) (hr : -9223372036854775808 ≤ r ∧ r ≤ 9223372036854775807) (hz : -9223372036854775808 ≤ z ∧ z ≤ 9223372036854775807) (hG : ∀ j, j < n → uK ps = 0 → 1 ≤ List.length (kK (vF ps n k r w z j))) : Fun 20 [.c (.d (D.sl (qH ps) n)), .agg [iC k, iC r, .d (D.sl (dI .i64 w) c), iC z]] (kF []) 0 (.tup [.c (.d (D.sl (uI 0 (uF ps n k r w z)) (List.length (uF ps n k r w z)))), .agg [iC (cK ps), iC (cL ps)], iE (uK ps)]) (kF []) 0 := by
 refine Fun.mk (n := 68) Tryz.func20 rfl rfl (Nat.le_of_ble_eq_true rfl) ?_
 intro cx hcx
 refine kH (qD 4 []) True [(0, qB (qH ps) n), (3, rV 0 0), (5, rV 1 0)] [(0, some (42, .ds [iD k, iD r, dl w c, iD z])), (1, some (32, .ds [iD 0, iD 0]))] 2 trivial ?_
 refine kH (.no :: .call [] (.tup [.c (.d (D.sl (v8 (uL ps)) (List.length (uL ps)))), .agg [iC (cK ps), iC (cL ps)], iE (uK ps)]) [] 0 [] none :: qD 8 []) _ [(0, qB (qH ps) n), (3, rV 0 0), (5, rV 1 0), (7, qB (v8 (uL ps)) (List.length (uL ps))), (8, rV 2 0), (9, iV (uK ps))] [(0, some (42, .ds [iD k, iD r, dl w c, iD z])), (1, some (32, .ds [iD 0, iD 0])), (2, some (32, .ds [iD (cK ps), iD (cL ps)]))] 3 (k2t ps n zo zo (qC : PsW ps)) ?_
 refine AW.seq ?_
 by_cases hx1 : ((uK ps) ≠ 0)
 ·refine kQ [.no, .b true] (((uK ps) ≠ 0)) [(0, qB (qH ps) n), (3, rV 0 0), (5, rV 1 0), (7, qB (v8 (uL ps)) (List.length (uL ps))), (8, rV 2 0), (9, iV (uK ps)), (21, bV true)] zo ?_
  refine zt ?_
  refine kH (qD 5 []) True [(4, nV), (5, rV 1 0), (6, iV (uK ps))] [(1, some (32, .ds [iD (cK ps), iD (cL ps)]))] 3 trivial ?_
  have hz1 := u4o (n := n) (k := k) (r := r) (w := w) (z := z) (ps := ps) (by omega)
  refine y6 (l' := [(4, qB ([] : List D) 0), (5, rV 1 0), (6, iV (uK ps))]) (g' := [(1, some (32, .ds [iD (cK ps), iD (cL ps)]))]) (NlS.cons rfl (.e (.c .nil)) (NlS.cons rfl (.same _) (NlS.cons rfl (.same _) NlS.nil))) (e7 rfl NlG.nil) ?_
  refine AW.ret ?_
  exact kA (.inr rfl) [] (P := (((uI 0 (uF ps n k r w z)) : List D) = ([] : List D)) ∧ (((List.length (uF ps n k r w z)) : Nat) = 0) ∧ (kM (cK ps)) ∧ (kM (cL ps)) ∧ (kM (uK ps))) zk ⟨(by (rw [hz1]; rfl)), (by (rw [hz1]; rfl)), rfl, rfl, rfl⟩
 ·refine kQ [.no, .b false] (¬ ((uK ps) ≠ 0)) [(0, qB (qH ps) n), (3, rV 0 0), (5, rV 1 0), (7, qB (v8 (uL ps)) (List.length (uL ps))), (8, rV 2 0), (9, iV (uK ps)), (21, bV false)] zo ?_
  refine uP ?_
  have hx2 : BzW (uL ps) := u40 hW
  have hx3 : List.length (uL ps) = n := k1x zo hn
  refine kH [.no, .no, .mk n n (uI n ([] : List Co)), .no] ((kM (n : Int)) ∧ (kM (n : Int)) ∧ (kG n) ∧ (48 * n ≤ 281474976710656) ∧ ((List.replicate n ([iD 0, iD 0, qJ, iD 0] : List D)).flatten = (uI n ([] : List Co)))) [(0, qB (qH ps) n), (3, rV 0 0), (5, rV 1 0), (7, qB (v8 (uL ps)) (List.length (uL ps))), (10, oV 3 0 n 4)] [(0, some (42, .ds [iD k, iD r, dl w c, iD z])), (1, some (32, .ds [iD 0, iD 0])), (3, some (42, .ds (uI n ([] : List Co))))] 4 ⟨rfl, rfl, rfl, zo, (u4r _)⟩ ?_
  refine kH [.no, .no, .no] True [(0, qB (qH ps) n), (5, rV 1 0), (7, qB (v8 (uL ps)) (List.length (uL ps))), (10, oV 3 0 n 4), (11, rV 4 0)] [(1, some (32, .ds [iD 0, iD 0])), (3, some (42, .ds (uI n ([] : List Co)))), (4, some (42, .ds [iD k, iD r, dl w c, iD z]))] 5 trivial ?_
  refine AW.seq ?_
  refine kQ [.no, .no, .w, .no] (uZ ((n : Int) - 1)) [(0, qB (qH ps) n), (5, rV 1 0), (7, qB (v8 (uL ps)) (List.length (uL ps))), (10, oV 3 0 n 4), (11, rV 4 0), (12, iV (↑n - 1))] ⟨by omega, by omega⟩ ?_
  refine AW.block ?_
  refine kX 0 hcx (fun (x : {x : Nat × Nat // match x with | (i, j) => (i + j = n)}) => match x with | ⟨(i, j), _⟩ => (⟨[(0, qB (qH ps) n), (5, rV 1 0), (7, qB (v8 (uL ps)) (List.length (uL ps))), (10, oV 3 0 n 4), (11, rV 4 0), (12, iV ((i : Int) - 1))], [(1, some (32, .ds [iD 0, iD 0])), (3, some (42, .ds (uI i (d6 ps n k r w z j)))), (4, some (42, (eJ ps n k r w z j)))], 5⟩ : ES)) (fun x => match x with | ⟨(i, j), _⟩ => i) ⟨((n : Nat), (0 : Nat)), (show (n + (0 : Nat) = n) from zo)⟩ [] (P := (kJ (qH ps)) ∧ (kG n) ∧ (kG 0) ∧ (kJ (v8 (uL ps))) ∧ (kG (List.length (uL ps))) ∧ (kG 0) ∧ (kG n) ∧ (kG 0) ∧ (kM ((n : Int) - 1)) ∧ (kJ [iD 0, iD 0]) ∧ (((uI n (d6 ps n k r w z 0)) : List D) = (uI n ([] : List Co))) ∧ (([iD (vT ps n k r w z 0), iD (vC ps n k r w z 0), dl (y3 ps n k r w z 0) (List.length (y3 ps n k r w z 0)), iD (vB ps n k r w z 0)] : List D) = [iD k, iD r, dl w c, iD z])) zk ⟨rfl, rfl, rfl, rfl, rfl, rfl, rfl, rfl, rfl, rfl, (by rfl), (by (rw [show c = List.length w by omega]; rfl))⟩ ?_
  rintro ⟨⟨i, j⟩, hinv0⟩
  have hij : (i + j = n) := hinv0
  refine qU (l := [(0, qB (qH ps) n), (5, rV 1 0), (7, qB (v8 (uL ps)) (List.length (uL ps))), (10, oV 3 0 n 4), (11, rV 4 0), (12, iV ((i : Int) - 1))]) (g := [(1, some (32, .ds [iD 0, iD 0])), (3, some (42, .ds (uI i (d6 ps n k r w z j)))), (4, some (42, (eJ ps n k r w z j)))]) (nx := 5) rfl rfl rfl ?_
  refine AW.seq ?_
  by_cases hx4 : ((0 : Int) ≤ (((i : Nat) : Int) - 1))
  ·refine kH [.no, .b true] (((0 : Int) ≤ ((i : Int) - 1))) [(0, qB (qH ps) n), (5, rV 1 0), (7, qB (v8 (uL ps)) (List.length (uL ps))), (10, oV 3 0 n 4), (11, rV 4 0), (12, iV (↑i - 1)), (32, bV true)] [(1, some (32, .ds [iD 0, iD 0])), (3, some (42, .ds (uI i (d6 ps n k r w z j)))), (4, some (42, (eJ ps n k r w z j)))] 5 zo ?_
   refine vI ?_
   refine AW.seq ?_
   refine AW.block ?_
   have hx5 : (-9223372036854775808 ≤ vC ps n k r w z j ∧ vC ps n k r w z j ≤ 9223372036854775807) ∧ (-9223372036854775808 ≤ vB ps n k r w z j ∧ vB ps n k r w z j ≤ 9223372036854775807) ∧ List.length (y3 ps n k r w z j) ≤ 1000000 := k8w hW hr hz zo j
   have hx6 : ((List.length (d7 (uL ps) (i - 1))) ≤ 64) := (BzW.get (qC : BzW (uL ps)) ((i - 1))).2
   refine kQ [.no, .no, .n (i - 1), .d (D.sl (kP (d7 (uL ps) (i - 1))) (List.length (d7 (uL ps) (i - 1)))), .no] (((((i : Int) - 1) : Int) = (((i - 1) : Nat) : Int)) ∧ ((i - 1) < (List.length (uL ps))) ∧ ((List.drop (i - 1) (v8 (uL ps)))[0]? = some (D.sl (kP (d7 (uL ps) (i - 1))) (List.length (d7 (uL ps) (i - 1)))))) [(0, qB (qH ps) n), (5, rV 1 0), (7, qB (v8 (uL ps)) (List.length (uL ps))), (10, oV 3 0 n 4), (11, rV 4 0), (12, iV (↑i - 1)), (13, .e (yL (d7 (uL ps) (i - 1))))] ⟨zo, zo, (k99 _ _ zo)⟩ ?_
   refine vW hcx [(0, qB (qH ps) n), (5, rV 1 0), (7, qB (v8 (uL ps)) (List.length (uL ps))), (10, oV 3 0 n 4), (11, rV 4 0), (12, iV (↑i - 1)), (13, .e (yL (vF ps n k r w z j)))] [(1, some (32, .ds [iD 0, iD 0])), (3, some (42, .ds (uI i (d6 ps n k r w z j)))), (4, some (42, (eJ ps n k r w z j)))] 5 ?_ ?_
   ·by_cases hx8 : ((((i : Nat) : Int) - 1) < (((n : Nat) : Int) - 1))
    ·have hx9 : (¬ j = 0 ∨ List.length (vF ps n k r w z j) = List.length (d7 (uL ps) (i - 1))) ∧ (j = 0 ∨ List.length (vF ps n k r w z j) = List.length (n4 (q6 ps (i - 1)) (d7 (uL ps) (i - 1)) (qM (vT ps n k r w z j) (vC ps n k r w z j) (y3 ps n k r w z j) (vB ps n k r w z j)))) := u4g ps n k r w z zo
     refine kH [.no, .no, .no, .w, .b true] ((uZ ((n : Int) - 1)) ∧ ((((i : Int) - 1) < ((n : Int) - 1)))) [(0, qB (qH ps) n), (5, rV 1 0), (7, qB (v8 (uL ps)) (List.length (uL ps))), (10, oV 3 0 n 4), (11, rV 4 0), (12, iV (↑i - 1)), (13, .e (yL (d7 (uL ps) (i - 1)))), (43, bV true)] [(1, some (32, .ds [iD 0, iD 0])), (3, some (42, .ds (uI i (d6 ps n k r w z j)))), (4, some (42, (eJ ps n k r w z j)))] 5 ⟨⟨by omega, by omega⟩, zo⟩ ?_
     refine zt ?_
     have hx10 : ((List.length (qF ps (i - 1))) ≤ 1000) := (PsW.get (qC : PsW ps) ((i - 1))).2
     have hx11 : ((List.length (n4 (q6 ps (i - 1)) (d7 (uL ps) (i - 1)) (qM (vT ps n k r w z j) (vC ps n k r w z j) (y3 ps n k r w z j) (vB ps n k r w z j)))) ≤ 4096) := k9n (zo) (rfl) (mA (vT ps n k r w z j) (vC ps n k r w z j) (y3 ps n k r w z j) (vB ps n k r w z j))
     refine u2 (qD 4 [.n (i - 1), .no, .d (iD (q6 ps (i - 1))), .call [] (.e (yL (n4 (q6 ps (i - 1)) (d7 (uL ps) (i - 1)) (qM (vT ps n k r w z j) (vC ps n k r w z j) (y3 ps n k r w z j) (vB ps n k r w z j))))) [] 0 [] none, .no]) (((((i : Int) - 1) : Int) = (((i - 1) : Nat) : Int)) ∧ ((i - 1) < n) ∧ ((List.drop 1 (List.drop ((i - 1) * 2) (qH ps)))[0]? = some (iD (q6 ps (i - 1)))) ∧ (_)) [(0, qB (qH ps) n), (5, rV 1 0), (7, qB (v8 (uL ps)) (List.length (uL ps))), (10, oV 3 0 n 4), (11, rV 4 0), (12, iV (↑i - 1)), (13, .e (yL (n4 (q6 ps (i - 1)) (d7 (uL ps) (i - 1)) (qM (vT ps n k r w z j) (vC ps n k r w z j) (y3 ps n k r w z j) (vB ps n k r w z j)))))] ⟨zo, zo, (by (rw [List.drop_drop]; exact (u0p (i := (i - 1)) zo))), (v2o (d7 (uL ps) (i - 1)) (List.length (d7 (uL ps) (i - 1))) (vT ps n k r w z j) (vC ps n k r w z j) (y3 ps n k r w z j) (List.length (y3 ps n k r w z j)) (vB ps n k r w z j) (q6 ps (i - 1)) rfl zo (BzW.get (qC : BzW (uL ps)) _).1 rfl zo)⟩ ?_
     exact kV () [] (P := (kJ (qH ps)) ∧ (kG n) ∧ (kG 0) ∧ (kJ (v8 (uL ps))) ∧ (kG (List.length (uL ps))) ∧ (kG 0) ∧ (kG n) ∧ (kG 0) ∧ (kM ((i : Int) - 1)) ∧ (((kP (vF ps n k r w z j)) : List D) = (kP (n4 (q6 ps (i - 1)) (d7 (uL ps) (i - 1)) (qM (vT ps n k r w z j) (vC ps n k r w z j) (y3 ps n k r w z j) (vB ps n k r w z j))))) ∧ (((List.length (vF ps n k r w z j)) : Nat) = (List.length (n4 (q6 ps (i - 1)) (d7 (uL ps) (i - 1)) (qM (vT ps n k r w z j) (vC ps n k r w z j) (y3 ps n k r w z j) (vB ps n k r w z j))))) ∧ (kJ [iD 0, iD 0]) ∧ (kJ (uI i (d6 ps n k r w z j))) ∧ (kJ [iD (vT ps n k r w z j), iD (vC ps n k r w z j), dl (y3 ps n k r w z j) (List.length (y3 ps n k r w z j)), iD (vB ps n k r w z j)])) zk ⟨rfl, rfl, rfl, rfl, rfl, rfl, rfl, rfl, rfl, (by exact congrArg kP (u4f zo zo).symm), zo, rfl, rfl, rfl⟩ True.intro
    ·have hx12 : (¬ j = 0 ∨ List.length (vF ps n k r w z j) = List.length (d7 (uL ps) (i - 1))) ∧ (j = 0 ∨ List.length (vF ps n k r w z j) = List.length (n4 (q6 ps (i - 1)) (d7 (uL ps) (i - 1)) (qM (vT ps n k r w z j) (vC ps n k r w z j) (y3 ps n k r w z j) (vB ps n k r w z j)))) := u4g ps n k r w z zo
     refine kH [.no, .no, .no, .w, .b false] ((uZ ((n : Int) - 1)) ∧ (¬ (((i : Int) - 1) < ((n : Int) - 1)))) [(0, qB (qH ps) n), (5, rV 1 0), (7, qB (v8 (uL ps)) (List.length (uL ps))), (10, oV 3 0 n 4), (11, rV 4 0), (12, iV (↑i - 1)), (13, .e (yL (d7 (uL ps) (i - 1)))), (43, bV false)] [(1, some (32, .ds [iD 0, iD 0])), (3, some (42, .ds (uI i (d6 ps n k r w z j)))), (4, some (42, (eJ ps n k r w z j)))] 5 ⟨⟨by omega, by omega⟩, zo⟩ ?_
     refine uP ?_
     exact kV () [] (P := (kJ (qH ps)) ∧ (kG n) ∧ (kG 0) ∧ (kJ (v8 (uL ps))) ∧ (kG (List.length (uL ps))) ∧ (kG 0) ∧ (kG n) ∧ (kG 0) ∧ (kM ((i : Int) - 1)) ∧ (((kP (vF ps n k r w z j)) : List D) = (kP (d7 (uL ps) (i - 1)))) ∧ (((List.length (vF ps n k r w z j)) : Nat) = (List.length (d7 (uL ps) (i - 1)))) ∧ (kJ [iD 0, iD 0]) ∧ (kJ (uI i (d6 ps n k r w z j))) ∧ (kJ [iD (vT ps n k r w z j), iD (vC ps n k r w z j), dl (y3 ps n k r w z j) (List.length (y3 ps n k r w z j)), iD (vB ps n k r w z j)])) zk ⟨rfl, rfl, rfl, rfl, rfl, rfl, rfl, rfl, rfl, (by exact congrArg kP (u4h zo zo).symm), zo, rfl, rfl, rfl⟩ True.intro
   ·have hx13 : BsW (vF ps n k r w z j) := (k8y hW j).1
    have hx14 : List.length (vF ps n k r w z j) ≤ 4096 := (k8y hW j).2
    have hx15 : 1 ≤ List.length (kK (vF ps n k r w z j)) := hG j zo zo
    have hx16 : (((0 : Int) ≤ (nY (vF ps n k r w z j) (vT ps n k r w z j) (vC ps n k r w z j) (y3 ps n k r w z j) (vB ps n k r w z j))) ∧ ((nY (vF ps n k r w z j) (vT ps n k r w z j) (vC ps n k r w z j) (y3 ps n k r w z j) (vB ps n k r w z j)) ≤ 7)) := (k3v (qC : BsW (vF ps n k r w z j)) (vT ps n k r w z j) (vC ps n k r w z j) (y3 ps n k r w z j) (vB ps n k r w z j)).1
    have hx17 : (((0 : Int) ≤ (nX (vF ps n k r w z j) (vT ps n k r w z j) (vC ps n k r w z j) (y3 ps n k r w z j) (vB ps n k r w z j))) ∧ ((nX (vF ps n k r w z j) (vT ps n k r w z j) (vC ps n k r w z j) (y3 ps n k r w z j) (vB ps n k r w z j)) ≤ 2147483647)) := (k3v (qC : BsW (vF ps n k r w z j)) (vT ps n k r w z j) (vC ps n k r w z j) (y3 ps n k r w z j) (vB ps n k r w z j)).2.1
    have hx18 : (((0 : Int) ≤ (nW (vF ps n k r w z j) (vT ps n k r w z j) (vC ps n k r w z j) (y3 ps n k r w z j) (vB ps n k r w z j))) ∧ ((nW (vF ps n k r w z j) (vT ps n k r w z j) (vC ps n k r w z j) (y3 ps n k r w z j) (vB ps n k r w z j)) ≤ 2147483647)) := (k3v (qC : BsW (vF ps n k r w z j)) (vT ps n k r w z j) (vC ps n k r w z j) (y3 ps n k r w z j) (vB ps n k r w z j)).2.2.1
    have hx19 : ((List.length (yO ps n k r w z j)) ≤ 1000000) := (k3v (qC : BsW (vF ps n k r w z j)) (vT ps n k r w z j) (vC ps n k r w z j) (y3 ps n k r w z j) (vB ps n k r w z j)).2.2.2
    refine kH (qD 4 [.call [] (.tup [.agg [iC (nY (vF ps n k r w z j) (vT ps n k r w z j) (vC ps n k r w z j) (y3 ps n k r w z j) (vB ps n k r w z j)), iC (nX (vF ps n k r w z j) (vT ps n k r w z j) (vC ps n k r w z j) (y3 ps n k r w z j) (vB ps n k r w z j)), .d (dl (yO ps n k r w z j) (List.length (yO ps n k r w z j))), iC (nW (vF ps n k r w z j) (vT ps n k r w z j) (vC ps n k r w z j) (y3 ps n k r w z j) (vB ps n k r w z j))], .c (.d (D.lit (.bool true)))]) [] 0 [] none, .no, .no, .no, .n2 (i - 1) ((i - 1) * 4), .ds (uI (i - 1) (coN (nY (vF ps n k r w z j) (vT ps n k r w z j) (vC ps n k r w z j) (y3 ps n k r w z j) (vB ps n k r w z j)) (nX (vF ps n k r w z j) (vT ps n k r w z j) (vC ps n k r w z j) (y3 ps n k r w z j) (vB ps n k r w z j)) (yO ps n k r w z j) (nW (vF ps n k r w z j) (vT ps n k r w z j) (vC ps n k r w z j) (y3 ps n k r w z j) (vB ps n k r w z j)) (d6 ps n k r w z j)))]) ((_) ∧ ((((i : Int) - 1) : Int) = (((i - 1) : Nat) : Int)) ∧ ((i - 1) < n) ∧ ((0 : Nat) + (i - 1) * 4 = ((i - 1) * 4)) ∧ (((i - 1) * 4) + 4 ≤ (uI i (d6 ps n k r w z j)).length) ∧ (nH (uI i (d6 ps n k r w z j)) ((i - 1) * 4) [iD (nY (vF ps n k r w z j) (vT ps n k r w z j) (vC ps n k r w z j) (y3 ps n k r w z j) (vB ps n k r w z j)), iD (nX (vF ps n k r w z j) (vT ps n k r w z j) (vC ps n k r w z j) (y3 ps n k r w z j) (vB ps n k r w z j)), dl (yO ps n k r w z j) (List.length (yO ps n k r w z j)), iD (nW (vF ps n k r w z j) (vT ps n k r w z j) (vC ps n k r w z j) (y3 ps n k r w z j) (vB ps n k r w z j))] = (uI (i - 1) (coN (nY (vF ps n k r w z j) (vT ps n k r w z j) (vC ps n k r w z j) (y3 ps n k r w z j) (vB ps n k r w z j)) (nX (vF ps n k r w z j) (vT ps n k r w z j) (vC ps n k r w z j) (y3 ps n k r w z j) (vB ps n k r w z j)) (yO ps n k r w z j) (nW (vF ps n k r w z j) (vT ps n k r w z j) (vC ps n k r w z j) (y3 ps n k r w z j) (vB ps n k r w z j)) (d6 ps n k r w z j))))) [(0, qB (qH ps) n), (5, rV 1 0), (7, qB (v8 (uL ps)) (List.length (uL ps))), (10, oV 3 0 n 4), (11, rV 4 0), (12, iV (↑i - 1))] [(1, some (32, .ds [iD 0, iD 0])), (3, some (42, .ds (uI (i - 1) (coN (nY (vF ps n k r w z j) (vT ps n k r w z j) (vC ps n k r w z j) (y3 ps n k r w z j) (vB ps n k r w z j)) (nX (vF ps n k r w z j) (vT ps n k r w z j) (vC ps n k r w z j) (y3 ps n k r w z j) (vB ps n k r w z j)) (yO ps n k r w z j) (nW (vF ps n k r w z j) (vT ps n k r w z j) (vC ps n k r w z j) (y3 ps n k r w z j) (vB ps n k r w z j)) (d6 ps n k r w z j))))), (4, some (42, (eJ ps n k r w z j)))] 5 ⟨(u2z (vF ps n k r w z j) (List.length (vF ps n k r w z j)) (vT ps n k r w z j) (vC ps n k r w z j) (y3 ps n k r w z j) (List.length (y3 ps n k r w z j)) (vB ps n k r w z j) rfl zo (qC : BsW (vF ps n k r w z j)) rfl zo zo zo zo), zo, zo, zo, lS, (u2f zo _ _ _ _ _ (by rfl))⟩ ?_
    refine vY [.no, .no, .n2 (i - 1) ((i - 1) * 4), .ds [iD (nY (vF ps n k r w z j) (vT ps n k r w z j) (vC ps n k r w z j) (y3 ps n k r w z j) (vB ps n k r w z j)), iD (nX (vF ps n k r w z j) (vT ps n k r w z j) (vC ps n k r w z j) (y3 ps n k r w z j) (vB ps n k r w z j)), dl (yO ps n k r w z j) (List.length (yO ps n k r w z j)), iD (nW (vF ps n k r w z j) (vT ps n k r w z j) (vC ps n k r w z j) (y3 ps n k r w z j) (vB ps n k r w z j))], .no] (((((i : Int) - 1) : Int) = (((i - 1) : Nat) : Int)) ∧ ((i - 1) < n) ∧ ((0 : Nat) + (i - 1) * 4 = ((i - 1) * 4)) ∧ (List.take 4 (List.drop ((i - 1) * 4) (uI (i - 1) (coN (nY (vF ps n k r w z j) (vT ps n k r w z j) (vC ps n k r w z j) (y3 ps n k r w z j) (vB ps n k r w z j)) (nX (vF ps n k r w z j) (vT ps n k r w z j) (vC ps n k r w z j) (y3 ps n k r w z j) (vB ps n k r w z j)) (yO ps n k r w z j) (nW (vF ps n k r w z j) (vT ps n k r w z j) (vC ps n k r w z j) (y3 ps n k r w z j) (vB ps n k r w z j)) (d6 ps n k r w z j)))) = [iD (nY (vF ps n k r w z j) (vT ps n k r w z j) (vC ps n k r w z j) (y3 ps n k r w z j) (vB ps n k r w z j)), iD (nX (vF ps n k r w z j) (vT ps n k r w z j) (vC ps n k r w z j) (y3 ps n k r w z j) (vB ps n k r w z j)), dl (yO ps n k r w z j) (List.length (yO ps n k r w z j)), iD (nW (vF ps n k r w z j) (vT ps n k r w z j) (vC ps n k r w z j) (y3 ps n k r w z j) (vB ps n k r w z j))]) ∧ (([iD (nY (vF ps n k r w z j) (vT ps n k r w z j) (vC ps n k r w z j) (y3 ps n k r w z j) (vB ps n k r w z j)), iD (nX (vF ps n k r w z j) (vT ps n k r w z j) (vC ps n k r w z j) (y3 ps n k r w z j) (vB ps n k r w z j)), dl (yO ps n k r w z j) (List.length (yO ps n k r w z j)), iD (nW (vF ps n k r w z j) (vT ps n k r w z j) (vC ps n k r w z j) (y3 ps n k r w z j) (vB ps n k r w z j))] : List D).length = 4)) [(0, qB (qH ps) n), (5, rV 1 0), (7, qB (v8 (uL ps)) (List.length (uL ps))), (10, oV 3 0 n 4), (11, rV 4 0), (12, iV (↑i - 1))] [(1, some (32, .ds [iD 0, iD 0])), (3, some (42, .ds (uI (i - 1) (coN (nY (vF ps n k r w z j) (vT ps n k r w z j) (vC ps n k r w z j) (y3 ps n k r w z j) (vB ps n k r w z j)) (nX (vF ps n k r w z j) (vT ps n k r w z j) (vC ps n k r w z j) (y3 ps n k r w z j) (vB ps n k r w z j)) (yO ps n k r w z j) (nW (vF ps n k r w z j) (vT ps n k r w z j) (vC ps n k r w z j) (y3 ps n k r w z j) (vB ps n k r w z j)) (d6 ps n k r w z j))))), (4, some (42, .ds [iD (nY (vF ps n k r w z j) (vT ps n k r w z j) (vC ps n k r w z j) (y3 ps n k r w z j) (vB ps n k r w z j)), iD (nX (vF ps n k r w z j) (vT ps n k r w z j) (vC ps n k r w z j) (y3 ps n k r w z j) (vB ps n k r w z j)), dl (yO ps n k r w z j) (List.length (yO ps n k r w z j)), iD (nW (vF ps n k r w z j) (vT ps n k r w z j) (vC ps n k r w z j) (y3 ps n k r w z j) (vB ps n k r w z j))]))] 5 ⟨zo, zo, zo, (u2g _ _ _ _ _ _), rfl⟩ ?_
    refine u2 [.no, .w, .no] (uZ (((i : Int) - 1) - 1)) [(0, qB (qH ps) n), (5, rV 1 0), (7, qB (v8 (uL ps)) (List.length (uL ps))), (10, oV 3 0 n 4), (11, rV 4 0), (12, iV ((↑i - 1) - 1))] ⟨by omega, by omega⟩ ?_
    exact kV ⟨(((i - 1) : Nat), ((j + 1) : Nat)), (show ((i - 1) + (j + 1) = n) from zo)⟩ [] (P := (kJ (qH ps)) ∧ (kG n) ∧ (kG 0) ∧ (kJ (v8 (uL ps))) ∧ (kG (List.length (uL ps))) ∧ (kG 0) ∧ (kG n) ∧ (kG 0) ∧ ((((((i - 1) : Nat) : Int) - 1) : Int) = (((i : Int) - 1) - 1)) ∧ (kJ [iD 0, iD 0]) ∧ (((uI (i - 1) (d6 ps n k r w z (j + 1))) : List D) = (uI (i - 1) (coN (nY (vF ps n k r w z j) (vT ps n k r w z j) (vC ps n k r w z j) (y3 ps n k r w z j) (vB ps n k r w z j)) (nX (vF ps n k r w z j) (vT ps n k r w z j) (vC ps n k r w z j) (y3 ps n k r w z j) (vB ps n k r w z j)) (yO ps n k r w z j) (nW (vF ps n k r w z j) (vT ps n k r w z j) (vC ps n k r w z j) (y3 ps n k r w z j) (vB ps n k r w z j)) (d6 ps n k r w z j)))) ∧ (([iD (vT ps n k r w z (j + 1)), iD (vC ps n k r w z (j + 1)), dl (y3 ps n k r w z (j + 1)) (List.length (y3 ps n k r w z (j + 1))), iD (vB ps n k r w z (j + 1))] : List D) = [iD (nY (vF ps n k r w z j) (vT ps n k r w z j) (vC ps n k r w z j) (y3 ps n k r w z j) (vB ps n k r w z j)), iD (nX (vF ps n k r w z j) (vT ps n k r w z j) (vC ps n k r w z j) (y3 ps n k r w z j) (vB ps n k r w z j)), dl (yO ps n k r w z j) (List.length (yO ps n k r w z j)), iD (nW (vF ps n k r w z j) (vT ps n k r w z j) (vC ps n k r w z j) (y3 ps n k r w z j) (vB ps n k r w z j))])) zk ⟨rfl, rfl, rfl, rfl, rfl, rfl, rfl, rfl, zo, rfl, (by rfl), (by rfl)⟩ (show (i - 1) < i from zo)
  ·refine kH [.no, .b false] (¬ ((0 : Int) ≤ ((i : Int) - 1))) [(0, qB (qH ps) n), (5, rV 1 0), (7, qB (v8 (uL ps)) (List.length (uL ps))), (10, oV 3 0 n 4), (11, rV 4 0), (12, iV (↑i - 1)), (32, bV false)] [(1, some (32, .ds [iD 0, iD 0])), (3, some (42, .ds (uI i (d6 ps n k r w z j)))), (4, some (42, (eJ ps n k r w z j)))] 5 zo ?_
   refine zf ?_
   refine AW.exit ?_
   obtain rfl : i = 0 := (by omega)
   obtain rfl : n = j := (by omega)
   have hx20 : ChW (d6 ps n k r w z n) := k8z hW hr hz zo n
   refine AW.freeze 3 (l' := [(0, qB (qH ps) n), (5, rV 1 0), (7, qB (v8 (uL ps)) (List.length (uL ps))), (10, qB (uI 0 (d6 ps n k r w z n)) n), (11, rV 4 0), (12, iV (-1)), (32, bV false)]) (g' := [(1, some (32, .ds [iD 0, iD 0])), (4, some (42, .ds [iD (vT ps n k r w z n), iD (vC ps n k r w z n), dl (y3 ps n k r w z n) (List.length (y3 ps n k r w z n)), iD (vB ps n k r w z n)]))]) rfl (FzS.cons rfl (.same _) (FzS.cons rfl (.same _) (FzS.cons rfl (.same _) (FzS.cons rfl (.e (.c (@FzC.own 3 ((uI 0 (d6 ps n k r w z n)) : List D) 0 n 4 true ((uI 0 (d6 ps n k r w z n)) : List D) (by rw [List.drop_zero, List.take_of_length_le (by (simp only [qA, k9, qS, qY, q5, vG, y4, vU, qP, List.length_append, List.length_cons, List.length_nil, List.length_take, List.length_drop, List.length_replicate, List.length_set, List.length_map, List.length_reverse, Nat.mul_one] <;> omega))]) lS))) (FzS.cons rfl (.same _) (FzS.cons rfl (.same _) (FzS.cons rfl (.same _) FzS.nil))))))) (u1 rfl rfl (u1 rfl rfl FzG.nil)) ?_
   refine kH (.no :: .call [] (oV 0 0 n 4) [(0, some (42, .ds (uI 0 (d6 ps n k r w z n))))] 1 [] none :: qD 4 []) _ [(4, oV 5 0 n 4), (5, rV 1 0), (6, iV 0)] [(1, some (32, .ds [iD 0, iD 0])), (5, some (42, .ds (uI 0 (d6 ps n k r w z n))))] 6 (u08 (d6 ps n k r w z n) n (by (simp only [qA, k9, qS, qY, q5, vG, y4, vU, List.length_append, List.length_cons, List.length_nil, List.length_take, List.length_drop, List.length_replicate, List.length_set] <;> omega)) zo (qC : ChW (d6 ps n k r w z n))) ?_
   obtain ⟨hz1, hz2⟩ := k29 (n := n) (k := k) (r := r) (w := w) (z := z) (ps := ps) zo
   have hx21 : cK ps = 0 ∧ cL ps = 0 := v1a zo
   refine AW.freeze 5 (l' := [(4, qB (uI 0 (d6 ps n k r w z n)) n), (5, rV 1 0), (6, iV 0)]) (g' := [(1, some (32, .ds [iD 0, iD 0]))]) rfl (FzS.cons rfl (.e (.c (@FzC.own 5 ((uI 0 (d6 ps n k r w z n)) : List D) 0 n 4 true ((uI 0 (d6 ps n k r w z n)) : List D) (by rw [List.drop_zero, List.take_of_length_le (by (simp only [qA, k9, qS, qY, q5, vG, y4, vU, qP, List.length_append, List.length_cons, List.length_nil, List.length_take, List.length_drop, List.length_replicate, List.length_set, List.length_map, List.length_reverse, Nat.mul_one] <;> omega))]) lS))) (FzS.cons rfl (.same _) (FzS.cons rfl (.same _) FzS.nil))) (u1 rfl rfl FzG.nil) ?_
   refine AW.ret ?_
   exact kA (.inr rfl) [] (P := (((uI 0 (uF ps n k r w z)) : List D) = (uI 0 (d6 ps n k r w z n))) ∧ (((List.length (uF ps n k r w z)) : Nat) = n) ∧ (((cK ps) : Int) = 0) ∧ (((cL ps) : Int) = 0) ∧ (((uK ps) : Int) = 0)) zk ⟨(by (rw [hz1]; done)), (by (rw [hz1]; omega)), zo, zo, zo⟩
end Go.Proofs.YtbicifcgghmhaaaGreat
