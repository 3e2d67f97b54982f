/- Boxes of the code. No statement is proved here. -/
import Derived.Test.YtalbpleglapihaaZL10D
namespace Go.Proofs.Ytalbpleglapihaa
open Go.ChangeShapes Go.WideShapes Go.ChangeAt Go.RowKit
set_option linter.unusedVariables false
set_option linter.unusedSimpArgs false
/-! chapter 10: the code's lists of boxes -/
set_option maxHeartbeats 4000000
set_option maxRecDepth 100000
def sH (p : Nat → Bool) : Nat → Int
 | 0 => -1
 | k + 1 => if 0 ≤ sH p k then sH p k else if p k = true then (k : Int) else -1
theorem mO {p : Nat → Bool} {k : Nat} (h : sH p k = -1) (h2 : p k = false) : sH p (k + 1) = -1 := by
 show (if 0 ≤ sH p k then _ else _) = _
 rw [if_neg (by omega), if_neg (by rw [h2]; decide)]
theorem mP {p : Nat → Bool} {k : Nat} (h : sH p k = -1) (h2 : p k = true) : ∀ n, k < n → sH p n = (k : Int)
 | 0, h3 => absurd h3 (Nat.not_lt_zero k)
 | n + 1, h3 => by
  show (if 0 ≤ sH p n then _ else _) = _
  by_cases e : k = n
  ·subst e; rw [if_neg (by omega), if_pos h2]
  ·have h4 := mP h h2 n (by omega)
   rw [if_pos (by omega), h4]
theorem mN (p : Nat → Bool) : ∀ n, (sH p n = -1 ∧ ∀ j, j < n → p j = false) ∨ ∃ k, k < n ∧ sH p n = (k : Int) ∧ p k = true
 | 0 => .inl ⟨rfl, fun j h => absurd h (Nat.not_lt_zero j)⟩
 | n + 1 => by
  rcases mN p n with ⟨h1, h2⟩ | ⟨k, hk, h1, h2⟩
  ·cases e : p n with
   | false => exact .inl ⟨mO h1 e, fun j hj => (Nat.lt_succ_iff_lt_or_eq.1 hj).elim (h2 j) fun e9 => e9 ▸ e⟩
   | true => exact .inr ⟨n, Nat.lt_succ_self n, mP h1 e _ (Nat.lt_succ_self n), e⟩
  ·refine .inr ⟨k, by omega, ?_, h2⟩
   show (if 0 ≤ sH p n then _ else _) = _
   rw [if_pos (by omega)]; exact h1
theorem k6m {p : Nat → Bool} {n : Nat} (h : 0 ≤ sH p n) : ∃ k, k < n ∧ p k = true := by
 rcases mN p n with ⟨h1, _⟩ | ⟨k, hk, _, h2⟩
 ·omega
 ·exact ⟨k, hk, h2⟩
theorem k1b {p : Nat → Bool} {n : Nat} (h : ¬ 0 ≤ sH p n) : ∀ j, j < n → p j = false := by
 rcases mN p n with ⟨_, h2⟩ | ⟨k, hk, h1, _⟩
 ·exact h2
 ·omega
def rD (ms : List (List Int)) (m : List Int) : Nat → Int := sH fun j => eA (List.getD ms j []) m
theorem k6i {ms : List (List Int)} {m : List Int} {c : Nat} (hc : ms.length = c) (h : 0 ≤ rD ms m c) : rE ms m = true := by
 obtain ⟨k, hk, h1⟩ := k6m h
 exact u3w (k := k) (by omega) h1
theorem k6k {ms : List (List Int)} {m : List Int} {c : Nat} (hc : ms.length = c) (h : ¬ 0 ≤ rD ms m c) : rE ms m = false :=
 u3x fun j hj => k1b h j (by omega)
def nZ (bs : List Bx) : Nat → Int := sH fun j => !(vbE bs j)
theorem k9u {bs : List Bx} {n : Nat} (hn : bs.length = n) (h : 0 ≤ nZ bs n) : lI bs = false := by
 obtain ⟨k, hk, h1⟩ := k6m h
 exact u3e (k := k) (by omega) (by simpa using h1)
theorem k9w {bs : List Bx} {n : Nat} (hn : bs.length = n) (h2 : n ≤ 64) (h : ¬ 0 ≤ nZ bs n) : lI bs = true :=
 k9t (by omega) fun j hj => by
  have h3 := k1b h j (by omega)
  simpa using h3
theorem u1n {ms : List (List Int)} {m : List Int} {k : Nat} (h : rD ms m k = -1) (h2 : eA (List.getD ms k []) m = false) : rD ms m (k + 1) = -1 := mO h h2
theorem k6j {ms : List (List Int)} {m : List Int} {k : Nat} (h : rD ms m k = -1) (h2 : eA (List.getD ms k []) m = true) {n : Nat} (hn : k < n) : rD ms m n = (k : Int) := mP h h2 n hn
def nxB (k : Int) (r : List Int) (rn : Nat) (m : List (List Int)) (s : List Int) (sn : Nat) : Bool := !(eX k r rn m s sn)
theorem u12 {k : Int} {r : List Int} {rn : Nat} {m : List (List Int)} {s : List Int} {sn : Nat} (h : eX k r rn m s sn = false) : nxB k r rn m s sn = true := by unfold nxB; rw [h]; rfl
theorem u13 {k : Int} {r : List Int} {rn : Nat} {m : List (List Int)} {s : List Int} {sn : Nat} (h : eX k r rn m s sn = true) : nxB k r rn m s sn = false := by unfold nxB; rw [h]; rfl
theorem k9v {bs : List Bx} {k : Nat} (h : nZ bs k = -1) (h2 : nxB (cE bs k) (c9 bs k) (vZ bs k) (vH bs k) (fN bs k) (cD bs k) = false) : nZ bs (k + 1) = -1 := mO h h2
theorem k64 {bs : List Bx} {k : Nat} (h : nZ bs k = -1) (h2 : nxB (cE bs k) (c9 bs k) (vZ bs k) (vH bs k) (fN bs k) (cD bs k) = true) {n : Nat} (hn : k < n) : nZ bs n = (k : Int) := mP h h2 n hn
def naB (bs : List Bx) (n : Nat) : Bool := decide (0 ≤ nZ bs n)
theorem k84 {bs : List Bx} {n : Nat} (hn : bs.length = n) (h : naB bs n = true) : lI bs = false := k9u hn (of_decide_eq_true h)
theorem k83 {bs : List Bx} {n : Nat} (hn : bs.length = n) (h2 : n ≤ 64) (h : naB bs n = false) : lI bs = true := k9w hn h2 (of_decide_eq_false h)
theorem k3h (w a : List Int) (o n : Nat) (ho : List.length w = o) (hn : List.length a = n) (h1 : o ≤ 1000000) (h2 : n ≤ 1000000) : Fun 81 [.c (.d (D.sl (dI .i64 a) n)), .c (.ptr 0 0)] (kG [(0, some (63, .ds [D.sl (dI .i64 w) o]))]) 1 (kP (D.lit (.bool (eA a w)))) (kG [(0, some (63, .ds [D.sl (dI .i64 w) o]))]) 1 := by
 refine Fun.mk (n := 7) Try.func81 rfl rfl (Nat.le_of_ble_eq_true rfl) ?_
 intro cx hcx
 refine kK [.no] True [(0, sV .i64 a n), (1, rV 0 0)] [(0, some (63, .ds [dl w o]))] 1 trivial ?_
 refine kX [.no, .no, .call [] (kP (D.lit (.bool (eA a w)))) [] 0 [] none, .no] _ [(3, kP (D.lit (.bool (eA a w))))] (k9a a w n o zo zo zo zo) ?_
 refine AW.ret ?_
 exact kC (.inr rfl) [] (P := ((eA a w) = (eA a w)) ∧ (k8 [dl w o])) zk ⟨rfl, rfl⟩
theorem eC {p : Prop} (h : p := by first | omega | assumption | simp) : p := h
theorem f4 {p : Prop} (h : p := by first | omega | (simp only [kR, kQ, List.length_append, List.length_cons, List.length_nil, List.length_take, List.length_drop] <;> omega)) : p := h
theorem u3 {p : Prop} (h : p := by first | omega | with_reducible assumption | (simp only [kR, kQ, List.length_append, List.length_cons, List.length_nil, List.length_take, List.length_drop, List.length_replicate, List.length_set] <;> omega) | rfl | assumption) : p := h
theorem k76 (ms : List (List Int)) (c : Nat) (w : List Int) (o : Nat) (hc : List.length ms = c) (ho : List.length w = o) (h1 : c ≤ 1000000) (h2 : o ≤ 1000000) (hW : MsW ms) : Fun 84 [.c (.d (D.sl (k9 ms) c)), .c (.fn 81 [(0, 0)])] (kG [(0, some (63, .ds [D.sl (dI .i64 w) o]))]) 1 (iV (rD ms w c)) (kG [(0, some (63, .ds [D.sl (dI .i64 w) o]))]) 1 := by
 refine Fun.mk (n := 19) Try.func84 rfl rfl (Nat.le_of_ble_eq_true rfl) ?_
 intro cx hcx
 refine kK [.no] True [(0, qX (k9 ms) c), (1, .e (.c (.fn 81 [(0, 0)])))] [(0, some (63, .ds [dl w o]))] 1 trivial ?_
 refine AW.seq ?_
 refine kX [.no, .no, .no] True [(0, qX (k9 ms) c), (1, .e (.c (.fn 81 [(0, 0)]))), (7, uV c), (8, iV 0)] trivial ?_
 refine AW.block ?_
 refine kW 1 hcx (fun (x : {x : Nat // match x with | k => (k ≤ c) ∧ (rD ms w k = -1)}) => match x with | ⟨k, _⟩ => (⟨[(0, qX (k9 ms) c), (1, .e (.c (.fn 81 [(0, 0)]))), (7, uV c), (8, uV k)], [(0, some (63, .ds [dl w o]))], 1⟩ : ES)) (fun x => match x with | ⟨k, _⟩ => c - k) ⟨(0 : Nat), ⟨eC, rfl⟩⟩ [] (P := (k8 (k9 ms)) ∧ (kM c) ∧ (kN (c : Int)) ∧ (kN 0) ∧ (k8 [dl w o])) zk ⟨rfl, rfl, rfl, rfl, rfl⟩ ?_
 rintro ⟨k, hinv0⟩
 obtain ⟨hk, hi⟩ : (k ≤ c) ∧ (rD ms w k = -1) := hinv0
 refine uI (l := [(0, qX (k9 ms) c), (1, .e (.c (.fn 81 [(0, 0)]))), (7, uV c), (8, uV k)]) (g := [(0, some (63, .ds [dl w o]))]) (nx := 1) rfl rfl rfl ?_
 by_cases hx1 : (((k : Nat) : Int) < ((c : Nat) : Int))
 ·refine kK [.b true] (((k : Int) < (c : Int))) [(0, qX (k9 ms) c), (1, .e (.c (.fn 81 [(0, 0)]))), (7, uV c), (8, uV k), (9, bV true)] [(0, some (63, .ds [dl w o]))] 1 zo ?_
  refine AW.seq ?_
  refine vC ?_
  refine AW.seq ?_
  refine AW.block ?_
  refine kX [.no, .no] True [(0, qX (k9 ms) c), (1, .e (.c (.fn 81 [(0, 0)]))), (5, uV k), (7, uV c), (8, uV k)] trivial ?_
  rcases Bool.eq_false_or_eq_true (eA (List.getD ms k ([] : List Int)) w) with hx3 | hx3
  ·have hx4 : ((List.length (List.getD ms k ([] : List Int))) ≤ 1000000) := MsW.at (kS : MsW ms) _
   refine kX [.no, .no, .no, .n k, .d (dl (List.getD ms k ([] : List Int)) (List.length (List.getD ms k ([] : List Int)))), .call [0] (bV true) [(0, some (63, .ds [dl w o]))] 1 [] none] ((kN (k : Int)) ∧ (k < c) ∧ ((List.drop k (k9 ms))[0]? = some (dl (List.getD ms k ([] : List Int)) (List.length (List.getD ms k ([] : List Int))))) ∧ (Fun 81 [.c (.d (dl (List.getD ms k ([] : List Int)) (List.length (List.getD ms k ([] : List Int))))), .c (.ptr 0 0)] (kG [(0, some (63, .ds [dl w o]))]) 1 (bV true) (kG [(0, some (63, .ds [dl w o]))]) 1)) [(0, qX (k9 ms) c), (1, .e (.c (.fn 81 [(0, 0)]))), (5, uV k), (7, uV c), (8, uV k), (16, bV true)] ⟨rfl, zo, (eO _ _ f4), (by have h0 := (k3h w (List.getD ms k ([] : List Int)) o (List.length (List.getD ms k ([] : List Int))) zo rfl zo u3); rw [hx3] at h0; exact h0)⟩ ?_
   refine zt ?_
   refine kX [.no, .no] True [(4, uV k)] trivial ?_
   refine AW.ret ?_
   exact kC (.inr rfl) [] (P := (((rD ms w c) : Int) = (k : Int)) ∧ (k8 [dl w o])) zk ⟨(by first | rfl | exact k6j hi (by assumption) zo | (rw [show c = k by omega]; exact hi) | omega), rfl⟩
  ·have hx5 : ((List.length (List.getD ms k ([] : List Int))) ≤ 1000000) := MsW.at (kS : MsW ms) _
   refine kX [.no, .no, .no, .n k, .d (dl (List.getD ms k ([] : List Int)) (List.length (List.getD ms k ([] : List Int)))), .call [0] (bV false) [(0, some (63, .ds [dl w o]))] 1 [] none] ((kN (k : Int)) ∧ (k < c) ∧ ((List.drop k (k9 ms))[0]? = some (dl (List.getD ms k ([] : List Int)) (List.length (List.getD ms k ([] : List Int))))) ∧ (Fun 81 [.c (.d (dl (List.getD ms k ([] : List Int)) (List.length (List.getD ms k ([] : List Int))))), .c (.ptr 0 0)] (kG [(0, some (63, .ds [dl w o]))]) 1 (bV false) (kG [(0, some (63, .ds [dl w o]))]) 1)) [(0, qX (k9 ms) c), (1, .e (.c (.fn 81 [(0, 0)]))), (5, uV k), (7, uV c), (8, uV k), (16, bV false)] ⟨rfl, zo, (eO _ _ f4), (by have h0 := (k3h w (List.getD ms k ([] : List Int)) o (List.length (List.getD ms k ([] : List Int))) zo rfl zo u3); rw [hx3] at h0; exact h0)⟩ ?_
   refine yW ?_
   refine yG [.w, .no] (qM ((k : Int) + 1)) [(0, qX (k9 ms) c), (1, .e (.c (.fn 81 [(0, 0)]))), (7, uV c), (8, iV (↑k + 1))] ⟨by omega, by omega⟩ ?_
   exact qR ⟨((k + 1) : Nat), ⟨eC, (u1n hi (by assumption))⟩⟩ [] (P := (k8 (k9 ms)) ∧ (kM c) ∧ (kN (c : Int)) ∧ (((((k + 1) : Nat) : Int) : Int) = ((k : Int) + 1)) ∧ (k8 [dl w o])) zk ⟨rfl, rfl, rfl, (by first | rfl | omega | assumption | (simp; done) | (simp; omega)), rfl⟩ (show c - (k + 1) < c - k from (by first | omega | (show _ < _; simp; omega)))
 ·refine kK [.b false] (¬ ((k : Int) < (c : Int))) [(0, qX (k9 ms) c), (1, .e (.c (.fn 81 [(0, 0)]))), (7, uV c), (8, uV k), (9, bV false)] [(0, some (63, .ds [dl w o]))] 1 zo ?_
  refine AW.seq ?_
  refine zf ?_
  refine AW.exit ?_
  refine kK [.no] True [(4, iV (-1))] [(0, some (63, .ds [dl w o]))] 1 trivial ?_
  refine AW.ret ?_
  exact kC (.inr rfl) [] (P := (((rD ms w c) : Int) = (-1)) ∧ (k8 [dl w o])) zk ⟨(by first | rfl | exact k6j hi (by assumption) zo | (rw [show c = k by omega]; exact hi) | omega), rfl⟩
theorem u2g (ms : List (List Int)) (c : Nat) (w : List Int) (o : Nat) (hc : List.length ms = c) (ho : List.length w = o) (h1 : c ≤ 1000000) (h2 : o ≤ 1000000) (hW : MsW ms) : Fun 80 [.c (.d (D.sl (k9 ms) c)), .c (.fn 81 [(0, 0)])] (kG [(0, some (63, .ds [D.sl (dI .i64 w) o]))]) 1 (kP (D.lit (.bool (rE ms w)))) (kG [(0, some (63, .ds [D.sl (dI .i64 w) o]))]) 1 := by
 refine Fun.mk (n := 9) Try.func80 rfl rfl (Nat.le_of_ble_eq_true rfl) ?_
 intro cx hcx
 refine kK [.no] True [(0, qX (k9 ms) c), (1, .e (.c (.fn 81 [(0, 0)])))] [(0, some (63, .ds [dl w o]))] 1 trivial ?_
 by_cases hx1 : ((0 : Int) ≤ (rD ms w c))
 ·refine kX [.no, .no, .call [0] (iV (rD ms w c)) [(0, some (63, .ds [dl w o]))] 1 [] none, .b true, .no] ((_) ∧ (((0 : Int) ≤ (rD ms w c)))) [(4, bV true)] ⟨(k76 ms c w o zo zo zo zo (kS : MsW ms)), zo⟩ ?_
  refine AW.ret ?_
  exact kC (.inr rfl) [] (P := ((rE ms w) = true) ∧ (k8 [dl w o])) zk ⟨(by first | exact k6i hc zo | exact k6k hc zo), rfl⟩
 ·refine kX [.no, .no, .call [0] (iV (rD ms w c)) [(0, some (63, .ds [dl w o]))] 1 [] none, .b false, .no] ((_) ∧ (¬ ((0 : Int) ≤ (rD ms w c)))) [(4, bV false)] ⟨(k76 ms c w o zo zo zo zo (kS : MsW ms)), zo⟩ ?_
  refine AW.ret ?_
  exact kC (.inr rfl) [] (P := ((rE ms w) = false) ∧ (k8 [dl w o])) zk ⟨(by first | exact k6i hc zo | exact k6k hc zo), rfl⟩
theorem k77 (ms : List (List Int)) (c : Nat) (w : List Int) (o : Nat) (hc : List.length ms = c) (ho : List.length w = o) (h1 : c ≤ 1000000) (h2 : o ≤ 1000000) (hW : MsW ms) : Fun 75 [.c (.d (D.sl (k9 ms) c)), .c (.d (D.sl (dI .i64 w) o))] (kG []) 0 (kP (D.lit (.bool (rE ms w)))) (kG []) 0 := by
 refine Fun.mk (n := 8) Try.func75 rfl rfl (Nat.le_of_ble_eq_true rfl) ?_
 intro cx hcx
 refine kK [.no, .no] True [(0, qX (k9 ms) c), (3, rV 0 0)] [(0, some (63, .ds [dl w o]))] 1 trivial ?_
 refine kK [.no, .no, .call [0] (kP (D.lit (.bool (rE ms w)))) [(0, some (63, .ds [dl w o]))] 1 [] none, .no] _ [(4, kP (D.lit (.bool (rE ms w))))] [] 1 (u2g ms c w o zo zo zo zo (kS : MsW ms)) ?_
 refine AW.ret ?_
 exact kC (.inr rfl) [] (P := ((rE ms w) = (rE ms w))) zk rfl
theorem f0 {p : Prop} (h : p := by first | exact k9r (by assumption) | exact k9q (by assumption)) : p := h
theorem nD (m : List (List Int)) (c : Nat) (hc : List.length m = c) (h1 : c ≤ 1000000) (hW : MsW m) : Fun 66 [.c (.d (D.sl (k9 m) c))] (kG []) 0 (kP (D.lit (.bool (nI m)))) (kG []) 0 := by
 refine Fun.mk (n := 31) Try.func66 rfl rfl (Nat.le_of_ble_eq_true rfl) ?_
 intro cx hcx
 refine kK [.no] True [(0, qX (k9 m) c)] [] 0 trivial ?_
 refine AW.seq ?_
 by_cases hx1 : (((c : Nat) : Int) < 1)
 ·refine kX [.no, .no, .b true, .no, .no] (((c : Int) < 1)) [(0, qX (k9 m) c), (12, bV true)] zo ?_
  refine zt ?_
  refine kX [.no] True [(2, bV false)] trivial ?_
  refine AW.ret ?_
  exact kC (.inr rfl) [] (P := ((nI m) = false)) zk (by first | exact wX zo zo (fun j hj => ha j zo) | exact zK zo | exact zL (k := i) zo f0)
 ·by_cases hx2 : ((16 : Int) < ((c : Nat) : Int))
  ·refine kX [.no, .no, .b false, .no, .no, .no, .b true, .no] ((¬ ((c : Int) < 1)) ∧ (((16 : Int) < (c : Int)))) [(0, qX (k9 m) c), (12, bV true)] ⟨zo, zo⟩ ?_
   refine zt ?_
   refine kX [.no] True [(2, bV false)] trivial ?_
   refine AW.ret ?_
   exact kC (.inr rfl) [] (P := ((nI m) = false)) zk (by first | exact wX zo zo (fun j hj => ha j zo) | exact zK zo | exact zL (k := i) zo f0)
  ·refine kX [.no, .no, .b false, .no, .no, .no, .b false, .no] ((¬ ((c : Int) < 1)) ∧ (¬ ((16 : Int) < (c : Int)))) [(0, qX (k9 m) c), (12, bV false)] ⟨zo, zo⟩ ?_
   refine yW ?_
   refine AW.seq ?_
   refine kX [.no, .no, .no] True [(0, qX (k9 m) c), (13, qX (k9 m) c), (14, uV c), (15, iV 0)] trivial ?_
   refine AW.block ?_
   refine kW 0 hcx (fun (x : {x : Nat // match x with | i => (i ≤ c) ∧ (∀ j, j < i → zC m j = true)}) => match x with | ⟨i, _⟩ => (⟨[(0, qX (k9 m) c), (13, qX (k9 m) c), (14, uV c), (15, uV i)], [], 0⟩ : ES)) (fun x => match x with | ⟨i, _⟩ => c - i) ⟨(0 : Nat), ⟨eC, (fun j hj => absurd hj (Nat.not_lt_zero j))⟩⟩ [] (P := (k8 (k9 m)) ∧ (kM c) ∧ (k8 (k9 m)) ∧ (kM c) ∧ (kN (c : Int)) ∧ (kN 0)) zk ⟨rfl, rfl, rfl, rfl, rfl, rfl⟩ ?_
   rintro ⟨i, hinv0⟩
   obtain ⟨hi, ha⟩ : (i ≤ c) ∧ (∀ j, j < i → zC m j = true) := hinv0
   refine uI (l := [(0, qX (k9 m) c), (13, qX (k9 m) c), (14, uV c), (15, uV i)]) (g := []) (nx := 0) rfl rfl rfl ?_
   by_cases hx3 : (((i : Nat) : Int) < ((c : Nat) : Int))
   ·refine kK [.b true] (((i : Int) < (c : Int))) [(0, qX (k9 m) c), (13, qX (k9 m) c), (14, uV c), (15, uV i), (16, bV true)] [] 0 zo ?_
    refine AW.seq ?_
    refine vC ?_
    refine AW.seq ?_
    refine AW.block ?_
    have hx4 : ((List.length (List.getD m i ([] : List Int))) ≤ 1000000) := MsW.at (kS : MsW m) _
    refine kX [.no, .n i, .d (dl (List.getD m i ([] : List Int)) (List.length (List.getD m i ([] : List Int)))), .no, .no] ((kN (i : Int)) ∧ (i < c) ∧ ((List.drop i (k9 m))[0]? = some (dl (List.getD m i ([] : List Int)) (List.length (List.getD m i ([] : List Int)))))) [(0, qX (k9 m) c), (3, uV i), (4, sV .i64 (List.getD m i ([] : List Int)) (List.length (List.getD m i ([] : List Int)))), (13, qX (k9 m) c), (14, uV c), (15, uV i)] ⟨rfl, zo, (eO _ _ f4)⟩ ?_
    rcases Bool.eq_false_or_eq_true (iS (List.getD m i ([] : List Int)) (List.length (List.getD m i ([] : List Int)))) with hx5 | hx5
    ·rcases Bool.eq_false_or_eq_true (rE (List.take i m) (List.getD m i ([] : List Int))) with hx6 | hx6
     ·refine kX (.no :: .call [] (bV true) [] 0 [] none :: kU 4 [.sls 0 i i (k9 (List.take i m)), .no, .call [] (bV true) [] 0 [] none, .no]) ((Fun 74 [.c (.d (dl (List.getD m i ([] : List Int)) (List.length (List.getD m i ([] : List Int)))))] (kG []) 0 (bV true) (kG []) 0) ∧ (kM 0) ∧ (kN (i : Int)) ∧ ((0 : Nat) ≤ i) ∧ (i ≤ c) ∧ (i - 0 = i) ∧ (List.take (i * 1) (List.drop (0 * 1) (k9 m)) = (k9 (List.take i m))) ∧ (Fun 75 [.c (.d (D.sl (k9 (List.take i m)) i)), .c (.d (dl (List.getD m i ([] : List Int)) (List.length (List.getD m i ([] : List Int)))))] (kG []) 0 (bV true) (kG []) 0)) [(0, qX (k9 m) c), (13, qX (k9 m) c), (14, uV c), (15, uV i), (29, bV true)] ⟨(by have h0 := (nA (List.getD m i ([] : List Int)) (List.length (List.getD m i ([] : List Int))) rfl u3); rw [hx5] at h0; exact h0), rfl, rfl, zo, zo, zo, (oR _ _), (by have h0 := (k77 (List.take i m) i (List.getD m i ([] : List Int)) (List.length (List.getD m i ([] : List Int))) u3 rfl zo u3 (MsW.take (kS : MsW m) _)); rw [hx6] at h0; exact h0)⟩ ?_
      refine zt ?_
      refine kX [.no] True [(2, bV false)] trivial ?_
      refine AW.ret ?_
      exact kC (.inr rfl) [] (P := ((nI m) = false)) zk (by first | exact wX zo zo (fun j hj => ha j zo) | exact zK zo | exact zL (k := i) zo f0)
     ·refine kX (.no :: .call [] (bV true) [] 0 [] none :: kU 4 [.sls 0 i i (k9 (List.take i m)), .no, .call [] (bV false) [] 0 [] none, .no]) ((Fun 74 [.c (.d (dl (List.getD m i ([] : List Int)) (List.length (List.getD m i ([] : List Int)))))] (kG []) 0 (bV true) (kG []) 0) ∧ (kM 0) ∧ (kN (i : Int)) ∧ ((0 : Nat) ≤ i) ∧ (i ≤ c) ∧ (i - 0 = i) ∧ (List.take (i * 1) (List.drop (0 * 1) (k9 m)) = (k9 (List.take i m))) ∧ (Fun 75 [.c (.d (D.sl (k9 (List.take i m)) i)), .c (.d (dl (List.getD m i ([] : List Int)) (List.length (List.getD m i ([] : List Int)))))] (kG []) 0 (bV false) (kG []) 0)) [(0, qX (k9 m) c), (13, qX (k9 m) c), (14, uV c), (15, uV i), (29, bV false)] ⟨(by have h0 := (nA (List.getD m i ([] : List Int)) (List.length (List.getD m i ([] : List Int))) rfl u3); rw [hx5] at h0; exact h0), rfl, rfl, zo, zo, zo, (oR _ _), (by have h0 := (k77 (List.take i m) i (List.getD m i ([] : List Int)) (List.length (List.getD m i ([] : List Int))) u3 rfl zo u3 (MsW.take (kS : MsW m) _)); rw [hx6] at h0; exact h0)⟩ ?_
      refine yW ?_
      refine yG [.w, .no] (qM ((i : Int) + 1)) [(0, qX (k9 m) c), (13, qX (k9 m) c), (14, uV c), (15, iV (↑i + 1))] ⟨by omega, by omega⟩ ?_
      exact qR ⟨((i + 1) : Nat), ⟨eC, (fun j hj => (Nat.lt_succ_iff_lt_or_eq.1 hj).elim (ha j) (fun e9 => by subst e9; exact k63 (by assumption) (by assumption)))⟩⟩ [] (P := (k8 (k9 m)) ∧ (kM c) ∧ (k8 (k9 m)) ∧ (kM c) ∧ (kN (c : Int)) ∧ (((((i + 1) : Nat) : Int) : Int) = ((i : Int) + 1))) zk ⟨rfl, rfl, rfl, rfl, rfl, (by first | rfl | omega | assumption | (simp; done) | (simp; omega))⟩ (show c - (i + 1) < c - i from (by first | omega | (show _ < _; simp; omega)))
    ·refine kX [.no, .call [] (bV false) [] 0 [] none, .no, .no, .no] (Fun 74 [.c (.d (dl (List.getD m i ([] : List Int)) (List.length (List.getD m i ([] : List Int)))))] (kG []) 0 (bV false) (kG []) 0) [(0, qX (k9 m) c), (13, qX (k9 m) c), (14, uV c), (15, uV i), (29, bV true)] (by have h0 := (nA (List.getD m i ([] : List Int)) (List.length (List.getD m i ([] : List Int))) rfl u3); rw [hx5] at h0; exact h0) ?_
     refine zt ?_
     refine kX [.no] True [(2, bV false)] trivial ?_
     refine AW.ret ?_
     exact kC (.inr rfl) [] (P := ((nI m) = false)) zk (by first | exact wX zo zo (fun j hj => ha j zo) | exact zK zo | exact zL (k := i) zo f0)
   ·refine kK [.b false] (¬ ((i : Int) < (c : Int))) [(0, qX (k9 m) c), (13, qX (k9 m) c), (14, uV c), (15, uV i), (16, bV false)] [] 0 zo ?_
    refine AW.seq ?_
    refine zf ?_
    refine AW.exit ?_
    refine kK [.no] True [(2, bV true)] [] 0 trivial ?_
    refine AW.ret ?_
    exact kC (.inr rfl) [] (P := ((nI m) = true)) zk (by first | exact wX zo zo (fun j hj => ha j zo) | exact zK zo | exact zL (k := i) zo f0)
theorem eD {p : Prop} (h : p := by first | exact u25 (by omega) (by assumption) (by assumption) (by assumption) | exact u4a (by omega) | exact u49 (by assumption) | exact u48 (by assumption) | exact u47 (by assumption)) : p := h
theorem k3g (k : Int) (r : List Int) (rn : Nat) (m : List (List Int)) (c : Nat) (s : List Int) (sn : Nat) (hr : List.length r = rn * 2) (hs : List.length s = sn * 2) (hc : List.length m = c) (h1 : rn ≤ 1000000) (h2 : sn ≤ 1000000) (h3 : c ≤ 1000000) (hW : MsW m) : Fun 51 [.agg [iC k, .d (D.sl (dI .i64 r) rn), .d (D.sl (k9 m) c), .d (D.sl (dI .i64 s) sn)]] (kG []) 0 (kP (D.lit (.bool (eX k r rn m s sn)))) (kG []) 0 := by
 refine Fun.mk (n := 27) Try.func51 rfl rfl (Nat.le_of_ble_eq_true rfl) ?_
 intro cx hcx
 refine kK [.no, .no] True [(1, rV 0 0)] [(0, some (78, .ds [iD k, dl r rn, D.sl (k9 m) c, dl s sn]))] 1 trivial ?_
 by_cases hx1 : (k ≠ 0)
 ·by_cases hx2 : ((iT k) = 0)
  ·rcases Bool.eq_false_or_eq_true (e8 r rn 1000 768000) with hx3 | hx3
   ·rcases Bool.eq_false_or_eq_true (nI m) with hx4 | hx4
    ·rcases Bool.eq_false_or_eq_true (e8 s sn 1 65536) with hx5 | hx5
     ·refine kK (.no :: .no :: .b true :: .no :: .no :: .no :: .i (iT k) :: .b true :: kU 4 (.call [] (bV true) [] 0 [] none :: kU 4 (.call [] (bV true) [] 0 [] none :: kU 4 [.call [] (bV true) [] 0 [] none, .no, .no]))) (((k ≠ 0)) ∧ (qN .andNot .i64 k 254 = (iT k)) ∧ (((iT k) = 0)) ∧ (Fun 65 [.agg [.d (dl r rn)], iE 1000, iE 768000] (kG []) 0 (bV true) (kG []) 0) ∧ (Fun 66 [.c (.d (D.sl (k9 m) c))] (kG []) 0 (bV true) (kG []) 0) ∧ (Fun 65 [.agg [.d (dl s sn)], iE 1, iE 65536] (kG []) 0 (bV true) (kG []) 0)) [(2, bV true)] [] 1 ⟨zo, rfl, zo, (by have h0 := (eY r rn 1000 768000 zo zo); rw [hx3] at h0; exact h0), (by have h0 := (nD m c zo zo (kS : MsW m)); rw [hx4] at h0; exact h0), (by have h0 := (eY s sn 1 65536 zo zo); rw [hx5] at h0; exact h0)⟩ ?_
      refine AW.ret ?_
      exact kC (.inr rfl) [] (P := ((eX k r rn m s sn) = true)) zk eD
     ·refine kK (.no :: .no :: .b true :: .no :: .no :: .no :: .i (iT k) :: .b true :: kU 4 (.call [] (bV true) [] 0 [] none :: kU 4 (.call [] (bV true) [] 0 [] none :: kU 4 [.call [] (bV false) [] 0 [] none, .no, .no]))) (((k ≠ 0)) ∧ (qN .andNot .i64 k 254 = (iT k)) ∧ (((iT k) = 0)) ∧ (Fun 65 [.agg [.d (dl r rn)], iE 1000, iE 768000] (kG []) 0 (bV true) (kG []) 0) ∧ (Fun 66 [.c (.d (D.sl (k9 m) c))] (kG []) 0 (bV true) (kG []) 0) ∧ (Fun 65 [.agg [.d (dl s sn)], iE 1, iE 65536] (kG []) 0 (bV false) (kG []) 0)) [(2, bV false)] [] 1 ⟨zo, rfl, zo, (by have h0 := (eY r rn 1000 768000 zo zo); rw [hx3] at h0; exact h0), (by have h0 := (nD m c zo zo (kS : MsW m)); rw [hx4] at h0; exact h0), (by have h0 := (eY s sn 1 65536 zo zo); rw [hx5] at h0; exact h0)⟩ ?_
      refine AW.ret ?_
      exact kC (.inr rfl) [] (P := ((eX k r rn m s sn) = false)) zk eD
    ·refine kK (.no :: .no :: .b true :: .no :: .no :: .no :: .i (iT k) :: .b true :: kU 4 (.call [] (bV true) [] 0 [] none :: kU 4 (.call [] (bV false) [] 0 [] none :: kU 4 []))) (((k ≠ 0)) ∧ (qN .andNot .i64 k 254 = (iT k)) ∧ (((iT k) = 0)) ∧ (Fun 65 [.agg [.d (dl r rn)], iE 1000, iE 768000] (kG []) 0 (bV true) (kG []) 0) ∧ (Fun 66 [.c (.d (D.sl (k9 m) c))] (kG []) 0 (bV false) (kG []) 0)) [(2, bV false)] [] 1 ⟨zo, rfl, zo, (by have h0 := (eY r rn 1000 768000 zo zo); rw [hx3] at h0; exact h0), (by have h0 := (nD m c zo zo (kS : MsW m)); rw [hx4] at h0; exact h0)⟩ ?_
     refine AW.ret ?_
     exact kC (.inr rfl) [] (P := ((eX k r rn m s sn) = false)) zk eD
   ·refine kK (.no :: .no :: .b true :: .no :: .no :: .no :: .i (iT k) :: .b true :: kU 4 (.call [] (bV false) [] 0 [] none :: kU 6 [])) (((k ≠ 0)) ∧ (qN .andNot .i64 k 254 = (iT k)) ∧ (((iT k) = 0)) ∧ (Fun 65 [.agg [.d (dl r rn)], iE 1000, iE 768000] (kG []) 0 (bV false) (kG []) 0)) [(2, bV false)] [] 1 ⟨zo, rfl, zo, (by have h0 := (eY r rn 1000 768000 zo zo); rw [hx3] at h0; exact h0)⟩ ?_
    refine AW.ret ?_
    exact kC (.inr rfl) [] (P := ((eX k r rn m s sn) = false)) zk eD
  ·refine kK (.no :: .no :: .b true :: .no :: .no :: .no :: .i (iT k) :: .b false :: kU 8 []) (((k ≠ 0)) ∧ (qN .andNot .i64 k 254 = (iT k)) ∧ (¬ ((iT k) = 0))) [(2, bV false)] [] 1 ⟨zo, rfl, zo⟩ ?_
   refine AW.ret ?_
   exact kC (.inr rfl) [] (P := ((eX k r rn m s sn) = false)) zk eD
 ·refine kK (.no :: .no :: .b false :: kU 9 []) (¬ (k ≠ 0)) [(2, bV false)] [] 1 zo ?_
  refine AW.ret ?_
  exact kC (.inr rfl) [] (P := ((eX k r rn m s sn) = false)) zk eD
theorem p9 (k : Int) (r : List Int) (rn : Nat) (m : List (List Int)) (c : Nat) (s : List Int) (sn : Nat) (hr : List.length r = rn * 2) (hs : List.length s = sn * 2) (hc : List.length m = c) (h1 : rn ≤ 1000000) (h2 : sn ≤ 1000000) (h3 : c ≤ 1000000) (hW : MsW m) : Fun 50 [.agg [iC k, .d (D.sl (dI .i64 r) rn), .d (D.sl (k9 m) c), .d (D.sl (dI .i64 s) sn)]] (kG []) 0 (kP (D.lit (.bool (nxB k r rn m s sn)))) (kG []) 0 := by
 refine Fun.mk (n := 6) Try.func50 rfl rfl (Nat.le_of_ble_eq_true rfl) ?_
 intro cx hcx
 refine kK [.no, .no] True [(1, rV 0 0)] [(0, some (78, .ds [iD k, dl r rn, D.sl (k9 m) c, dl s sn]))] 1 trivial ?_
 rcases Bool.eq_false_or_eq_true (eX k r rn m s sn) with hx1 | hx1
 ·refine kK [.no, .call [] (bV true) [] 0 [] none, .no, .no] (Fun 51 [.agg [iC k, .d (dl r rn), .d (D.sl (k9 m) c), .d (dl s sn)]] (kG []) 0 (bV true) (kG []) 0) [(2, bV false)] [] 1 (by have h0 := (k3g k r rn m c s sn zo zo zo zo zo zo (kS : MsW m)); rw [hx1] at h0; exact h0) ?_
  refine AW.ret ?_
  exact kC (.inr rfl) [] (P := ((nxB k r rn m s sn) = false)) zk (by first | exact u12 (by assumption) | exact u13 (by assumption))
 ·refine kK [.no, .call [] (bV false) [] 0 [] none, .no, .no] (Fun 51 [.agg [iC k, .d (dl r rn), .d (D.sl (k9 m) c), .d (dl s sn)]] (kG []) 0 (bV false) (kG []) 0) [(2, bV true)] [] 1 (by have h0 := (k3g k r rn m c s sn zo zo zo zo zo zo (kS : MsW m)); rw [hx1] at h0; exact h0) ?_
  refine AW.ret ?_
  exact kC (.inr rfl) [] (P := ((nxB k r rn m s sn) = true)) zk (by first | exact u12 (by assumption) | exact u13 (by assumption))
@[reducible] def q1B (x : List Bx) (i : Nat) : List D := [iD (cE x i), dl (c9 x i) (vZ x i), D.sl (k9 (vH x i)) (List.length (vH x i)), dl (fN x i) (cD x i)]
@[reducible] def eM (x : List Bx) (n : Nat) : E1 := (.c (.d (D.sl (qH x) n)))
theorem k75 (bs : List Bx) (n : Nat) (hn : List.length bs = n) (h1 : n ≤ 1000000) (hW : BsW bs) : Fun 64 [.c (.d (D.sl (qH bs) n)), .c (.fn 50 [])] (kG []) 0 (iV (nZ bs n)) (kG []) 0 := by
 refine Fun.mk (n := 19) Try.func64 rfl rfl (Nat.le_of_ble_eq_true rfl) ?_
 intro cx hcx
 refine kK [.no] True [(0, .e (eM bs n)), (1, .e (.c (.fn 50 [])))] [] 0 trivial ?_
 refine AW.seq ?_
 refine kX [.no, .no, .no] True [(0, .e (eM bs n)), (1, .e (.c (.fn 50 []))), (7, uV n), (8, iV 0)] trivial ?_
 refine AW.block ?_
 refine kW 0 hcx (fun (x : {x : Nat // match x with | k => (k ≤ n) ∧ (nZ bs k = -1)}) => match x with | ⟨k, _⟩ => (⟨[(0, .e (eM bs n)), (1, .e (.c (.fn 50 []))), (7, uV n), (8, uV k)], [], 0⟩ : ES)) (fun x => match x with | ⟨k, _⟩ => n - k) ⟨(0 : Nat), ⟨eC, rfl⟩⟩ [] (P := (k8 (qH bs)) ∧ (kM n) ∧ (kN (n : Int)) ∧ (kN 0)) zk ⟨rfl, rfl, rfl, rfl⟩ ?_
 rintro ⟨k, hinv0⟩
 obtain ⟨hk, hi⟩ : (k ≤ n) ∧ (nZ bs k = -1) := hinv0
 refine uI (l := [(0, .e (eM bs n)), (1, .e (.c (.fn 50 []))), (7, uV n), (8, uV k)]) (g := []) (nx := 0) rfl rfl rfl ?_
 by_cases hx1 : (((k : Nat) : Int) < ((n : Nat) : Int))
 ·refine kK [.b true] (((k : Int) < (n : Int))) [(0, .e (eM bs n)), (1, .e (.c (.fn 50 []))), (7, uV n), (8, uV k), (9, bV true)] [] 0 zo ?_
  refine AW.seq ?_
  refine vC ?_
  refine AW.seq ?_
  refine AW.block ?_
  refine kX [.no, .no] True [(0, .e (eM bs n)), (1, .e (.c (.fn 50 []))), (5, uV k), (7, uV n), (8, uV k)] trivial ?_
  rcases Bool.eq_false_or_eq_true (nxB (cE bs k) (c9 bs k) (vZ bs k) (vH bs k) (fN bs k) (cD bs k)) with hx7 | hx7
  ·obtain ⟨hx8, hx9, hx10, hx11, hx12⟩ := BsW.at (kS : BsW bs) (k)
   refine kK [.no, .no, .no, .n k, .ds (q1B bs k), .call [] (bV true) [] 0 [] none] ((kN (k : Int)) ∧ (k < n) ∧ (List.take 4 (List.drop (k * 4) (qH bs)) = (q1B bs k)) ∧ (((q1B bs k) : List D).length = 4) ∧ (Fun 50 [.agg [iC (cE bs k), .d (dl (c9 bs k) (vZ bs k)), .d (D.sl (k9 (vH bs k)) (List.length (vH bs k))), .d (dl (fN bs k) (cD bs k))]] (kG []) 0 (bV true) (kG []) 0)) [(0, .e (eM bs n)), (1, .e (.c (.fn 50 []))), (5, uV k), (7, uV n), (8, uV k), (16, bV true)] [] 0 ⟨rfl, zo, (k33 f4), rfl, (by have h0 := (p9 (cE bs k) (c9 bs k) (vZ bs k) (vH bs k) (List.length (vH bs k)) (fN bs k) (cD bs k) u3 u3 rfl u3 u3 u3 (s6 (kS : BsW bs) _)); rw [hx7] at h0; exact h0)⟩ ?_
   refine zt ?_
   refine kX [.no, .no] True [(4, uV k)] trivial ?_
   refine AW.ret ?_
   exact kC (.inr rfl) [] (P := (((nZ bs n) : Int) = (k : Int))) zk (by first | rfl | exact k64 hi (by assumption) zo | (rw [show n = k by omega]; exact hi) | omega)
  ·obtain ⟨hx13, hx14, hx15, hx16, hx17⟩ := BsW.at (kS : BsW bs) (k)
   refine kK [.no, .no, .no, .n k, .ds (q1B bs k), .call [] (bV false) [] 0 [] none] ((kN (k : Int)) ∧ (k < n) ∧ (List.take 4 (List.drop (k * 4) (qH bs)) = (q1B bs k)) ∧ (((q1B bs k) : List D).length = 4) ∧ (Fun 50 [.agg [iC (cE bs k), .d (dl (c9 bs k) (vZ bs k)), .d (D.sl (k9 (vH bs k)) (List.length (vH bs k))), .d (dl (fN bs k) (cD bs k))]] (kG []) 0 (bV false) (kG []) 0)) [(0, .e (eM bs n)), (1, .e (.c (.fn 50 []))), (5, uV k), (7, uV n), (8, uV k), (16, bV false)] [] 0 ⟨rfl, zo, (k33 f4), rfl, (by have h0 := (p9 (cE bs k) (c9 bs k) (vZ bs k) (vH bs k) (List.length (vH bs k)) (fN bs k) (cD bs k) u3 u3 rfl u3 u3 u3 (s6 (kS : BsW bs) _)); rw [hx7] at h0; exact h0)⟩ ?_
   refine yW ?_
   refine yG [.w, .no] (qM ((k : Int) + 1)) [(0, .e (eM bs n)), (1, .e (.c (.fn 50 []))), (7, uV n), (8, iV (↑k + 1))] ⟨by omega, by omega⟩ ?_
   exact qR ⟨((k + 1) : Nat), ⟨eC, (k9v hi (by assumption))⟩⟩ [] (P := (k8 (qH bs)) ∧ (kM n) ∧ (kN (n : Int)) ∧ (((((k + 1) : Nat) : Int) : Int) = ((k : Int) + 1))) zk ⟨rfl, rfl, rfl, (by first | rfl | omega | assumption | (simp; done) | (simp; omega))⟩ (show n - (k + 1) < n - k from (by first | omega | (show _ < _; simp; omega)))
 ·refine kK [.b false] (¬ ((k : Int) < (n : Int))) [(0, .e (eM bs n)), (1, .e (.c (.fn 50 []))), (7, uV n), (8, uV k), (9, bV false)] [] 0 zo ?_
  refine AW.seq ?_
  refine zf ?_
  refine AW.exit ?_
  refine kK [.no] True [(4, iV (-1))] [] 0 trivial ?_
  refine AW.ret ?_
  exact kC (.inr rfl) [] (P := (((nZ bs n) : Int) = (-1))) zk (by first | rfl | exact k64 hi (by assumption) zo | (rw [show n = k by omega]; exact hi) | omega)
theorem k78 (bs : List Bx) (n : Nat) (hn : List.length bs = n) (h1 : n ≤ 1000000) (hW : BsW bs) : Fun 49 [.c (.d (D.sl (qH bs) n)), .c (.fn 50 [])] (kG []) 0 (kP (D.lit (.bool (naB bs n)))) (kG []) 0 := by
 refine Fun.mk (n := 9) Try.func49 rfl rfl (Nat.le_of_ble_eq_true rfl) ?_
 intro cx hcx
 refine kK [.no] True [(0, .e (eM bs n)), (1, .e (.c (.fn 50 [])))] [] 0 trivial ?_
 by_cases hx1 : ((0 : Int) ≤ (nZ bs n))
 ·refine kX [.no, .no, .call [] (iV (nZ bs n)) [] 0 [] none, .b true, .no] ((_) ∧ (((0 : Int) ≤ (nZ bs n)))) [(4, bV true)] ⟨(k75 bs n zo zo (kS : BsW bs)), zo⟩ ?_
  refine AW.ret ?_
  exact kC (.inr rfl) [] (P := ((naB bs n) = true)) zk (by first | exact decide_eq_true zo | exact decide_eq_false zo)
 ·refine kX [.no, .no, .call [] (iV (nZ bs n)) [] 0 [] none, .b false, .no] ((_) ∧ (¬ ((0 : Int) ≤ (nZ bs n)))) [(4, bV false)] ⟨(k75 bs n zo zo (kS : BsW bs)), zo⟩ ?_
  refine AW.ret ?_
  exact kC (.inr rfl) [] (P := ((naB bs n) = false)) zk (by first | exact decide_eq_true zo | exact decide_eq_false zo)
theorem fY (bs : List Bx) (n : Nat) (hn : List.length bs = n) (h1 : n ≤ 1000000) (hW : BsW bs) : Fun 30 [.c (.d (D.sl (qH bs) n))] (kG []) 0 (kP (D.lit (.bool (lI bs)))) (kG []) 0 := by
 refine Fun.mk (n := 11) Try.func30 rfl rfl (Nat.le_of_ble_eq_true rfl) ?_
 intro cx hcx
 refine kK [.no] True [(0, .e (eM bs n))] [] 0 trivial ?_
 by_cases hx1 : (((n : Nat) : Int) ≤ 64)
 ·rcases Bool.eq_false_or_eq_true (naB bs n) with hx2 | hx2
  ·refine kX [.no, .no, .b true, .no, .no, .call [] (bV true) [] 0 [] none, .no, .no, .no] ((((n : Int) ≤ 64)) ∧ (Fun 49 [.c (.d (D.sl (qH bs) n)), .c (.fn 50 [])] (kG []) 0 (bV true) (kG []) 0)) [(2, bV false)] ⟨zo, (by have h0 := (k78 bs n zo zo (kS : BsW bs)); rw [hx2] at h0; exact h0)⟩ ?_
   refine AW.ret ?_
   exact kC (.inr rfl) [] (P := ((lI bs) = false)) zk (by first | exact k7e zo | exact k84 hn (by assumption) | exact k83 hn zo (by assumption))
  ·refine kX [.no, .no, .b true, .no, .no, .call [] (bV false) [] 0 [] none, .no, .no, .no] ((((n : Int) ≤ 64)) ∧ (Fun 49 [.c (.d (D.sl (qH bs) n)), .c (.fn 50 [])] (kG []) 0 (bV false) (kG []) 0)) [(2, bV true)] ⟨zo, (by have h0 := (k78 bs n zo zo (kS : BsW bs)); rw [hx2] at h0; exact h0)⟩ ?_
   refine AW.ret ?_
   exact kC (.inr rfl) [] (P := ((lI bs) = true)) zk (by first | exact k7e zo | exact k84 hn (by assumption) | exact k83 hn zo (by assumption))
 ·refine kX [.no, .no, .b false, .no, .no, .no] (¬ ((n : Int) ≤ 64)) [(2, bV false)] zo ?_
  refine AW.ret ?_
  exact kC (.inr rfl) [] (P := ((lI bs) = false)) zk (by first | exact k7e zo | exact k84 hn (by assumption) | exact k83 hn zo (by assumption))
end Go.Proofs.Ytalbpleglapihaa
