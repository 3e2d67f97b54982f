/- Boxes of the code. No statement is proved here. -/
import Derived.Test.YtalbpleglapihaaZL10D
namespace Go.Proofs.Ytalbpleglapihaa
open Go.ChangeShapes Go.WideShapes Go.ChangeAt Go.RowKit
open Bool renaming eq_false_or_eq_true → kb6
open List renaming drop → ka7, getD → ka0, length → ka1, length_append → ka4, length_cons → kb2, length_drop → kb1, length_nil → kb5, length_take → kb3, take → ka2
open Nat renaming le_of_ble_eq_true → ka5, lt_succ_self → kj2, not_lt_zero → ke9
set_option linter.unusedVariables false
set_option linter.unusedSimpArgs false
/-! chapter 10: the code's lists of boxes -/
set_option maxHeartbeats 4000000
set_option maxRecDepth 100000
def sW (p : Nat → Bool) : Nat → Int
 | 0 => -1
 | k + 1 => if 0 ≤ sW p k then sW p k else if p k = true then (k : Int) else -1
theorem mY {p : Nat → Bool} {k : Nat} (h : sW p k = -1) (h2 : p k = false) : sW p (k + 1) = -1 := by
 show (if 0 ≤ sW p k then _ else _) = _
 rw [if_neg (by omega), if_neg (by rw [h2]; decide)]
theorem mZ {p : Nat → Bool} {k : Nat} (h : sW p k = -1) (h2 : p k = true) : ∀ n, k < n → sW p n = (k : Int)
 | 0, h3 => absurd h3 (ke9 k)
 | n + 1, h3 => by
  show (if 0 ≤ sW p n then _ else _) = _
  by_cases e : k = n
  ·subst e; rw [if_neg (by omega), if_pos h2]
  ·have h4 := mZ h h2 n (by omega)
   rw [if_pos (by omega), h4]
theorem mX (p : Nat → Bool) : ∀ n, (sW p n = -1 ∧ ∀ j, j < n → p j = false) ∨ ∃ k, k < n ∧ sW p n = (k : Int) ∧ p k = true
 | 0 => .inl ⟨rfl, fun j h => absurd h (ke9 j)⟩
 | n + 1 => by
  rcases mX p n with ⟨h1, h2⟩ | ⟨k, hk, h1, h2⟩
  ·cases e : p n with
   | false => exact .inl ⟨mY h1 e, fun j hj => (Nat.lt_succ_iff_lt_or_eq.1 hj).elim (h2 j) fun e9 => e9 ▸ e⟩
   | true => exact .inr ⟨n, kj2 n, mZ h1 e _ (kj2 n), e⟩
  ·refine .inr ⟨k, by omega, ?_, h2⟩
   show (if 0 ≤ sW p n then _ else _) = _
   rw [if_pos (by omega)]; exact h1
theorem k6w {p : Nat → Bool} {n : Nat} (h : 0 ≤ sW p n) : ∃ k, k < n ∧ p k = true := by
 rcases mX p n with ⟨h1, _⟩ | ⟨k, hk, _, h2⟩
 ·omega
 ·exact ⟨k, hk, h2⟩
theorem k1n {p : Nat → Bool} {n : Nat} (h : ¬ 0 ≤ sW p n) : ∀ j, j < n → p j = false := by
 rcases mX p n with ⟨_, h2⟩ | ⟨k, hk, h1, _⟩
 ·exact h2
 ·omega
def rH (ms : List (List Int)) (m : List Int) : Nat → Int := sW fun j => eJ (ka0 ms j []) m
theorem k6s {ms : List (List Int)} {m : List Int} {c : Nat} (hc : ms.length = c) (h : 0 ≤ rH ms m c) : rI ms m = true := by
 obtain ⟨k, hk, h1⟩ := k6w h
 exact u47 (k := k) (by omega) h1
theorem k6u {ms : List (List Int)} {m : List Int} {c : Nat} (hc : ms.length = c) (h : ¬ 0 ≤ rH ms m c) : rI ms m = false :=
 u48 fun j hj => k1n h j (by omega)
def n6 (bs : List Bx) : Nat → Int := sW fun j => !(vbE bs j)
theorem u03 {bs : List Bx} {n : Nat} (hn : bs.length = n) (h : 0 ≤ n6 bs n) : lR bs = false := by
 obtain ⟨k, hk, h1⟩ := k6w h
 exact u3l (k := k) (by omega) (by simpa using h1)
theorem u05 {bs : List Bx} {n : Nat} (hn : bs.length = n) (h2 : n ≤ 64) (h : ¬ 0 ≤ n6 bs n) : lR bs = true :=
 u02 (by omega) fun j hj => by
  have h3 := k1n h j (by omega)
  simpa using h3
theorem u1y {ms : List (List Int)} {m : List Int} {k : Nat} (h : rH ms m k = -1) (h2 : eJ (ka0 ms k []) m = false) : rH ms m (k + 1) = -1 := mY h h2
theorem k6t {ms : List (List Int)} {m : List Int} {k : Nat} (h : rH ms m k = -1) (h2 : eJ (ka0 ms k []) m = true) {n : Nat} (hn : k < n) : rH ms m n = (k : Int) := mZ h h2 n hn
def nxB (k : Int) (r : List Int) (rn : Nat) (m : List (List Int)) (s : List Int) (sn : Nat) : Bool := !(fG k r rn m s sn)
theorem u1e {k : Int} {r : List Int} {rn : Nat} {m : List (List Int)} {s : List Int} {sn : Nat} (h : fG k r rn m s sn = false) : nxB k r rn m s sn = true := by unfold nxB; rw [h]; rfl
theorem u1f {k : Int} {r : List Int} {rn : Nat} {m : List (List Int)} {s : List Int} {sn : Nat} (h : fG k r rn m s sn = true) : nxB k r rn m s sn = false := by unfold nxB; rw [h]; rfl
theorem u04 {bs : List Bx} {k : Nat} (h : n6 bs k = -1) (h2 : nxB (cL bs k) (dF bs k) (vZ bs k) (vI bs k) (fW bs k) (cK bs k) = false) : n6 bs (k + 1) = -1 := mY h h2
theorem k6d {bs : List Bx} {k : Nat} (h : n6 bs k = -1) (h2 : nxB (cL bs k) (dF bs k) (vZ bs k) (vI bs k) (fW bs k) (cK bs k) = true) {n : Nat} (hn : k < n) : n6 bs n = (k : Int) := mZ h h2 n hn
def naB (bs : List Bx) (n : Nat) : Bool := decide (0 ≤ n6 bs n)
theorem k8e {bs : List Bx} {n : Nat} (hn : bs.length = n) (h : naB bs n = true) : lR bs = false := u03 hn (of_decide_eq_true h)
theorem k8d {bs : List Bx} {n : Nat} (hn : bs.length = n) (h2 : n ≤ 64) (h : naB bs n = false) : lR bs = true := u05 hn h2 (of_decide_eq_false h)
theorem k3u (w a : List Int) (o n : Nat) (ho : ka1 w = o) (hn : ka1 a = n) (h1 : o ≤ 1000000) (h2 : n ≤ 1000000) : Fun 81 [.c (.d (D.sl (dI .i64 a) n)), .c (.ptr 0 0)] (kG [(0, some (63, .ds [D.sl (dI .i64 w) o]))]) 1 (kS (D.lit (.bool (eJ a w)))) (kG [(0, some (63, .ds [D.sl (dI .i64 w) o]))]) 1 := by
 refine Fun.mk (n := 7) Try.func81 rfl rfl (ka5 rfl) ?_
 intro cx hcx
 refine kK [.no] True [(0, sV .i64 a n), (1, rV 0 0)] [(0, some (63, .ds [dl w o]))] 1 trivial ?_
 refine kX [.no, .no, .call [] (kS (D.lit (.bool (eJ a w)))) [] 0 [] none, .no] _ [(3, kS (D.lit (.bool (eJ a w))))] (k9k a w n o zo zo zo zo) ?_
 refine AW.ret ?_
 exact kC (.inr rfl) [] (P := ((eJ a w) = (eJ a w)) ∧ (k8 [dl w o])) zk ⟨rfl, rfl⟩
theorem eL {p : Prop} (h : p := by first | omega | assumption | simp) : p := h
theorem gB {p : Prop} (h : p := by first | omega | (simp only [kR, kQ, ka4, kb2, kb5, kb3, kb1] <;> omega)) : p := h
theorem u4 {p : Prop} (h : p := by first | omega | with_reducible assumption | (simp only [kR, kQ, ka4, kb2, kb5, kb3, kb1, List.length_replicate, List.length_set] <;> omega) | rfl | assumption) : p := h
theorem k7f (ms : List (List Int)) (c : Nat) (w : List Int) (o : Nat) (hc : ka1 ms = c) (ho : ka1 w = o) (h1 : c ≤ 1000000) (h2 : o ≤ 1000000) (hW : MsW ms) : Fun 84 [.c (.d (D.sl (qA ms) c)), .c (.fn 81 [(0, 0)])] (kG [(0, some (63, .ds [D.sl (dI .i64 w) o]))]) 1 (iV (rH ms w c)) (kG [(0, some (63, .ds [D.sl (dI .i64 w) o]))]) 1 := by
 refine Fun.mk (n := 19) Try.func84 rfl rfl (ka5 rfl) ?_
 intro cx hcx
 refine kK [.no] True [(0, qY (qA ms) c), (1, .e (.c (.fn 81 [(0, 0)])))] [(0, some (63, .ds [dl w o]))] 1 trivial ?_
 refine AW.seq ?_
 refine kX [.no, .no, .no] True [(0, qY (qA ms) c), (1, .e (.c (.fn 81 [(0, 0)]))), (7, uV c), (8, iV 0)] trivial ?_
 refine AW.block ?_
 refine kW 1 hcx (fun (x : {x : Nat // match x with | k => (k ≤ c) ∧ (rH ms w k = -1)}) => match x with | ⟨k, _⟩ => (⟨[(0, qY (qA ms) c), (1, .e (.c (.fn 81 [(0, 0)]))), (7, uV c), (8, uV k)], [(0, some (63, .ds [dl w o]))], 1⟩ : ES)) (fun x => match x with | ⟨k, _⟩ => c - k) ⟨(0 : Nat), ⟨eL, rfl⟩⟩ [] (P := (k8 (qA ms)) ∧ (kM c) ∧ (kN (c : Int)) ∧ (kN 0) ∧ (k8 [dl w o])) zk ⟨rfl, rfl, rfl, rfl, rfl⟩ ?_
 rintro ⟨k, hinv0⟩
 obtain ⟨hk, hi⟩ : (k ≤ c) ∧ (rH ms w k = -1) := hinv0
 refine uI (l := [(0, qY (qA ms) c), (1, .e (.c (.fn 81 [(0, 0)]))), (7, uV c), (8, uV k)]) (g := [(0, some (63, .ds [dl w o]))]) (nx := 1) rfl rfl rfl ?_
 by_cases hx1 : (((k : Nat) : Int) < ((c : Nat) : Int))
 ·refine kK [.b true] (((k : Int) < (c : Int))) [(0, qY (qA ms) c), (1, .e (.c (.fn 81 [(0, 0)]))), (7, uV c), (8, uV k), (9, bV true)] [(0, some (63, .ds [dl w o]))] 1 zo ?_
  refine AW.seq ?_
  refine vD ?_
  refine AW.seq ?_
  refine AW.block ?_
  refine kX [.no, .no] True [(0, qY (qA ms) c), (1, .e (.c (.fn 81 [(0, 0)]))), (5, uV k), (7, uV c), (8, uV k)] trivial ?_
  rcases kb6 (eJ (ka0 ms k ([] : List Int)) w) with hx3 | hx3
  ·have hx4 : ((ka1 (ka0 ms k ([] : List Int))) ≤ 1000000) := MsW.at (kP : MsW ms) _
   refine kX [.no, .no, .no, .n k, .d (dl (ka0 ms k ([] : List Int)) (ka1 (ka0 ms k ([] : List Int)))), .call [0] (bV true) [(0, some (63, .ds [dl w o]))] 1 [] none] ((kN (k : Int)) ∧ (k < c) ∧ ((ka7 k (qA ms))[0]? = some (dl (ka0 ms k ([] : List Int)) (ka1 (ka0 ms k ([] : List Int))))) ∧ (Fun 81 [.c (.d (dl (ka0 ms k ([] : List Int)) (ka1 (ka0 ms k ([] : List Int))))), .c (.ptr 0 0)] (kG [(0, some (63, .ds [dl w o]))]) 1 (bV true) (kG [(0, some (63, .ds [dl w o]))]) 1)) [(0, qY (qA ms) c), (1, .e (.c (.fn 81 [(0, 0)]))), (5, uV k), (7, uV c), (8, uV k), (16, bV true)] ⟨rfl, zo, (eY _ _ gB), (by have h0 := (k3u w (ka0 ms k ([] : List Int)) o (ka1 (ka0 ms k ([] : List Int))) zo rfl zo u4); rw [hx3] at h0; exact h0)⟩ ?_
   refine zt ?_
   refine kX [.no, .no] True [(4, uV k)] trivial ?_
   refine AW.ret ?_
   exact kC (.inr rfl) [] (P := (((rH ms w c) : Int) = (k : Int)) ∧ (k8 [dl w o])) zk ⟨(by first | rfl | exact k6t hi (by assumption) zo | (rw [show c = k by omega]; exact hi) | omega), rfl⟩
  ·have hx5 : ((ka1 (ka0 ms k ([] : List Int))) ≤ 1000000) := MsW.at (kP : MsW ms) _
   refine kX [.no, .no, .no, .n k, .d (dl (ka0 ms k ([] : List Int)) (ka1 (ka0 ms k ([] : List Int)))), .call [0] (bV false) [(0, some (63, .ds [dl w o]))] 1 [] none] ((kN (k : Int)) ∧ (k < c) ∧ ((ka7 k (qA ms))[0]? = some (dl (ka0 ms k ([] : List Int)) (ka1 (ka0 ms k ([] : List Int))))) ∧ (Fun 81 [.c (.d (dl (ka0 ms k ([] : List Int)) (ka1 (ka0 ms k ([] : List Int))))), .c (.ptr 0 0)] (kG [(0, some (63, .ds [dl w o]))]) 1 (bV false) (kG [(0, some (63, .ds [dl w o]))]) 1)) [(0, qY (qA ms) c), (1, .e (.c (.fn 81 [(0, 0)]))), (5, uV k), (7, uV c), (8, uV k), (16, bV false)] ⟨rfl, zo, (eY _ _ gB), (by have h0 := (k3u w (ka0 ms k ([] : List Int)) o (ka1 (ka0 ms k ([] : List Int))) zo rfl zo u4); rw [hx3] at h0; exact h0)⟩ ?_
   refine yV ?_
   refine yH [.w, .no] (qL ((k : Int) + 1)) [(0, qY (qA ms) c), (1, .e (.c (.fn 81 [(0, 0)]))), (7, uV c), (8, iV (↑k + 1))] ⟨by omega, by omega⟩ ?_
   exact qQ ⟨((k + 1) : Nat), ⟨eL, (u1y hi (by assumption))⟩⟩ [] (P := (k8 (qA ms)) ∧ (kM c) ∧ (kN (c : Int)) ∧ (((((k + 1) : Nat) : Int) : Int) = ((k : Int) + 1)) ∧ (k8 [dl w o])) zk ⟨rfl, rfl, rfl, (by first | rfl | omega | assumption | (simp; done) | (simp; omega)), rfl⟩ (show c - (k + 1) < c - k from (by first | omega | (show _ < _; simp; omega)))
 ·refine kK [.b false] (¬ ((k : Int) < (c : Int))) [(0, qY (qA ms) c), (1, .e (.c (.fn 81 [(0, 0)]))), (7, uV c), (8, uV k), (9, bV false)] [(0, some (63, .ds [dl w o]))] 1 zo ?_
  refine AW.seq ?_
  refine zf ?_
  refine AW.exit ?_
  refine kK [.no] True [(4, iV (-1))] [(0, some (63, .ds [dl w o]))] 1 trivial ?_
  refine AW.ret ?_
  exact kC (.inr rfl) [] (P := (((rH ms w c) : Int) = (-1)) ∧ (k8 [dl w o])) zk ⟨(by first | rfl | exact k6t hi (by assumption) zo | (rw [show c = k by omega]; exact hi) | omega), rfl⟩
theorem u2n (ms : List (List Int)) (c : Nat) (w : List Int) (o : Nat) (hc : ka1 ms = c) (ho : ka1 w = o) (h1 : c ≤ 1000000) (h2 : o ≤ 1000000) (hW : MsW ms) : Fun 80 [.c (.d (D.sl (qA ms) c)), .c (.fn 81 [(0, 0)])] (kG [(0, some (63, .ds [D.sl (dI .i64 w) o]))]) 1 (kS (D.lit (.bool (rI ms w)))) (kG [(0, some (63, .ds [D.sl (dI .i64 w) o]))]) 1 := by
 refine Fun.mk (n := 9) Try.func80 rfl rfl (ka5 rfl) ?_
 intro cx hcx
 refine kK [.no] True [(0, qY (qA ms) c), (1, .e (.c (.fn 81 [(0, 0)])))] [(0, some (63, .ds [dl w o]))] 1 trivial ?_
 by_cases hx1 : ((0 : Int) ≤ (rH ms w c))
 ·refine kX [.no, .no, .call [0] (iV (rH ms w c)) [(0, some (63, .ds [dl w o]))] 1 [] none, .b true, .no] ((_) ∧ (((0 : Int) ≤ (rH ms w c)))) [(4, bV true)] ⟨(k7f ms c w o zo zo zo zo (kP : MsW ms)), zo⟩ ?_
  refine AW.ret ?_
  exact kC (.inr rfl) [] (P := ((rI ms w) = true) ∧ (k8 [dl w o])) zk ⟨(by first | exact k6s hc zo | exact k6u hc zo), rfl⟩
 ·refine kX [.no, .no, .call [0] (iV (rH ms w c)) [(0, some (63, .ds [dl w o]))] 1 [] none, .b false, .no] ((_) ∧ (¬ ((0 : Int) ≤ (rH ms w c)))) [(4, bV false)] ⟨(k7f ms c w o zo zo zo zo (kP : MsW ms)), zo⟩ ?_
  refine AW.ret ?_
  exact kC (.inr rfl) [] (P := ((rI ms w) = false) ∧ (k8 [dl w o])) zk ⟨(by first | exact k6s hc zo | exact k6u hc zo), rfl⟩
theorem k7g (ms : List (List Int)) (c : Nat) (w : List Int) (o : Nat) (hc : ka1 ms = c) (ho : ka1 w = o) (h1 : c ≤ 1000000) (h2 : o ≤ 1000000) (hW : MsW ms) : Fun 75 [.c (.d (D.sl (qA ms) c)), .c (.d (D.sl (dI .i64 w) o))] (kG []) 0 (kS (D.lit (.bool (rI ms w)))) (kG []) 0 := by
 refine Fun.mk (n := 8) Try.func75 rfl rfl (ka5 rfl) ?_
 intro cx hcx
 refine kK [.no, .no] True [(0, qY (qA ms) c), (3, rV 0 0)] [(0, some (63, .ds [dl w o]))] 1 trivial ?_
 refine kK [.no, .no, .call [0] (kS (D.lit (.bool (rI ms w)))) [(0, some (63, .ds [dl w o]))] 1 [] none, .no] _ [(4, kS (D.lit (.bool (rI ms w))))] [] 1 (u2n ms c w o zo zo zo zo (kP : MsW ms)) ?_
 refine AW.ret ?_
 exact kC (.inr rfl) [] (P := ((rI ms w) = (rI ms w))) zk rfl
theorem gA {p : Prop} (h : p := by first | exact u00 (by assumption) | exact k9z (by assumption)) : p := h
theorem nM (m : List (List Int)) (c : Nat) (hc : ka1 m = c) (h1 : c ≤ 1000000) (hW : MsW m) : Fun 66 [.c (.d (D.sl (qA m) c))] (kG []) 0 (kS (D.lit (.bool (nR m)))) (kG []) 0 := by
 refine Fun.mk (n := 31) Try.func66 rfl rfl (ka5 rfl) ?_
 intro cx hcx
 refine kK [.no] True [(0, qY (qA m) c)] [] 0 trivial ?_
 refine AW.seq ?_
 by_cases hx1 : (((c : Nat) : Int) < 1)
 ·refine kX [.no, .no, .b true, .no, .no] (((c : Int) < 1)) [(0, qY (qA m) c), (12, bV true)] zo ?_
  refine zt ?_
  refine kX [.no] True [(2, bV false)] trivial ?_
  refine AW.ret ?_
  exact kC (.inr rfl) [] (P := ((nR m) = false)) zk (by first | exact xB zo zo (fun j hj => ha j zo) | exact zV zo | exact zW (k := i) zo gA)
 ·by_cases hx2 : ((16 : Int) < ((c : Nat) : Int))
  ·refine kX [.no, .no, .b false, .no, .no, .no, .b true, .no] ((¬ ((c : Int) < 1)) ∧ (((16 : Int) < (c : Int)))) [(0, qY (qA m) c), (12, bV true)] ⟨zo, zo⟩ ?_
   refine zt ?_
   refine kX [.no] True [(2, bV false)] trivial ?_
   refine AW.ret ?_
   exact kC (.inr rfl) [] (P := ((nR m) = false)) zk (by first | exact xB zo zo (fun j hj => ha j zo) | exact zV zo | exact zW (k := i) zo gA)
  ·refine kX [.no, .no, .b false, .no, .no, .no, .b false, .no] ((¬ ((c : Int) < 1)) ∧ (¬ ((16 : Int) < (c : Int)))) [(0, qY (qA m) c), (12, bV false)] ⟨zo, zo⟩ ?_
   refine yV ?_
   refine AW.seq ?_
   refine kX [.no, .no, .no] True [(0, qY (qA m) c), (13, qY (qA m) c), (14, uV c), (15, iV 0)] trivial ?_
   refine AW.block ?_
   refine kW 0 hcx (fun (x : {x : Nat // match x with | i => (i ≤ c) ∧ (∀ j, j < i → zN m j = true)}) => match x with | ⟨i, _⟩ => (⟨[(0, qY (qA m) c), (13, qY (qA m) c), (14, uV c), (15, uV i)], [], 0⟩ : ES)) (fun x => match x with | ⟨i, _⟩ => c - i) ⟨(0 : Nat), ⟨eL, (fun j hj => absurd hj (ke9 j))⟩⟩ [] (P := (k8 (qA m)) ∧ (kM c) ∧ (k8 (qA m)) ∧ (kM c) ∧ (kN (c : Int)) ∧ (kN 0)) zk ⟨rfl, rfl, rfl, rfl, rfl, rfl⟩ ?_
   rintro ⟨i, hinv0⟩
   obtain ⟨hi, ha⟩ : (i ≤ c) ∧ (∀ j, j < i → zN m j = true) := hinv0
   refine uI (l := [(0, qY (qA m) c), (13, qY (qA m) c), (14, uV c), (15, uV i)]) (g := []) (nx := 0) rfl rfl rfl ?_
   by_cases hx3 : (((i : Nat) : Int) < ((c : Nat) : Int))
   ·refine kK [.b true] (((i : Int) < (c : Int))) [(0, qY (qA m) c), (13, qY (qA m) c), (14, uV c), (15, uV i), (16, bV true)] [] 0 zo ?_
    refine AW.seq ?_
    refine vD ?_
    refine AW.seq ?_
    refine AW.block ?_
    have hx4 : ((ka1 (ka0 m i ([] : List Int))) ≤ 1000000) := MsW.at (kP : MsW m) _
    refine kX [.no, .n i, .d (dl (ka0 m i ([] : List Int)) (ka1 (ka0 m i ([] : List Int)))), .no, .no] ((kN (i : Int)) ∧ (i < c) ∧ ((ka7 i (qA m))[0]? = some (dl (ka0 m i ([] : List Int)) (ka1 (ka0 m i ([] : List Int)))))) [(0, qY (qA m) c), (3, uV i), (4, sV .i64 (ka0 m i ([] : List Int)) (ka1 (ka0 m i ([] : List Int)))), (13, qY (qA m) c), (14, uV c), (15, uV i)] ⟨rfl, zo, (eY _ _ gB)⟩ ?_
    rcases kb6 (i4 (ka0 m i ([] : List Int)) (ka1 (ka0 m i ([] : List Int)))) with hx5 | hx5
    ·rcases kb6 (rI (ka2 i m) (ka0 m i ([] : List Int))) with hx6 | hx6
     ·refine kX (.no :: .call [] (bV true) [] 0 [] none :: kU 4 [.sls 0 i i (qA (ka2 i m)), .no, .call [] (bV true) [] 0 [] none, .no]) ((Fun 74 [.c (.d (dl (ka0 m i ([] : List Int)) (ka1 (ka0 m i ([] : List Int)))))] (kG []) 0 (bV true) (kG []) 0) ∧ (kM 0) ∧ (kN (i : Int)) ∧ ((0 : Nat) ≤ i) ∧ (i ≤ c) ∧ (i - 0 = i) ∧ (ka2 (i * 1) (ka7 (0 * 1) (qA m)) = (qA (ka2 i m))) ∧ (Fun 75 [.c (.d (D.sl (qA (ka2 i m)) i)), .c (.d (dl (ka0 m i ([] : List Int)) (ka1 (ka0 m i ([] : List Int)))))] (kG []) 0 (bV true) (kG []) 0)) [(0, qY (qA m) c), (13, qY (qA m) c), (14, uV c), (15, uV i), (29, bV true)] ⟨(by have h0 := (nK (ka0 m i ([] : List Int)) (ka1 (ka0 m i ([] : List Int))) rfl u4); rw [hx5] at h0; exact h0), rfl, rfl, zo, zo, zo, (oU _ _), (by have h0 := (k7g (ka2 i m) i (ka0 m i ([] : List Int)) (ka1 (ka0 m i ([] : List Int))) u4 rfl zo u4 (MsW.take (kP : MsW m) _)); rw [hx6] at h0; exact h0)⟩ ?_
      refine zt ?_
      refine kX [.no] True [(2, bV false)] trivial ?_
      refine AW.ret ?_
      exact kC (.inr rfl) [] (P := ((nR m) = false)) zk (by first | exact xB zo zo (fun j hj => ha j zo) | exact zV zo | exact zW (k := i) zo gA)
     ·refine kX (.no :: .call [] (bV true) [] 0 [] none :: kU 4 [.sls 0 i i (qA (ka2 i m)), .no, .call [] (bV false) [] 0 [] none, .no]) ((Fun 74 [.c (.d (dl (ka0 m i ([] : List Int)) (ka1 (ka0 m i ([] : List Int)))))] (kG []) 0 (bV true) (kG []) 0) ∧ (kM 0) ∧ (kN (i : Int)) ∧ ((0 : Nat) ≤ i) ∧ (i ≤ c) ∧ (i - 0 = i) ∧ (ka2 (i * 1) (ka7 (0 * 1) (qA m)) = (qA (ka2 i m))) ∧ (Fun 75 [.c (.d (D.sl (qA (ka2 i m)) i)), .c (.d (dl (ka0 m i ([] : List Int)) (ka1 (ka0 m i ([] : List Int)))))] (kG []) 0 (bV false) (kG []) 0)) [(0, qY (qA m) c), (13, qY (qA m) c), (14, uV c), (15, uV i), (29, bV false)] ⟨(by have h0 := (nK (ka0 m i ([] : List Int)) (ka1 (ka0 m i ([] : List Int))) rfl u4); rw [hx5] at h0; exact h0), rfl, rfl, zo, zo, zo, (oU _ _), (by have h0 := (k7g (ka2 i m) i (ka0 m i ([] : List Int)) (ka1 (ka0 m i ([] : List Int))) u4 rfl zo u4 (MsW.take (kP : MsW m) _)); rw [hx6] at h0; exact h0)⟩ ?_
      refine yV ?_
      refine yH [.w, .no] (qL ((i : Int) + 1)) [(0, qY (qA m) c), (13, qY (qA m) c), (14, uV c), (15, iV (↑i + 1))] ⟨by omega, by omega⟩ ?_
      exact qQ ⟨((i + 1) : Nat), ⟨eL, (fun j hj => (Nat.lt_succ_iff_lt_or_eq.1 hj).elim (ha j) (fun e9 => by subst e9; exact k6c (by assumption) (by assumption)))⟩⟩ [] (P := (k8 (qA m)) ∧ (kM c) ∧ (k8 (qA m)) ∧ (kM c) ∧ (kN (c : Int)) ∧ (((((i + 1) : Nat) : Int) : Int) = ((i : Int) + 1))) zk ⟨rfl, rfl, rfl, rfl, rfl, (by first | rfl | omega | assumption | (simp; done) | (simp; omega))⟩ (show c - (i + 1) < c - i from (by first | omega | (show _ < _; simp; omega)))
    ·refine kX [.no, .call [] (bV false) [] 0 [] none, .no, .no, .no] (Fun 74 [.c (.d (dl (ka0 m i ([] : List Int)) (ka1 (ka0 m i ([] : List Int)))))] (kG []) 0 (bV false) (kG []) 0) [(0, qY (qA m) c), (13, qY (qA m) c), (14, uV c), (15, uV i), (29, bV true)] (by have h0 := (nK (ka0 m i ([] : List Int)) (ka1 (ka0 m i ([] : List Int))) rfl u4); rw [hx5] at h0; exact h0) ?_
     refine zt ?_
     refine kX [.no] True [(2, bV false)] trivial ?_
     refine AW.ret ?_
     exact kC (.inr rfl) [] (P := ((nR m) = false)) zk (by first | exact xB zo zo (fun j hj => ha j zo) | exact zV zo | exact zW (k := i) zo gA)
   ·refine kK [.b false] (¬ ((i : Int) < (c : Int))) [(0, qY (qA m) c), (13, qY (qA m) c), (14, uV c), (15, uV i), (16, bV false)] [] 0 zo ?_
    refine AW.seq ?_
    refine zf ?_
    refine AW.exit ?_
    refine kK [.no] True [(2, bV true)] [] 0 trivial ?_
    refine AW.ret ?_
    exact kC (.inr rfl) [] (P := ((nR m) = true)) zk (by first | exact xB zo zo (fun j hj => ha j zo) | exact zV zo | exact zW (k := i) zo gA)
theorem eM {p : Prop} (h : p := by first | exact u2c (by omega) (by assumption) (by assumption) (by assumption) | exact u4k (by omega) | exact u4j (by assumption) | exact u4i (by assumption) | exact u4h (by assumption)) : p := h
theorem k3t (k : Int) (r : List Int) (rn : Nat) (m : List (List Int)) (c : Nat) (s : List Int) (sn : Nat) (hr : ka1 r = rn * 2) (hs : ka1 s = sn * 2) (hc : ka1 m = c) (h1 : rn ≤ 1000000) (h2 : sn ≤ 1000000) (h3 : c ≤ 1000000) (hW : MsW m) : Fun 51 [.agg [iC k, .d (D.sl (dI .i64 r) rn), .d (D.sl (qA m) c), .d (D.sl (dI .i64 s) sn)]] (kG []) 0 (kS (D.lit (.bool (fG k r rn m s sn)))) (kG []) 0 := by
 refine Fun.mk (n := 27) Try.func51 rfl rfl (ka5 rfl) ?_
 intro cx hcx
 refine kK [.no, .no] True [(1, rV 0 0)] [(0, some (78, .ds [iD k, dl r rn, D.sl (qA m) c, dl s sn]))] 1 trivial ?_
 by_cases hx1 : (k ≠ 0)
 ·by_cases hx2 : ((i5 k) = 0)
  ·rcases kb6 (fJ r rn 1000 768000) with hx3 | hx3
   ·rcases kb6 (nR m) with hx4 | hx4
    ·rcases kb6 (fJ s sn 1 65536) with hx5 | hx5
     ·refine kK (.no :: .no :: .b true :: .no :: .no :: .no :: .i (i5 k) :: .b true :: kU 4 (.call [] (bV true) [] 0 [] none :: kU 4 (.call [] (bV true) [] 0 [] none :: kU 4 [.call [] (bV true) [] 0 [] none, .no, .no]))) (((k ≠ 0)) ∧ (qK .andNot .i64 k 254 = (i5 k)) ∧ (((i5 k) = 0)) ∧ (Fun 65 [.agg [.d (dl r rn)], iE 1000, iE 768000] (kG []) 0 (bV true) (kG []) 0) ∧ (Fun 66 [.c (.d (D.sl (qA m) c))] (kG []) 0 (bV true) (kG []) 0) ∧ (Fun 65 [.agg [.d (dl s sn)], iE 1, iE 65536] (kG []) 0 (bV true) (kG []) 0)) [(2, bV true)] [] 1 ⟨zo, rfl, zo, (by have h0 := (fH r rn 1000 768000 zo zo); rw [hx3] at h0; exact h0), (by have h0 := (nM m c zo zo (kP : MsW m)); rw [hx4] at h0; exact h0), (by have h0 := (fH s sn 1 65536 zo zo); rw [hx5] at h0; exact h0)⟩ ?_
      refine AW.ret ?_
      exact kC (.inr rfl) [] (P := ((fG k r rn m s sn) = true)) zk eM
     ·refine kK (.no :: .no :: .b true :: .no :: .no :: .no :: .i (i5 k) :: .b true :: kU 4 (.call [] (bV true) [] 0 [] none :: kU 4 (.call [] (bV true) [] 0 [] none :: kU 4 [.call [] (bV false) [] 0 [] none, .no, .no]))) (((k ≠ 0)) ∧ (qK .andNot .i64 k 254 = (i5 k)) ∧ (((i5 k) = 0)) ∧ (Fun 65 [.agg [.d (dl r rn)], iE 1000, iE 768000] (kG []) 0 (bV true) (kG []) 0) ∧ (Fun 66 [.c (.d (D.sl (qA m) c))] (kG []) 0 (bV true) (kG []) 0) ∧ (Fun 65 [.agg [.d (dl s sn)], iE 1, iE 65536] (kG []) 0 (bV false) (kG []) 0)) [(2, bV false)] [] 1 ⟨zo, rfl, zo, (by have h0 := (fH r rn 1000 768000 zo zo); rw [hx3] at h0; exact h0), (by have h0 := (nM m c zo zo (kP : MsW m)); rw [hx4] at h0; exact h0), (by have h0 := (fH s sn 1 65536 zo zo); rw [hx5] at h0; exact h0)⟩ ?_
      refine AW.ret ?_
      exact kC (.inr rfl) [] (P := ((fG k r rn m s sn) = false)) zk eM
    ·refine kK (.no :: .no :: .b true :: .no :: .no :: .no :: .i (i5 k) :: .b true :: kU 4 (.call [] (bV true) [] 0 [] none :: kU 4 (.call [] (bV false) [] 0 [] none :: kU 4 []))) (((k ≠ 0)) ∧ (qK .andNot .i64 k 254 = (i5 k)) ∧ (((i5 k) = 0)) ∧ (Fun 65 [.agg [.d (dl r rn)], iE 1000, iE 768000] (kG []) 0 (bV true) (kG []) 0) ∧ (Fun 66 [.c (.d (D.sl (qA m) c))] (kG []) 0 (bV false) (kG []) 0)) [(2, bV false)] [] 1 ⟨zo, rfl, zo, (by have h0 := (fH r rn 1000 768000 zo zo); rw [hx3] at h0; exact h0), (by have h0 := (nM m c zo zo (kP : MsW m)); rw [hx4] at h0; exact h0)⟩ ?_
     refine AW.ret ?_
     exact kC (.inr rfl) [] (P := ((fG k r rn m s sn) = false)) zk eM
   ·refine kK (.no :: .no :: .b true :: .no :: .no :: .no :: .i (i5 k) :: .b true :: kU 4 (.call [] (bV false) [] 0 [] none :: kU 6 [])) (((k ≠ 0)) ∧ (qK .andNot .i64 k 254 = (i5 k)) ∧ (((i5 k) = 0)) ∧ (Fun 65 [.agg [.d (dl r rn)], iE 1000, iE 768000] (kG []) 0 (bV false) (kG []) 0)) [(2, bV false)] [] 1 ⟨zo, rfl, zo, (by have h0 := (fH r rn 1000 768000 zo zo); rw [hx3] at h0; exact h0)⟩ ?_
    refine AW.ret ?_
    exact kC (.inr rfl) [] (P := ((fG k r rn m s sn) = false)) zk eM
  ·refine kK (.no :: .no :: .b true :: .no :: .no :: .no :: .i (i5 k) :: .b false :: kU 8 []) (((k ≠ 0)) ∧ (qK .andNot .i64 k 254 = (i5 k)) ∧ (¬ ((i5 k) = 0))) [(2, bV false)] [] 1 ⟨zo, rfl, zo⟩ ?_
   refine AW.ret ?_
   exact kC (.inr rfl) [] (P := ((fG k r rn m s sn) = false)) zk eM
 ·refine kK (.no :: .no :: .b false :: kU 9 []) (¬ (k ≠ 0)) [(2, bV false)] [] 1 zo ?_
  refine AW.ret ?_
  exact kC (.inr rfl) [] (P := ((fG k r rn m s sn) = false)) zk eM
theorem rD (k : Int) (r : List Int) (rn : Nat) (m : List (List Int)) (c : Nat) (s : List Int) (sn : Nat) (hr : ka1 r = rn * 2) (hs : ka1 s = sn * 2) (hc : ka1 m = c) (h1 : rn ≤ 1000000) (h2 : sn ≤ 1000000) (h3 : c ≤ 1000000) (hW : MsW m) : Fun 50 [.agg [iC k, .d (D.sl (dI .i64 r) rn), .d (D.sl (qA m) c), .d (D.sl (dI .i64 s) sn)]] (kG []) 0 (kS (D.lit (.bool (nxB k r rn m s sn)))) (kG []) 0 := by
 refine Fun.mk (n := 6) Try.func50 rfl rfl (ka5 rfl) ?_
 intro cx hcx
 refine kK [.no, .no] True [(1, rV 0 0)] [(0, some (78, .ds [iD k, dl r rn, D.sl (qA m) c, dl s sn]))] 1 trivial ?_
 rcases kb6 (fG k r rn m s sn) with hx1 | hx1
 ·refine kK [.no, .call [] (bV true) [] 0 [] none, .no, .no] (Fun 51 [.agg [iC k, .d (dl r rn), .d (D.sl (qA m) c), .d (dl s sn)]] (kG []) 0 (bV true) (kG []) 0) [(2, bV false)] [] 1 (by have h0 := (k3t k r rn m c s sn zo zo zo zo zo zo (kP : MsW m)); rw [hx1] at h0; exact h0) ?_
  refine AW.ret ?_
  exact kC (.inr rfl) [] (P := ((nxB k r rn m s sn) = false)) zk (by first | exact u1e (by assumption) | exact u1f (by assumption))
 ·refine kK [.no, .call [] (bV false) [] 0 [] none, .no, .no] (Fun 51 [.agg [iC k, .d (dl r rn), .d (D.sl (qA m) c), .d (dl s sn)]] (kG []) 0 (bV false) (kG []) 0) [(2, bV true)] [] 1 (by have h0 := (k3t k r rn m c s sn zo zo zo zo zo zo (kP : MsW m)); rw [hx1] at h0; exact h0) ?_
  refine AW.ret ?_
  exact kC (.inr rfl) [] (P := ((nxB k r rn m s sn) = true)) zk (by first | exact u1e (by assumption) | exact u1f (by assumption))
@[reducible] def q1B (x : List Bx) (i : Nat) : List D := [iD (cL x i), dl (dF x i) (vZ x i), D.sl (qA (vI x i)) (ka1 (vI x i)), dl (fW x i) (cK x i)]
@[reducible] def eW (x : List Bx) (n : Nat) : E1 := (.c (.d (D.sl (qI x) n)))
theorem k7e (bs : List Bx) (n : Nat) (hn : ka1 bs = n) (h1 : n ≤ 1000000) (hW : BsW bs) : Fun 64 [.c (.d (D.sl (qI bs) n)), .c (.fn 50 [])] (kG []) 0 (iV (n6 bs n)) (kG []) 0 := by
 refine Fun.mk (n := 19) Try.func64 rfl rfl (ka5 rfl) ?_
 intro cx hcx
 refine kK [.no] True [(0, .e (eW bs n)), (1, .e (.c (.fn 50 [])))] [] 0 trivial ?_
 refine AW.seq ?_
 refine kX [.no, .no, .no] True [(0, .e (eW bs n)), (1, .e (.c (.fn 50 []))), (7, uV n), (8, iV 0)] trivial ?_
 refine AW.block ?_
 refine kW 0 hcx (fun (x : {x : Nat // match x with | k => (k ≤ n) ∧ (n6 bs k = -1)}) => match x with | ⟨k, _⟩ => (⟨[(0, .e (eW bs n)), (1, .e (.c (.fn 50 []))), (7, uV n), (8, uV k)], [], 0⟩ : ES)) (fun x => match x with | ⟨k, _⟩ => n - k) ⟨(0 : Nat), ⟨eL, rfl⟩⟩ [] (P := (k8 (qI bs)) ∧ (kM n) ∧ (kN (n : Int)) ∧ (kN 0)) zk ⟨rfl, rfl, rfl, rfl⟩ ?_
 rintro ⟨k, hinv0⟩
 obtain ⟨hk, hi⟩ : (k ≤ n) ∧ (n6 bs k = -1) := hinv0
 refine uI (l := [(0, .e (eW bs n)), (1, .e (.c (.fn 50 []))), (7, uV n), (8, uV k)]) (g := []) (nx := 0) rfl rfl rfl ?_
 by_cases hx1 : (((k : Nat) : Int) < ((n : Nat) : Int))
 ·refine kK [.b true] (((k : Int) < (n : Int))) [(0, .e (eW bs n)), (1, .e (.c (.fn 50 []))), (7, uV n), (8, uV k), (9, bV true)] [] 0 zo ?_
  refine AW.seq ?_
  refine vD ?_
  refine AW.seq ?_
  refine AW.block ?_
  refine kX [.no, .no] True [(0, .e (eW bs n)), (1, .e (.c (.fn 50 []))), (5, uV k), (7, uV n), (8, uV k)] trivial ?_
  rcases kb6 (nxB (cL bs k) (dF bs k) (vZ bs k) (vI bs k) (fW bs k) (cK bs k)) with hx7 | hx7
  ·obtain ⟨hx8, hx9, hx10, hx11, hx12⟩ := BsW.at (kP : BsW bs) (k)
   refine kK [.no, .no, .no, .n k, .ds (q1B bs k), .call [] (bV true) [] 0 [] none] ((kN (k : Int)) ∧ (k < n) ∧ (ka2 4 (ka7 (k * 4) (qI bs)) = (q1B bs k)) ∧ (((q1B bs k) : List D).length = 4) ∧ (Fun 50 [.agg [iC (cL bs k), .d (dl (dF bs k) (vZ bs k)), .d (D.sl (qA (vI bs k)) (ka1 (vI bs k))), .d (dl (fW bs k) (cK bs k))]] (kG []) 0 (bV true) (kG []) 0)) [(0, .e (eW bs n)), (1, .e (.c (.fn 50 []))), (5, uV k), (7, uV n), (8, uV k), (16, bV true)] [] 0 ⟨rfl, zo, (k3g gB), rfl, (by have h0 := (rD (cL bs k) (dF bs k) (vZ bs k) (vI bs k) (ka1 (vI bs k)) (fW bs k) (cK bs k) u4 u4 rfl u4 u4 u4 (tH (kP : BsW bs) _)); rw [hx7] at h0; exact h0)⟩ ?_
   refine zt ?_
   refine kX [.no, .no] True [(4, uV k)] trivial ?_
   refine AW.ret ?_
   exact kC (.inr rfl) [] (P := (((n6 bs n) : Int) = (k : Int))) zk (by first | rfl | exact k6d hi (by assumption) zo | (rw [show n = k by omega]; exact hi) | omega)
  ·obtain ⟨hx13, hx14, hx15, hx16, hx17⟩ := BsW.at (kP : BsW bs) (k)
   refine kK [.no, .no, .no, .n k, .ds (q1B bs k), .call [] (bV false) [] 0 [] none] ((kN (k : Int)) ∧ (k < n) ∧ (ka2 4 (ka7 (k * 4) (qI bs)) = (q1B bs k)) ∧ (((q1B bs k) : List D).length = 4) ∧ (Fun 50 [.agg [iC (cL bs k), .d (dl (dF bs k) (vZ bs k)), .d (D.sl (qA (vI bs k)) (ka1 (vI bs k))), .d (dl (fW bs k) (cK bs k))]] (kG []) 0 (bV false) (kG []) 0)) [(0, .e (eW bs n)), (1, .e (.c (.fn 50 []))), (5, uV k), (7, uV n), (8, uV k), (16, bV false)] [] 0 ⟨rfl, zo, (k3g gB), rfl, (by have h0 := (rD (cL bs k) (dF bs k) (vZ bs k) (vI bs k) (ka1 (vI bs k)) (fW bs k) (cK bs k) u4 u4 rfl u4 u4 u4 (tH (kP : BsW bs) _)); rw [hx7] at h0; exact h0)⟩ ?_
   refine yV ?_
   refine yH [.w, .no] (qL ((k : Int) + 1)) [(0, .e (eW bs n)), (1, .e (.c (.fn 50 []))), (7, uV n), (8, iV (↑k + 1))] ⟨by omega, by omega⟩ ?_
   exact qQ ⟨((k + 1) : Nat), ⟨eL, (u04 hi (by assumption))⟩⟩ [] (P := (k8 (qI bs)) ∧ (kM n) ∧ (kN (n : Int)) ∧ (((((k + 1) : Nat) : Int) : Int) = ((k : Int) + 1))) zk ⟨rfl, rfl, rfl, (by first | rfl | omega | assumption | (simp; done) | (simp; omega))⟩ (show n - (k + 1) < n - k from (by first | omega | (show _ < _; simp; omega)))
 ·refine kK [.b false] (¬ ((k : Int) < (n : Int))) [(0, .e (eW bs n)), (1, .e (.c (.fn 50 []))), (7, uV n), (8, uV k), (9, bV false)] [] 0 zo ?_
  refine AW.seq ?_
  refine zf ?_
  refine AW.exit ?_
  refine kK [.no] True [(4, iV (-1))] [] 0 trivial ?_
  refine AW.ret ?_
  exact kC (.inr rfl) [] (P := (((n6 bs n) : Int) = (-1))) zk (by first | rfl | exact k6d hi (by assumption) zo | (rw [show n = k by omega]; exact hi) | omega)
theorem k7h (bs : List Bx) (n : Nat) (hn : ka1 bs = n) (h1 : n ≤ 1000000) (hW : BsW bs) : Fun 49 [.c (.d (D.sl (qI bs) n)), .c (.fn 50 [])] (kG []) 0 (kS (D.lit (.bool (naB bs n)))) (kG []) 0 := by
 refine Fun.mk (n := 9) Try.func49 rfl rfl (ka5 rfl) ?_
 intro cx hcx
 refine kK [.no] True [(0, .e (eW bs n)), (1, .e (.c (.fn 50 [])))] [] 0 trivial ?_
 by_cases hx1 : ((0 : Int) ≤ (n6 bs n))
 ·refine kX [.no, .no, .call [] (iV (n6 bs n)) [] 0 [] none, .b true, .no] ((_) ∧ (((0 : Int) ≤ (n6 bs n)))) [(4, bV true)] ⟨(k7e bs n zo zo (kP : BsW bs)), zo⟩ ?_
  refine AW.ret ?_
  exact kC (.inr rfl) [] (P := ((naB bs n) = true)) zk (by first | exact decide_eq_true zo | exact decide_eq_false zo)
 ·refine kX [.no, .no, .call [] (iV (n6 bs n)) [] 0 [] none, .b false, .no] ((_) ∧ (¬ ((0 : Int) ≤ (n6 bs n)))) [(4, bV false)] ⟨(k7e bs n zo zo (kP : BsW bs)), zo⟩ ?_
  refine AW.ret ?_
  exact kC (.inr rfl) [] (P := ((naB bs n) = false)) zk (by first | exact decide_eq_true zo | exact decide_eq_false zo)
theorem f7 (bs : List Bx) (n : Nat) (hn : ka1 bs = n) (h1 : n ≤ 1000000) (hW : BsW bs) : Fun 30 [.c (.d (D.sl (qI bs) n))] (kG []) 0 (kS (D.lit (.bool (lR bs)))) (kG []) 0 := by
 refine Fun.mk (n := 11) Try.func30 rfl rfl (ka5 rfl) ?_
 intro cx hcx
 refine kK [.no] True [(0, .e (eW bs n))] [] 0 trivial ?_
 by_cases hx1 : (((n : Nat) : Int) ≤ 64)
 ·rcases kb6 (naB bs n) with hx2 | hx2
  ·refine kX [.no, .no, .b true, .no, .no, .call [] (bV true) [] 0 [] none, .no, .no, .no] ((((n : Int) ≤ 64)) ∧ (Fun 49 [.c (.d (D.sl (qI bs) n)), .c (.fn 50 [])] (kG []) 0 (bV true) (kG []) 0)) [(2, bV false)] ⟨zo, (by have h0 := (k7h bs n zo zo (kP : BsW bs)); rw [hx2] at h0; exact h0)⟩ ?_
   refine AW.ret ?_
   exact kC (.inr rfl) [] (P := ((lR bs) = false)) zk (by first | exact k7n zo | exact k8e hn (by assumption) | exact k8d hn zo (by assumption))
  ·refine kX [.no, .no, .b true, .no, .no, .call [] (bV false) [] 0 [] none, .no, .no, .no] ((((n : Int) ≤ 64)) ∧ (Fun 49 [.c (.d (D.sl (qI bs) n)), .c (.fn 50 [])] (kG []) 0 (bV false) (kG []) 0)) [(2, bV true)] ⟨zo, (by have h0 := (k7h bs n zo zo (kP : BsW bs)); rw [hx2] at h0; exact h0)⟩ ?_
   refine AW.ret ?_
   exact kC (.inr rfl) [] (P := ((lR bs) = true)) zk (by first | exact k7n zo | exact k8e hn (by assumption) | exact k8d hn zo (by assumption))
 ·refine kX [.no, .no, .b false, .no, .no, .no] (¬ ((n : Int) ≤ 64)) [(2, bV false)] zo ?_
  refine AW.ret ?_
  exact kC (.inr rfl) [] (P := ((lR bs) = false)) zk (by first | exact k7n zo | exact k8e hn (by assumption) | exact k8d hn zo (by assumption))
end Go.Proofs.Ytalbpleglapihaa
