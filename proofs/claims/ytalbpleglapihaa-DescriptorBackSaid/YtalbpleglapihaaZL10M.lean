/- Boxes of the code. No statement is proved here. -/
import Derived.Test.YtalbpleglapihaaZL10D
namespace Go.Proofs.Ytalbpleglapihaa
open Go.ChangeShapes Go.WideShapes Go.ChangeAt Go.RowKit
open Bool renaming eq_false_or_eq_true → kb5
open List renaming drop → ka7, getD → ka0, length → ka1, length_append → ka4, length_cons → kb1, length_drop → kb2, length_nil → kb6, length_take → kb3, take → ka2
open Nat renaming le_of_ble_eq_true → ka5, lt_succ_self → kj3, not_lt_zero → ke5
set_option linter.unusedVariables false
set_option linter.unusedSimpArgs false
/-! chapter 10: the code's lists of boxes -/
set_option maxHeartbeats 4000000
set_option maxRecDepth 100000
def tV (p : Nat → Bool) : Nat → Int
 | 0 => -1
 | k + 1 => if 0 ≤ tV p k then tV p k else if p k = true then (k : Int) else -1
theorem n4 {p : Nat → Bool} {k : Nat} (h : tV p k = -1) (h2 : p k = false) : tV p (k + 1) = -1 := by
 show (if 0 ≤ tV p k then _ else _) = _
 rw [if_neg (by omega), if_neg (by rw [h2]; decide)]
theorem n5 {p : Nat → Bool} {k : Nat} (h : tV p k = -1) (h2 : p k = true) : ∀ n, k < n → tV p n = (k : Int)
 | 0, h3 => absurd h3 (ke5 k)
 | n + 1, h3 => by
  show (if 0 ≤ tV p n then _ else _) = _
  by_cases e : k = n
  ·subst e; rw [if_neg (by omega), if_pos h2]
  ·have h4 := n5 h h2 n (by omega)
   rw [if_pos (by omega), h4]
theorem nZ (p : Nat → Bool) : ∀ n, (tV p n = -1 ∧ ∀ j, j < n → p j = false) ∨ ∃ k, k < n ∧ tV p n = (k : Int) ∧ p k = true
 | 0 => .inl ⟨rfl, fun j h => absurd h (ke5 j)⟩
 | n + 1 => by
  rcases nZ p n with ⟨h1, h2⟩ | ⟨k, hk, h1, h2⟩
  ·cases e : p n with
   | false => exact .inl ⟨n4 h1 e, fun j hj => (Nat.lt_succ_iff_lt_or_eq.1 hj).elim (h2 j) fun e9 => e9 ▸ e⟩
   | true => exact .inr ⟨n, kj3 n, n5 h1 e _ (kj3 n), e⟩
  ·refine .inr ⟨k, by omega, ?_, h2⟩
   show (if 0 ≤ tV p n then _ else _) = _
   rw [if_pos (by omega)]; exact h1
theorem k8a {p : Nat → Bool} {n : Nat} (h : 0 ≤ tV p n) : ∃ k, k < n ∧ p k = true := by
 rcases nZ p n with ⟨h1, _⟩ | ⟨k, hk, _, h2⟩
 ·omega
 ·exact ⟨k, hk, h2⟩
theorem k2p {p : Nat → Bool} {n : Nat} (h : ¬ 0 ≤ tV p n) : ∀ j, j < n → p j = false := by
 rcases nZ p n with ⟨_, h2⟩ | ⟨k, hk, h1, _⟩
 ·exact h2
 ·omega
def sU (ms : List (List Int)) (m : List Int) : Nat → Int := tV fun j => bX (ka0 ms j []) m
theorem k86 {ms : List (List Int)} {m : List Int} {c : Nat} (hc : ms.length = c) (h : 0 ≤ sU ms m c) : sW ms m = true := by
 obtain ⟨k, hk, h1⟩ := k8a h
 exact u5n (k := k) (by omega) h1
theorem k88 {ms : List (List Int)} {m : List Int} {c : Nat} (hc : ms.length = c) (h : ¬ 0 ≤ sU ms m c) : sW ms m = false :=
 u5o fun j hj => k2p h j (by omega)
def pD (bs : List Bx) : Nat → Int := tV fun j => !(vbE bs j)
theorem u1o {bs : List Bx} {n : Nat} (hn : bs.length = n) (h : 0 ≤ pD bs n) : mM bs = false := by
 obtain ⟨k, hk, h1⟩ := k8a h
 exact u54 (k := k) (by omega) (by simpa using h1)
theorem u1q {bs : List Bx} {n : Nat} (hn : bs.length = n) (h2 : n ≤ 64) (h : ¬ 0 ≤ pD bs n) : mM bs = true :=
 u1n (by omega) fun j hj => by
  have h3 := k2p h j (by omega)
  simpa using h3
theorem u3i {ms : List (List Int)} {m : List Int} {k : Nat} (h : sU ms m k = -1) (h2 : bX (ka0 ms k []) m = false) : sU ms m (k + 1) = -1 := n4 h h2
theorem k87 {ms : List (List Int)} {m : List Int} {k : Nat} (h : sU ms m k = -1) (h2 : bX (ka0 ms k []) m = true) {n : Nat} (hn : k < n) : sU ms m n = (k : Int) := n5 h h2 n hn
def nxB (k : Int) (r : List Int) (rn : Nat) (m : List (List Int)) (s : List Int) (sn : Nat) : Bool := !(fP k r rn m s sn)
theorem u2x {k : Int} {r : List Int} {rn : Nat} {m : List (List Int)} {s : List Int} {sn : Nat} (h : fP k r rn m s sn = false) : nxB k r rn m s sn = true := by unfold nxB; rw [h]; rfl
theorem u2y {k : Int} {r : List Int} {rn : Nat} {m : List (List Int)} {s : List Int} {sn : Nat} (h : fP k r rn m s sn = true) : nxB k r rn m s sn = false := by unfold nxB; rw [h]; rfl
theorem u1p {bs : List Bx} {k : Nat} (h : pD bs k = -1) (h2 : nxB (bB bs k) (bY bs k) (vJ bs k) (y3 bs k) (dP bs k) (bA bs k) = false) : pD bs (k + 1) = -1 := n4 h h2
theorem k7n {bs : List Bx} {k : Nat} (h : pD bs k = -1) (h2 : nxB (bB bs k) (bY bs k) (vJ bs k) (y3 bs k) (dP bs k) (bA bs k) = true) {n : Nat} (hn : k < n) : pD bs n = (k : Int) := n5 h h2 n hn
def naB (bs : List Bx) (n : Nat) : Bool := decide (0 ≤ pD bs n)
theorem k9u {bs : List Bx} {n : Nat} (hn : bs.length = n) (h : naB bs n = true) : mM bs = false := u1o hn (of_decide_eq_true h)
theorem k9t {bs : List Bx} {n : Nat} (hn : bs.length = n) (h2 : n ≤ 64) (h : naB bs n = false) : mM bs = true := u1q hn h2 (of_decide_eq_false h)
theorem k4z (w a : List Int) (o n : Nat) (ho : ka1 w = o) (hn : ka1 a = n) (h1 : o ≤ 1000000) (h2 : n ≤ 1000000) : Fun 81 [.c (.d (D.sl (dI .i64 a) n)), .c (.ptr 0 0)] (kG [(0, some (63, .ds [D.sl (dI .i64 w) o]))]) 1 (kT (D.lit (.bool (bX a w)))) (kG [(0, some (63, .ds [D.sl (dI .i64 w) o]))]) 1 := by
 refine Fun.mk (n := 7) Try.func81 rfl rfl (ka5 rfl) ?_
 intro cx hcx
 refine kK [.no] True [(0, sV .i64 a n), (1, rV 0 0)] [(0, some (63, .ds [dl w o]))] 1 trivial ?_
 refine kX [.no, .no, .call [] (kT (D.lit (.bool (bX a w)))) [] 0 [] none, .no] _ [(3, kT (D.lit (.bool (bX a w))))] (u10 a w n o zo zo zo zo) ?_
 refine AW.ret ?_
 exact kC (.inr rfl) [] (P := ((bX a w) = (bX a w)) ∧ (k8 [dl w o])) zk ⟨rfl, rfl⟩
theorem eZ {p : Prop} (h : p := by first | omega | assumption | simp) : p := h
theorem gT {p : Prop} (h : p := by first | omega | (simp only [kR, kO, ka4, kb1, kb6, kb3, kb2] <;> omega)) : p := h
theorem u3 {p : Prop} (h : p := by first | omega | with_reducible assumption | (simp only [kR, kO, ka4, kb1, kb6, kb3, kb2, List.length_replicate, List.length_set] <;> omega) | rfl | assumption) : p := h
theorem k8s (ms : List (List Int)) (c : Nat) (w : List Int) (o : Nat) (hc : ka1 ms = c) (ho : ka1 w = o) (h1 : c ≤ 1000000) (h2 : o ≤ 1000000) (hW : MsW ms) : Fun 84 [.c (.d (D.sl (k9 ms) c)), .c (.fn 81 [(0, 0)])] (kG [(0, some (63, .ds [D.sl (dI .i64 w) o]))]) 1 (iV (sU ms w c)) (kG [(0, some (63, .ds [D.sl (dI .i64 w) o]))]) 1 := by
 refine Fun.mk (n := 19) Try.func84 rfl rfl (ka5 rfl) ?_
 intro cx hcx
 refine kK [.no] True [(0, qX (k9 ms) c), (1, .e (.c (.fn 81 [(0, 0)])))] [(0, some (63, .ds [dl w o]))] 1 trivial ?_
 refine AW.seq ?_
 refine kX [.no, .no, .no] True [(0, qX (k9 ms) c), (1, .e (.c (.fn 81 [(0, 0)]))), (7, uV c), (8, iV 0)] trivial ?_
 refine AW.block ?_
 refine kW 1 hcx (fun (x : {x : Nat // match x with | k => (k ≤ c) ∧ (sU ms w k = -1)}) => match x with | ⟨k, _⟩ => (⟨[(0, qX (k9 ms) c), (1, .e (.c (.fn 81 [(0, 0)]))), (7, uV c), (8, uV k)], [(0, some (63, .ds [dl w o]))], 1⟩ : ES)) (fun x => match x with | ⟨k, _⟩ => c - k) ⟨(0 : Nat), ⟨eZ, rfl⟩⟩ [] (P := (k8 (k9 ms)) ∧ (kN c) ∧ (kM (c : Int)) ∧ (kM 0) ∧ (k8 [dl w o])) zk ⟨rfl, rfl, rfl, rfl, rfl⟩ ?_
 rintro ⟨k, hinv0⟩
 obtain ⟨hk, hi⟩ : (k ≤ c) ∧ (sU ms w k = -1) := hinv0
 refine uH (l := [(0, qX (k9 ms) c), (1, .e (.c (.fn 81 [(0, 0)]))), (7, uV c), (8, uV k)]) (g := [(0, some (63, .ds [dl w o]))]) (nx := 1) rfl rfl rfl ?_
 by_cases hx1 : (((k : Nat) : Int) < ((c : Nat) : Int))
 ·refine kK [.b true] (((k : Int) < (c : Int))) [(0, qX (k9 ms) c), (1, .e (.c (.fn 81 [(0, 0)]))), (7, uV c), (8, uV k), (9, bV true)] [(0, some (63, .ds [dl w o]))] 1 zo ?_
  refine AW.seq ?_
  refine vD ?_
  refine AW.seq ?_
  refine AW.block ?_
  refine kX [.no, .no] True [(0, qX (k9 ms) c), (1, .e (.c (.fn 81 [(0, 0)]))), (5, uV k), (7, uV c), (8, uV k)] trivial ?_
  rcases kb5 (bX (ka0 ms k ([] : List Int)) w) with hx3 | hx3
  ·have hx4 : ((ka1 (ka0 ms k ([] : List Int))) ≤ 1000000) := MsW.at (kP : MsW ms) _
   refine kX [.no, .no, .no, .n k, .d (dl (ka0 ms k ([] : List Int)) (ka1 (ka0 ms k ([] : List Int)))), .call [0] (bV true) [(0, some (63, .ds [dl w o]))] 1 [] none] ((kM (k : Int)) ∧ (k < c) ∧ ((ka7 k (k9 ms))[0]? = some (dl (ka0 ms k ([] : List Int)) (ka1 (ka0 ms k ([] : List Int))))) ∧ (Fun 81 [.c (.d (dl (ka0 ms k ([] : List Int)) (ka1 (ka0 ms k ([] : List Int))))), .c (.ptr 0 0)] (kG [(0, some (63, .ds [dl w o]))]) 1 (bV true) (kG [(0, some (63, .ds [dl w o]))]) 1)) [(0, qX (k9 ms) c), (1, .e (.c (.fn 81 [(0, 0)]))), (5, uV k), (7, uV c), (8, uV k), (16, bV true)] ⟨rfl, zo, (aN _ _ gT), (by have h0 := (k4z w (ka0 ms k ([] : List Int)) o (ka1 (ka0 ms k ([] : List Int))) zo rfl zo u3); rw [hx3] at h0; exact h0)⟩ ?_
   refine zt ?_
   refine kX [.no, .no] True [(4, uV k)] trivial ?_
   refine AW.ret ?_
   exact kC (.inr rfl) [] (P := (((sU ms w c) : Int) = (k : Int)) ∧ (k8 [dl w o])) zk ⟨(by first | rfl | exact k87 hi (by assumption) zo | (rw [show c = k by omega]; exact hi) | omega), rfl⟩
  ·have hx5 : ((ka1 (ka0 ms k ([] : List Int))) ≤ 1000000) := MsW.at (kP : MsW ms) _
   refine kX [.no, .no, .no, .n k, .d (dl (ka0 ms k ([] : List Int)) (ka1 (ka0 ms k ([] : List Int)))), .call [0] (bV false) [(0, some (63, .ds [dl w o]))] 1 [] none] ((kM (k : Int)) ∧ (k < c) ∧ ((ka7 k (k9 ms))[0]? = some (dl (ka0 ms k ([] : List Int)) (ka1 (ka0 ms k ([] : List Int))))) ∧ (Fun 81 [.c (.d (dl (ka0 ms k ([] : List Int)) (ka1 (ka0 ms k ([] : List Int))))), .c (.ptr 0 0)] (kG [(0, some (63, .ds [dl w o]))]) 1 (bV false) (kG [(0, some (63, .ds [dl w o]))]) 1)) [(0, qX (k9 ms) c), (1, .e (.c (.fn 81 [(0, 0)]))), (5, uV k), (7, uV c), (8, uV k), (16, bV false)] ⟨rfl, zo, (aN _ _ gT), (by have h0 := (k4z w (ka0 ms k ([] : List Int)) o (ka1 (ka0 ms k ([] : List Int))) zo rfl zo u3); rw [hx3] at h0; exact h0)⟩ ?_
   refine yM ?_
   refine yD [.w, .no] (qL ((k : Int) + 1)) [(0, qX (k9 ms) c), (1, .e (.c (.fn 81 [(0, 0)]))), (7, uV c), (8, iV (↑k + 1))] ⟨by omega, by omega⟩ ?_
   exact qS ⟨((k + 1) : Nat), ⟨eZ, (u3i hi (by assumption))⟩⟩ [] (P := (k8 (k9 ms)) ∧ (kN c) ∧ (kM (c : Int)) ∧ (((((k + 1) : Nat) : Int) : Int) = ((k : Int) + 1)) ∧ (k8 [dl w o])) zk ⟨rfl, rfl, rfl, (by first | rfl | omega | assumption | (simp; done) | (simp; omega)), rfl⟩ (show c - (k + 1) < c - k from (by first | omega | (show _ < _; simp; omega)))
 ·refine kK [.b false] (¬ ((k : Int) < (c : Int))) [(0, qX (k9 ms) c), (1, .e (.c (.fn 81 [(0, 0)]))), (7, uV c), (8, uV k), (9, bV false)] [(0, some (63, .ds [dl w o]))] 1 zo ?_
  refine AW.seq ?_
  refine zf ?_
  refine AW.exit ?_
  refine kK [.no] True [(4, iV (-1))] [(0, some (63, .ds [dl w o]))] 1 trivial ?_
  refine AW.ret ?_
  exact kC (.inr rfl) [] (P := (((sU ms w c) : Int) = (-1)) ∧ (k8 [dl w o])) zk ⟨(by first | rfl | exact k87 hi (by assumption) zo | (rw [show c = k by omega]; exact hi) | omega), rfl⟩
theorem u47 (ms : List (List Int)) (c : Nat) (w : List Int) (o : Nat) (hc : ka1 ms = c) (ho : ka1 w = o) (h1 : c ≤ 1000000) (h2 : o ≤ 1000000) (hW : MsW ms) : Fun 80 [.c (.d (D.sl (k9 ms) c)), .c (.fn 81 [(0, 0)])] (kG [(0, some (63, .ds [D.sl (dI .i64 w) o]))]) 1 (kT (D.lit (.bool (sW ms w)))) (kG [(0, some (63, .ds [D.sl (dI .i64 w) o]))]) 1 := by
 refine Fun.mk (n := 9) Try.func80 rfl rfl (ka5 rfl) ?_
 intro cx hcx
 refine kK [.no] True [(0, qX (k9 ms) c), (1, .e (.c (.fn 81 [(0, 0)])))] [(0, some (63, .ds [dl w o]))] 1 trivial ?_
 by_cases hx1 : ((0 : Int) ≤ (sU ms w c))
 ·refine kX [.no, .no, .call [0] (iV (sU ms w c)) [(0, some (63, .ds [dl w o]))] 1 [] none, .b true, .no] ((_) ∧ (((0 : Int) ≤ (sU ms w c)))) [(4, bV true)] ⟨(k8s ms c w o zo zo zo zo (kP : MsW ms)), zo⟩ ?_
  refine AW.ret ?_
  exact kC (.inr rfl) [] (P := ((sW ms w) = true) ∧ (k8 [dl w o])) zk ⟨(by first | exact k86 hc zo | exact k88 hc zo), rfl⟩
 ·refine kX [.no, .no, .call [0] (iV (sU ms w c)) [(0, some (63, .ds [dl w o]))] 1 [] none, .b false, .no] ((_) ∧ (¬ ((0 : Int) ≤ (sU ms w c)))) [(4, bV false)] ⟨(k8s ms c w o zo zo zo zo (kP : MsW ms)), zo⟩ ?_
  refine AW.ret ?_
  exact kC (.inr rfl) [] (P := ((sW ms w) = false) ∧ (k8 [dl w o])) zk ⟨(by first | exact k86 hc zo | exact k88 hc zo), rfl⟩
theorem k8t (ms : List (List Int)) (c : Nat) (w : List Int) (o : Nat) (hc : ka1 ms = c) (ho : ka1 w = o) (h1 : c ≤ 1000000) (h2 : o ≤ 1000000) (hW : MsW ms) : Fun 75 [.c (.d (D.sl (k9 ms) c)), .c (.d (D.sl (dI .i64 w) o))] (kG []) 0 (kT (D.lit (.bool (sW ms w)))) (kG []) 0 := by
 refine Fun.mk (n := 8) Try.func75 rfl rfl (ka5 rfl) ?_
 intro cx hcx
 refine kK [.no, .no] True [(0, qX (k9 ms) c), (3, rV 0 0)] [(0, some (63, .ds [dl w o]))] 1 trivial ?_
 refine kK [.no, .no, .call [0] (kT (D.lit (.bool (sW ms w)))) [(0, some (63, .ds [dl w o]))] 1 [] none, .no] _ [(4, kT (D.lit (.bool (sW ms w))))] [] 1 (u47 ms c w o zo zo zo zo (kP : MsW ms)) ?_
 refine AW.ret ?_
 exact kC (.inr rfl) [] (P := ((sW ms w) = (sW ms w))) zk rfl
theorem gS {p : Prop} (h : p := by first | exact u1l (by assumption) | exact u1k (by assumption)) : p := h
theorem oP (m : List (List Int)) (c : Nat) (hc : ka1 m = c) (h1 : c ≤ 1000000) (hW : MsW m) : Fun 66 [.c (.d (D.sl (k9 m) c))] (kG []) 0 (kT (D.lit (.bool (oU m)))) (kG []) 0 := by
 refine Fun.mk (n := 31) Try.func66 rfl rfl (ka5 rfl) ?_
 intro cx hcx
 refine kK [.no] True [(0, qX (k9 m) c)] [] 0 trivial ?_
 refine AW.seq ?_
 by_cases hx1 : (((c : Nat) : Int) < 1)
 ·refine kX [.no, .no, .b true, .no, .no] (((c : Int) < 1)) [(0, qX (k9 m) c), (12, bV true)] zo ?_
  refine zt ?_
  refine kX [.no] True [(2, bV false)] trivial ?_
  refine AW.ret ?_
  exact kC (.inr rfl) [] (P := ((oU m) = false)) zk (by first | exact zB zo zo (fun j hj => ha j zo) | exact k0k zo | exact k0l (k := i) zo gS)
 ·by_cases hx2 : ((16 : Int) < ((c : Nat) : Int))
  ·refine kX [.no, .no, .b false, .no, .no, .no, .b true, .no] ((¬ ((c : Int) < 1)) ∧ (((16 : Int) < (c : Int)))) [(0, qX (k9 m) c), (12, bV true)] ⟨zo, zo⟩ ?_
   refine zt ?_
   refine kX [.no] True [(2, bV false)] trivial ?_
   refine AW.ret ?_
   exact kC (.inr rfl) [] (P := ((oU m) = false)) zk (by first | exact zB zo zo (fun j hj => ha j zo) | exact k0k zo | exact k0l (k := i) zo gS)
  ·refine kX [.no, .no, .b false, .no, .no, .no, .b false, .no] ((¬ ((c : Int) < 1)) ∧ (¬ ((16 : Int) < (c : Int)))) [(0, qX (k9 m) c), (12, bV false)] ⟨zo, zo⟩ ?_
   refine yM ?_
   refine AW.seq ?_
   refine kX [.no, .no, .no] True [(0, qX (k9 m) c), (13, qX (k9 m) c), (14, uV c), (15, iV 0)] trivial ?_
   refine AW.block ?_
   refine kW 0 hcx (fun (x : {x : Nat // match x with | i => (i ≤ c) ∧ (∀ j, j < i → vmE m j = true)}) => match x with | ⟨i, _⟩ => (⟨[(0, qX (k9 m) c), (13, qX (k9 m) c), (14, uV c), (15, uV i)], [], 0⟩ : ES)) (fun x => match x with | ⟨i, _⟩ => c - i) ⟨(0 : Nat), ⟨eZ, (fun j hj => absurd hj (ke5 j))⟩⟩ [] (P := (k8 (k9 m)) ∧ (kN c) ∧ (k8 (k9 m)) ∧ (kN c) ∧ (kM (c : Int)) ∧ (kM 0)) zk ⟨rfl, rfl, rfl, rfl, rfl, rfl⟩ ?_
   rintro ⟨i, hinv0⟩
   obtain ⟨hi, ha⟩ : (i ≤ c) ∧ (∀ j, j < i → vmE m j = true) := hinv0
   refine uH (l := [(0, qX (k9 m) c), (13, qX (k9 m) c), (14, uV c), (15, uV i)]) (g := []) (nx := 0) rfl rfl rfl ?_
   by_cases hx3 : (((i : Nat) : Int) < ((c : Nat) : Int))
   ·refine kK [.b true] (((i : Int) < (c : Int))) [(0, qX (k9 m) c), (13, qX (k9 m) c), (14, uV c), (15, uV i), (16, bV true)] [] 0 zo ?_
    refine AW.seq ?_
    refine vD ?_
    refine AW.seq ?_
    refine AW.block ?_
    have hx4 : ((ka1 (ka0 m i ([] : List Int))) ≤ 1000000) := MsW.at (kP : MsW m) _
    refine kX [.no, .n i, .d (dl (ka0 m i ([] : List Int)) (ka1 (ka0 m i ([] : List Int)))), .no, .no] ((kM (i : Int)) ∧ (i < c) ∧ ((ka7 i (k9 m))[0]? = some (dl (ka0 m i ([] : List Int)) (ka1 (ka0 m i ([] : List Int)))))) [(0, qX (k9 m) c), (3, uV i), (4, sV .i64 (ka0 m i ([] : List Int)) (ka1 (ka0 m i ([] : List Int)))), (13, qX (k9 m) c), (14, uV c), (15, uV i)] ⟨rfl, zo, (aN _ _ gT)⟩ ?_
    rcases kb5 (jT (ka0 m i ([] : List Int)) (ka1 (ka0 m i ([] : List Int)))) with hx5 | hx5
    ·rcases kb5 (sW (ka2 i m) (ka0 m i ([] : List Int))) with hx6 | hx6
     ·refine kX (.no :: .call [] (bV true) [] 0 [] none :: kS 4 [.sls 0 i i (k9 (ka2 i m)), .no, .call [] (bV true) [] 0 [] none, .no]) ((Fun 74 [.c (.d (dl (ka0 m i ([] : List Int)) (ka1 (ka0 m i ([] : List Int)))))] (kG []) 0 (bV true) (kG []) 0) ∧ (kN 0) ∧ (kM (i : Int)) ∧ ((0 : Nat) ≤ i) ∧ (i ≤ c) ∧ (i - 0 = i) ∧ (ka2 (i * 1) (ka7 (0 * 1) (k9 m)) = (k9 (ka2 i m))) ∧ (Fun 75 [.c (.d (D.sl (k9 (ka2 i m)) i)), .c (.d (dl (ka0 m i ([] : List Int)) (ka1 (ka0 m i ([] : List Int)))))] (kG []) 0 (bV true) (kG []) 0)) [(0, qX (k9 m) c), (13, qX (k9 m) c), (14, uV c), (15, uV i), (29, bV true)] ⟨(by have h0 := (oN (ka0 m i ([] : List Int)) (ka1 (ka0 m i ([] : List Int))) rfl u3); rw [hx5] at h0; exact h0), rfl, rfl, zo, zo, zo, (rA _ _), (by have h0 := (k8t (ka2 i m) i (ka0 m i ([] : List Int)) (ka1 (ka0 m i ([] : List Int))) u3 rfl zo u3 (MsW.take (kP : MsW m) _)); rw [hx6] at h0; exact h0)⟩ ?_
      refine zt ?_
      refine kX [.no] True [(2, bV false)] trivial ?_
      refine AW.ret ?_
      exact kC (.inr rfl) [] (P := ((oU m) = false)) zk (by first | exact zB zo zo (fun j hj => ha j zo) | exact k0k zo | exact k0l (k := i) zo gS)
     ·refine kX (.no :: .call [] (bV true) [] 0 [] none :: kS 4 [.sls 0 i i (k9 (ka2 i m)), .no, .call [] (bV false) [] 0 [] none, .no]) ((Fun 74 [.c (.d (dl (ka0 m i ([] : List Int)) (ka1 (ka0 m i ([] : List Int)))))] (kG []) 0 (bV true) (kG []) 0) ∧ (kN 0) ∧ (kM (i : Int)) ∧ ((0 : Nat) ≤ i) ∧ (i ≤ c) ∧ (i - 0 = i) ∧ (ka2 (i * 1) (ka7 (0 * 1) (k9 m)) = (k9 (ka2 i m))) ∧ (Fun 75 [.c (.d (D.sl (k9 (ka2 i m)) i)), .c (.d (dl (ka0 m i ([] : List Int)) (ka1 (ka0 m i ([] : List Int)))))] (kG []) 0 (bV false) (kG []) 0)) [(0, qX (k9 m) c), (13, qX (k9 m) c), (14, uV c), (15, uV i), (29, bV false)] ⟨(by have h0 := (oN (ka0 m i ([] : List Int)) (ka1 (ka0 m i ([] : List Int))) rfl u3); rw [hx5] at h0; exact h0), rfl, rfl, zo, zo, zo, (rA _ _), (by have h0 := (k8t (ka2 i m) i (ka0 m i ([] : List Int)) (ka1 (ka0 m i ([] : List Int))) u3 rfl zo u3 (MsW.take (kP : MsW m) _)); rw [hx6] at h0; exact h0)⟩ ?_
      refine yM ?_
      refine yD [.w, .no] (qL ((i : Int) + 1)) [(0, qX (k9 m) c), (13, qX (k9 m) c), (14, uV c), (15, iV (↑i + 1))] ⟨by omega, by omega⟩ ?_
      exact qS ⟨((i + 1) : Nat), ⟨eZ, (fun j hj => (Nat.lt_succ_iff_lt_or_eq.1 hj).elim (ha j) (fun e9 => by subst e9; exact k7m (by assumption) (by assumption)))⟩⟩ [] (P := (k8 (k9 m)) ∧ (kN c) ∧ (k8 (k9 m)) ∧ (kN c) ∧ (kM (c : Int)) ∧ (((((i + 1) : Nat) : Int) : Int) = ((i : Int) + 1))) zk ⟨rfl, rfl, rfl, rfl, rfl, (by first | rfl | omega | assumption | (simp; done) | (simp; omega))⟩ (show c - (i + 1) < c - i from (by first | omega | (show _ < _; simp; omega)))
    ·refine kX [.no, .call [] (bV false) [] 0 [] none, .no, .no, .no] (Fun 74 [.c (.d (dl (ka0 m i ([] : List Int)) (ka1 (ka0 m i ([] : List Int)))))] (kG []) 0 (bV false) (kG []) 0) [(0, qX (k9 m) c), (13, qX (k9 m) c), (14, uV c), (15, uV i), (29, bV true)] (by have h0 := (oN (ka0 m i ([] : List Int)) (ka1 (ka0 m i ([] : List Int))) rfl u3); rw [hx5] at h0; exact h0) ?_
     refine zt ?_
     refine kX [.no] True [(2, bV false)] trivial ?_
     refine AW.ret ?_
     exact kC (.inr rfl) [] (P := ((oU m) = false)) zk (by first | exact zB zo zo (fun j hj => ha j zo) | exact k0k zo | exact k0l (k := i) zo gS)
   ·refine kK [.b false] (¬ ((i : Int) < (c : Int))) [(0, qX (k9 m) c), (13, qX (k9 m) c), (14, uV c), (15, uV i), (16, bV false)] [] 0 zo ?_
    refine AW.seq ?_
    refine zf ?_
    refine AW.exit ?_
    refine kK [.no] True [(2, bV true)] [] 0 trivial ?_
    refine AW.ret ?_
    exact kC (.inr rfl) [] (P := ((oU m) = true)) zk (by first | exact zB zo zo (fun j hj => ha j zo) | exact k0k zo | exact k0l (k := i) zo gS)
theorem e8 {p : Prop} (h : p := by first | exact u3v (by omega) (by assumption) (by assumption) (by assumption) | exact u62 (by omega) | exact u61 (by assumption) | exact u60 (by assumption) | exact u5z (by assumption)) : p := h
theorem k4y (k : Int) (r : List Int) (rn : Nat) (m : List (List Int)) (c : Nat) (s : List Int) (sn : Nat) (hr : ka1 r = rn * 2) (hs : ka1 s = sn * 2) (hc : ka1 m = c) (h1 : rn ≤ 1000000) (h2 : sn ≤ 1000000) (h3 : c ≤ 1000000) (hW : MsW m) : Fun 51 [.agg [iC k, .d (D.sl (dI .i64 r) rn), .d (D.sl (k9 m) c), .d (D.sl (dI .i64 s) sn)]] (kG []) 0 (kT (D.lit (.bool (fP k r rn m s sn)))) (kG []) 0 := by
 refine Fun.mk (n := 27) Try.func51 rfl rfl (ka5 rfl) ?_
 intro cx hcx
 refine kK [.no, .no] True [(1, rV 0 0)] [(0, some (78, .ds [iD k, dl r rn, D.sl (k9 m) c, dl s sn]))] 1 trivial ?_
 by_cases hx1 : (k ≠ 0)
 ·by_cases hx2 : ((jU k) = 0)
  ·rcases kb5 (fT r rn 1000 768000) with hx3 | hx3
   ·rcases kb5 (oU m) with hx4 | hx4
    ·rcases kb5 (fT s sn 1 65536) with hx5 | hx5
     ·refine kK (.no :: .no :: .b true :: .no :: .no :: .no :: .i (jU k) :: .b true :: kS 4 (.call [] (bV true) [] 0 [] none :: kS 4 (.call [] (bV true) [] 0 [] none :: kS 4 [.call [] (bV true) [] 0 [] none, .no, .no]))) (((k ≠ 0)) ∧ (qM .andNot .i64 k 254 = (jU k)) ∧ (((jU k) = 0)) ∧ (Fun 65 [.agg [.d (dl r rn)], iE 1000, iE 768000] (kG []) 0 (bV true) (kG []) 0) ∧ (Fun 66 [.c (.d (D.sl (k9 m) c))] (kG []) 0 (bV true) (kG []) 0) ∧ (Fun 65 [.agg [.d (dl s sn)], iE 1, iE 65536] (kG []) 0 (bV true) (kG []) 0)) [(2, bV true)] [] 1 ⟨zo, rfl, zo, (by have h0 := (fQ r rn 1000 768000 zo zo); rw [hx3] at h0; exact h0), (by have h0 := (oP m c zo zo (kP : MsW m)); rw [hx4] at h0; exact h0), (by have h0 := (fQ s sn 1 65536 zo zo); rw [hx5] at h0; exact h0)⟩ ?_
      refine AW.ret ?_
      exact kC (.inr rfl) [] (P := ((fP k r rn m s sn) = true)) zk e8
     ·refine kK (.no :: .no :: .b true :: .no :: .no :: .no :: .i (jU k) :: .b true :: kS 4 (.call [] (bV true) [] 0 [] none :: kS 4 (.call [] (bV true) [] 0 [] none :: kS 4 [.call [] (bV false) [] 0 [] none, .no, .no]))) (((k ≠ 0)) ∧ (qM .andNot .i64 k 254 = (jU k)) ∧ (((jU k) = 0)) ∧ (Fun 65 [.agg [.d (dl r rn)], iE 1000, iE 768000] (kG []) 0 (bV true) (kG []) 0) ∧ (Fun 66 [.c (.d (D.sl (k9 m) c))] (kG []) 0 (bV true) (kG []) 0) ∧ (Fun 65 [.agg [.d (dl s sn)], iE 1, iE 65536] (kG []) 0 (bV false) (kG []) 0)) [(2, bV false)] [] 1 ⟨zo, rfl, zo, (by have h0 := (fQ r rn 1000 768000 zo zo); rw [hx3] at h0; exact h0), (by have h0 := (oP m c zo zo (kP : MsW m)); rw [hx4] at h0; exact h0), (by have h0 := (fQ s sn 1 65536 zo zo); rw [hx5] at h0; exact h0)⟩ ?_
      refine AW.ret ?_
      exact kC (.inr rfl) [] (P := ((fP k r rn m s sn) = false)) zk e8
    ·refine kK (.no :: .no :: .b true :: .no :: .no :: .no :: .i (jU k) :: .b true :: kS 4 (.call [] (bV true) [] 0 [] none :: kS 4 (.call [] (bV false) [] 0 [] none :: kS 4 []))) (((k ≠ 0)) ∧ (qM .andNot .i64 k 254 = (jU k)) ∧ (((jU k) = 0)) ∧ (Fun 65 [.agg [.d (dl r rn)], iE 1000, iE 768000] (kG []) 0 (bV true) (kG []) 0) ∧ (Fun 66 [.c (.d (D.sl (k9 m) c))] (kG []) 0 (bV false) (kG []) 0)) [(2, bV false)] [] 1 ⟨zo, rfl, zo, (by have h0 := (fQ r rn 1000 768000 zo zo); rw [hx3] at h0; exact h0), (by have h0 := (oP m c zo zo (kP : MsW m)); rw [hx4] at h0; exact h0)⟩ ?_
     refine AW.ret ?_
     exact kC (.inr rfl) [] (P := ((fP k r rn m s sn) = false)) zk e8
   ·refine kK (.no :: .no :: .b true :: .no :: .no :: .no :: .i (jU k) :: .b true :: kS 4 (.call [] (bV false) [] 0 [] none :: kS 6 [])) (((k ≠ 0)) ∧ (qM .andNot .i64 k 254 = (jU k)) ∧ (((jU k) = 0)) ∧ (Fun 65 [.agg [.d (dl r rn)], iE 1000, iE 768000] (kG []) 0 (bV false) (kG []) 0)) [(2, bV false)] [] 1 ⟨zo, rfl, zo, (by have h0 := (fQ r rn 1000 768000 zo zo); rw [hx3] at h0; exact h0)⟩ ?_
    refine AW.ret ?_
    exact kC (.inr rfl) [] (P := ((fP k r rn m s sn) = false)) zk e8
  ·refine kK (.no :: .no :: .b true :: .no :: .no :: .no :: .i (jU k) :: .b false :: kS 8 []) (((k ≠ 0)) ∧ (qM .andNot .i64 k 254 = (jU k)) ∧ (¬ ((jU k) = 0))) [(2, bV false)] [] 1 ⟨zo, rfl, zo⟩ ?_
   refine AW.ret ?_
   exact kC (.inr rfl) [] (P := ((fP k r rn m s sn) = false)) zk e8
 ·refine kK (.no :: .no :: .b false :: kS 9 []) (¬ (k ≠ 0)) [(2, bV false)] [] 1 zo ?_
  refine AW.ret ?_
  exact kC (.inr rfl) [] (P := ((fP k r rn m s sn) = false)) zk e8
theorem sQ (k : Int) (r : List Int) (rn : Nat) (m : List (List Int)) (c : Nat) (s : List Int) (sn : Nat) (hr : ka1 r = rn * 2) (hs : ka1 s = sn * 2) (hc : ka1 m = c) (h1 : rn ≤ 1000000) (h2 : sn ≤ 1000000) (h3 : c ≤ 1000000) (hW : MsW m) : Fun 50 [.agg [iC k, .d (D.sl (dI .i64 r) rn), .d (D.sl (k9 m) c), .d (D.sl (dI .i64 s) sn)]] (kG []) 0 (kT (D.lit (.bool (nxB k r rn m s sn)))) (kG []) 0 := by
 refine Fun.mk (n := 6) Try.func50 rfl rfl (ka5 rfl) ?_
 intro cx hcx
 refine kK [.no, .no] True [(1, rV 0 0)] [(0, some (78, .ds [iD k, dl r rn, D.sl (k9 m) c, dl s sn]))] 1 trivial ?_
 rcases kb5 (fP k r rn m s sn) with hx1 | hx1
 ·refine kK [.no, .call [] (bV true) [] 0 [] none, .no, .no] (Fun 51 [.agg [iC k, .d (dl r rn), .d (D.sl (k9 m) c), .d (dl s sn)]] (kG []) 0 (bV true) (kG []) 0) [(2, bV false)] [] 1 (by have h0 := (k4y k r rn m c s sn zo zo zo zo zo zo (kP : MsW m)); rw [hx1] at h0; exact h0) ?_
  refine AW.ret ?_
  exact kC (.inr rfl) [] (P := ((nxB k r rn m s sn) = false)) zk (by first | exact u2x (by assumption) | exact u2y (by assumption))
 ·refine kK [.no, .call [] (bV false) [] 0 [] none, .no, .no] (Fun 51 [.agg [iC k, .d (dl r rn), .d (D.sl (k9 m) c), .d (dl s sn)]] (kG []) 0 (bV false) (kG []) 0) [(2, bV true)] [] 1 (by have h0 := (k4y k r rn m c s sn zo zo zo zo zo zo (kP : MsW m)); rw [hx1] at h0; exact h0) ?_
  refine AW.ret ?_
  exact kC (.inr rfl) [] (P := ((nxB k r rn m s sn) = true)) zk (by first | exact u2x (by assumption) | exact u2y (by assumption))
@[reducible] def jY (x : List Bx) (i : Nat) : List D := [iD (bB x i), dl (bY x i) (vJ x i), D.sl (k9 (y3 x i)) (ka1 (y3 x i)), dl (dP x i) (bA x i)]
@[reducible] def q1A (x : List Bx) (i : Nat) : E1 := .agg [iC (bB x i), .d (dl (bY x i) (vJ x i)), .d (D.sl (k9 (y3 x i)) (ka1 (y3 x i))), .d (dl (dP x i) (bA x i))]
@[reducible] def vN (x : List Bx) (n : Nat) : E1 := (.c (.d (D.sl (qC x) n)))
theorem k8r (bs : List Bx) (n : Nat) (hn : ka1 bs = n) (h1 : n ≤ 1000000) (hW : BsW bs) : Fun 64 [.c (.d (D.sl (qC bs) n)), .c (.fn 50 [])] (kG []) 0 (iV (pD bs n)) (kG []) 0 := by
 refine Fun.mk (n := 19) Try.func64 rfl rfl (ka5 rfl) ?_
 intro cx hcx
 refine kK [.no] True [(0, .e (vN bs n)), (1, .e (.c (.fn 50 [])))] [] 0 trivial ?_
 refine AW.seq ?_
 refine kX [.no, .no, .no] True [(0, .e (vN bs n)), (1, .e (.c (.fn 50 []))), (7, uV n), (8, iV 0)] trivial ?_
 refine AW.block ?_
 refine kW 0 hcx (fun (x : {x : Nat // match x with | k => (k ≤ n) ∧ (pD bs k = -1)}) => match x with | ⟨k, _⟩ => (⟨[(0, .e (vN bs n)), (1, .e (.c (.fn 50 []))), (7, uV n), (8, uV k)], [], 0⟩ : ES)) (fun x => match x with | ⟨k, _⟩ => n - k) ⟨(0 : Nat), ⟨eZ, rfl⟩⟩ [] (P := (k8 (qC bs)) ∧ (kN n) ∧ (kM (n : Int)) ∧ (kM 0)) zk ⟨rfl, rfl, rfl, rfl⟩ ?_
 rintro ⟨k, hinv0⟩
 obtain ⟨hk, hi⟩ : (k ≤ n) ∧ (pD bs k = -1) := hinv0
 refine uH (l := [(0, .e (vN bs n)), (1, .e (.c (.fn 50 []))), (7, uV n), (8, uV k)]) (g := []) (nx := 0) rfl rfl rfl ?_
 by_cases hx1 : (((k : Nat) : Int) < ((n : Nat) : Int))
 ·refine kK [.b true] (((k : Int) < (n : Int))) [(0, .e (vN bs n)), (1, .e (.c (.fn 50 []))), (7, uV n), (8, uV k), (9, bV true)] [] 0 zo ?_
  refine AW.seq ?_
  refine vD ?_
  refine AW.seq ?_
  refine AW.block ?_
  refine kX [.no, .no] True [(0, .e (vN bs n)), (1, .e (.c (.fn 50 []))), (5, uV k), (7, uV n), (8, uV k)] trivial ?_
  rcases kb5 (nxB (bB bs k) (bY bs k) (vJ bs k) (y3 bs k) (dP bs k) (bA bs k)) with hx7 | hx7
  ·obtain ⟨hx8, hx9, hx10, hx11, hx12⟩ := BsW.at (kP : BsW bs) (k)
   refine kK [.no, .no, .no, .n k, .ds (jY bs k), .call [] (bV true) [] 0 [] none] ((kM (k : Int)) ∧ (k < n) ∧ (ka2 4 (ka7 (k * 4) (qC bs)) = (jY bs k)) ∧ (((jY bs k) : List D).length = 4) ∧ (Fun 50 [(q1A bs k)] (kG []) 0 (bV true) (kG []) 0)) [(0, .e (vN bs n)), (1, .e (.c (.fn 50 []))), (5, uV k), (7, uV n), (8, uV k), (16, bV true)] [] 0 ⟨rfl, zo, (jI gT), rfl, (by have h0 := (sQ (bB bs k) (bY bs k) (vJ bs k) (y3 bs k) (ka1 (y3 bs k)) (dP bs k) (bA bs k) u3 u3 rfl u3 u3 u3 (dY (kP : BsW bs) _)); rw [hx7] at h0; exact h0)⟩ ?_
   refine zt ?_
   refine kX [.no, .no] True [(4, uV k)] trivial ?_
   refine AW.ret ?_
   exact kC (.inr rfl) [] (P := (((pD bs n) : Int) = (k : Int))) zk (by first | rfl | exact k7n hi (by assumption) zo | (rw [show n = k by omega]; exact hi) | omega)
  ·obtain ⟨hx13, hx14, hx15, hx16, hx17⟩ := BsW.at (kP : BsW bs) (k)
   refine kK [.no, .no, .no, .n k, .ds (jY bs k), .call [] (bV false) [] 0 [] none] ((kM (k : Int)) ∧ (k < n) ∧ (ka2 4 (ka7 (k * 4) (qC bs)) = (jY bs k)) ∧ (((jY bs k) : List D).length = 4) ∧ (Fun 50 [(q1A bs k)] (kG []) 0 (bV false) (kG []) 0)) [(0, .e (vN bs n)), (1, .e (.c (.fn 50 []))), (5, uV k), (7, uV n), (8, uV k), (16, bV false)] [] 0 ⟨rfl, zo, (jI gT), rfl, (by have h0 := (sQ (bB bs k) (bY bs k) (vJ bs k) (y3 bs k) (ka1 (y3 bs k)) (dP bs k) (bA bs k) u3 u3 rfl u3 u3 u3 (dY (kP : BsW bs) _)); rw [hx7] at h0; exact h0)⟩ ?_
   refine yM ?_
   refine yD [.w, .no] (qL ((k : Int) + 1)) [(0, .e (vN bs n)), (1, .e (.c (.fn 50 []))), (7, uV n), (8, iV (↑k + 1))] ⟨by omega, by omega⟩ ?_
   exact qS ⟨((k + 1) : Nat), ⟨eZ, (u1p hi (by assumption))⟩⟩ [] (P := (k8 (qC bs)) ∧ (kN n) ∧ (kM (n : Int)) ∧ (((((k + 1) : Nat) : Int) : Int) = ((k : Int) + 1))) zk ⟨rfl, rfl, rfl, (by first | rfl | omega | assumption | (simp; done) | (simp; omega))⟩ (show n - (k + 1) < n - k from (by first | omega | (show _ < _; simp; omega)))
 ·refine kK [.b false] (¬ ((k : Int) < (n : Int))) [(0, .e (vN bs n)), (1, .e (.c (.fn 50 []))), (7, uV n), (8, uV k), (9, bV false)] [] 0 zo ?_
  refine AW.seq ?_
  refine zf ?_
  refine AW.exit ?_
  refine kK [.no] True [(4, iV (-1))] [] 0 trivial ?_
  refine AW.ret ?_
  exact kC (.inr rfl) [] (P := (((pD bs n) : Int) = (-1))) zk (by first | rfl | exact k7n hi (by assumption) zo | (rw [show n = k by omega]; exact hi) | omega)
theorem k8u (bs : List Bx) (n : Nat) (hn : ka1 bs = n) (h1 : n ≤ 1000000) (hW : BsW bs) : Fun 49 [.c (.d (D.sl (qC bs) n)), .c (.fn 50 [])] (kG []) 0 (kT (D.lit (.bool (naB bs n)))) (kG []) 0 := by
 refine Fun.mk (n := 9) Try.func49 rfl rfl (ka5 rfl) ?_
 intro cx hcx
 refine kK [.no] True [(0, .e (vN bs n)), (1, .e (.c (.fn 50 [])))] [] 0 trivial ?_
 by_cases hx1 : ((0 : Int) ≤ (pD bs n))
 ·refine kX [.no, .no, .call [] (iV (pD bs n)) [] 0 [] none, .b true, .no] ((_) ∧ (((0 : Int) ≤ (pD bs n)))) [(4, bV true)] ⟨(k8r bs n zo zo (kP : BsW bs)), zo⟩ ?_
  refine AW.ret ?_
  exact kC (.inr rfl) [] (P := ((naB bs n) = true)) zk (by first | exact decide_eq_true zo | exact decide_eq_false zo)
 ·refine kX [.no, .no, .call [] (iV (pD bs n)) [] 0 [] none, .b false, .no] ((_) ∧ (¬ ((0 : Int) ≤ (pD bs n)))) [(4, bV false)] ⟨(k8r bs n zo zo (kP : BsW bs)), zo⟩ ?_
  refine AW.ret ?_
  exact kC (.inr rfl) [] (P := ((naB bs n) = false)) zk (by first | exact decide_eq_true zo | exact decide_eq_false zo)
theorem gQ (bs : List Bx) (n : Nat) (hn : ka1 bs = n) (h1 : n ≤ 1000000) (hW : BsW bs) : Fun 30 [.c (.d (D.sl (qC bs) n))] (kG []) 0 (kT (D.lit (.bool (mM bs)))) (kG []) 0 := by
 refine Fun.mk (n := 11) Try.func30 rfl rfl (ka5 rfl) ?_
 intro cx hcx
 refine kK [.no] True [(0, .e (vN bs n))] [] 0 trivial ?_
 by_cases hx1 : (((n : Nat) : Int) ≤ 64)
 ·rcases kb5 (naB bs n) with hx2 | hx2
  ·refine kX [.no, .no, .b true, .no, .no, .call [] (bV true) [] 0 [] none, .no, .no, .no] ((((n : Int) ≤ 64)) ∧ (Fun 49 [.c (.d (D.sl (qC bs) n)), .c (.fn 50 [])] (kG []) 0 (bV true) (kG []) 0)) [(2, bV false)] ⟨zo, (by have h0 := (k8u bs n zo zo (kP : BsW bs)); rw [hx2] at h0; exact h0)⟩ ?_
   refine AW.ret ?_
   exact kC (.inr rfl) [] (P := ((mM bs) = false)) zk (by first | exact k8z zo | exact k9u hn (by assumption) | exact k9t hn zo (by assumption))
  ·refine kX [.no, .no, .b true, .no, .no, .call [] (bV false) [] 0 [] none, .no, .no, .no] ((((n : Int) ≤ 64)) ∧ (Fun 49 [.c (.d (D.sl (qC bs) n)), .c (.fn 50 [])] (kG []) 0 (bV false) (kG []) 0)) [(2, bV true)] ⟨zo, (by have h0 := (k8u bs n zo zo (kP : BsW bs)); rw [hx2] at h0; exact h0)⟩ ?_
   refine AW.ret ?_
   exact kC (.inr rfl) [] (P := ((mM bs) = true)) zk (by first | exact k8z zo | exact k9u hn (by assumption) | exact k9t hn zo (by assumption))
 ·refine kX [.no, .no, .b false, .no, .no, .no] (¬ ((n : Int) ≤ 64)) [(2, bV false)] zo ?_
  refine AW.ret ?_
  exact kC (.inr rfl) [] (P := ((mM bs) = false)) zk (by first | exact k8z zo | exact k9u hn (by assumption) | exact k9t hn zo (by assumption))
end Go.Proofs.Ytalbpleglapihaa
