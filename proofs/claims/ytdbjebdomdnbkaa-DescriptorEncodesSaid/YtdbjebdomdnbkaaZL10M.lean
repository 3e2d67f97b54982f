/- Boxes of the code. No statement is proved here. -/
import Derived.Test.YtdbjebdomdnbkaaZL10D
namespace Go.Proofs.Ytdbjebdomdnbkaa
open Go.ChangeShapes Go.WideShapes Go.ChangeAt Go.RowKit
open Bool renaming eq_false_or_eq_true → kb4
open List renaming drop → ka7, getD → ka0, length → ka1, length_append → ka3, length_cons → kb1, length_drop → kb2, length_nil → kb5, length_take → kb3, take → ka2
open Nat renaming le_of_ble_eq_true → ka4, lt_succ_self → kj8, not_lt_zero → kd7
set_option linter.unusedVariables false
set_option linter.unusedSimpArgs false
/-! chapter 10: the code's lists of boxes -/
set_option maxHeartbeats 4000000
set_option maxRecDepth 100000
def xW (p : Nat → Bool) : Nat → Int
 | 0 => -1
 | k + 1 => if 0 ≤ xW p k then xW p k else if p k = true then (k : Int) else -1
theorem rR {p : Nat → Bool} {k : Nat} (h : xW p k = -1) (h2 : p k = false) : xW p (k + 1) = -1 := by
 show (if 0 ≤ xW p k then _ else _) = _
 rw [if_neg (by omega), if_neg (by rw [h2]; decide)]
theorem rS {p : Nat → Bool} {k : Nat} (h : xW p k = -1) (h2 : p k = true) : ∀ n, k < n → xW p n = (k : Int)
 | 0, h3 => absurd h3 (kd7 k)
 | n + 1, h3 => by
  show (if 0 ≤ xW p n then _ else _) = _
  by_cases e : k = n
  ·subst e; rw [if_neg (by omega), if_pos h2]
  ·have h4 := rS h h2 n (by omega)
   rw [if_pos (by omega), h4]
theorem rQ (p : Nat → Bool) : ∀ n, (xW p n = -1 ∧ ∀ j, j < n → p j = false) ∨ ∃ k, k < n ∧ xW p n = (k : Int) ∧ p k = true
 | 0 => .inl ⟨rfl, fun j h => absurd h (kd7 j)⟩
 | n + 1 => by
  rcases rQ p n with ⟨h1, h2⟩ | ⟨k, hk, h1, h2⟩
  ·cases e : p n with
   | false => exact .inl ⟨rR h1 e, fun j hj => (Nat.lt_succ_iff_lt_or_eq.1 hj).elim (h2 j) fun e9 => e9 ▸ e⟩
   | true => exact .inr ⟨n, kj8 n, rS h1 e _ (kj8 n), e⟩
  ·refine .inr ⟨k, by omega, ?_, h2⟩
   show (if 0 ≤ xW p n then _ else _) = _
   rw [if_pos (by omega)]; exact h1
theorem u0a {p : Nat → Bool} {n : Nat} (h : 0 ≤ xW p n) : ∃ k, k < n ∧ p k = true := by
 rcases rQ p n with ⟨h1, _⟩ | ⟨k, hk, _, h2⟩
 ·omega
 ·exact ⟨k, hk, h2⟩
theorem k4i {p : Nat → Bool} {n : Nat} (h : ¬ 0 ≤ xW p n) : ∀ j, j < n → p j = false := by
 rcases rQ p n with ⟨_, h2⟩ | ⟨k, hk, h1, _⟩
 ·exact h2
 ·omega
def wW (ms : List (List Int)) (m : List Int) : Nat → Int := xW fun j => eE (ka0 ms j []) m
theorem u06 {ms : List (List Int)} {m : List Int} {c : Nat} (hc : ms.length = c) (h : 0 ≤ wW ms m c) : oJ ms m = true := by
 obtain ⟨k, hk, h1⟩ := u0a h
 exact u2b (k := k) (by omega) h1
theorem u08 {ms : List (List Int)} {m : List Int} {c : Nat} (hc : ms.length = c) (h : ¬ 0 ≤ wW ms m c) : oJ ms m = false :=
 u2c fun j hj => k4i h j (by omega)
def sZ (bs : List Bx) : Nat → Int := xW fun j => !(vbE bs j)
theorem u46 {bs : List Bx} {n : Nat} (hn : bs.length = n) (h : 0 ≤ sZ bs n) : iI bs = false := by
 obtain ⟨k, hk, h1⟩ := u0a h
 exact k76 (k := k) (by omega) (by simpa using h1)
theorem u48 {bs : List Bx} {n : Nat} (hn : bs.length = n) (h2 : n ≤ 64) (h : ¬ 0 ≤ sZ bs n) : iI bs = true :=
 k2m (by omega) fun j hj => by
  have h3 := k4i h j (by omega)
  simpa using h3
theorem u61 {ms : List (List Int)} {m : List Int} {k : Nat} (h : wW ms m k = -1) (h2 : eE (ka0 ms k []) m = false) : wW ms m (k + 1) = -1 := rR h h2
theorem u07 {ms : List (List Int)} {m : List Int} {k : Nat} (h : wW ms m k = -1) (h2 : eE (ka0 ms k []) m = true) {n : Nat} (hn : k < n) : wW ms m n = (k : Int) := rS h h2 n hn
def nxB (k : Int) (r : List Int) (rn : Nat) (m : List (List Int)) (s : List Int) (sn : Nat) : Bool := !(dK k r rn m s sn)
theorem u5f {k : Int} {r : List Int} {rn : Nat} {m : List (List Int)} {s : List Int} {sn : Nat} (h : dK k r rn m s sn = false) : nxB k r rn m s sn = true := by unfold nxB; rw [h]; rfl
theorem u5g {k : Int} {r : List Int} {rn : Nat} {m : List (List Int)} {s : List Int} {sn : Nat} (h : dK k r rn m s sn = true) : nxB k r rn m s sn = false := by unfold nxB; rw [h]; rfl
theorem u47 {bs : List Bx} {k : Nat} (h : sZ bs k = -1) (h2 : nxB (vK bs k) (vH bs k) (uM bs k) (kW bs k) (aG bs k) (yW bs k) = false) : sZ bs (k + 1) = -1 := rR h h2
theorem k9s {bs : List Bx} {k : Nat} (h : sZ bs k = -1) (h2 : nxB (vK bs k) (vH bs k) (uM bs k) (kW bs k) (aG bs k) (yW bs k) = true) {n : Nat} (hn : k < n) : sZ bs n = (k : Int) := rS h h2 n hn
def naB (bs : List Bx) (n : Nat) : Bool := decide (0 ≤ sZ bs n)
theorem u1y {bs : List Bx} {n : Nat} (hn : bs.length = n) (h : naB bs n = true) : iI bs = false := u46 hn (of_decide_eq_true h)
theorem u1x {bs : List Bx} {n : Nat} (hn : bs.length = n) (h2 : n ≤ 64) (h : naB bs n = false) : iI bs = true := u48 hn h2 (of_decide_eq_false h)
theorem k6v (w a : List Int) (o n : Nat) (ho : ka1 w = o) (hn : ka1 a = n) (h1 : o ≤ 1000000) (h2 : n ≤ 1000000) : Fun 90 [.c (.d (D.sl (dI .i64 a) n)), .c (.ptr 0 0)] (kF [(0, some (49, .ds [D.sl (dI .i64 w) o]))]) 1 (kS (D.lit (.bool (eE a w)))) (kF [(0, some (49, .ds [D.sl (dI .i64 w) o]))]) 1 := by
 refine Fun.mk (n := 7) Try.func90 rfl rfl (ka4 rfl) ?_
 intro cx hcx
 refine kI [.no] True [(0, sV .i64 a n), (1, rV 0 0)] [(0, some (49, .ds [dl w o]))] 1 trivial ?_
 refine k8 [.no, .no, .call [] (kS (D.lit (.bool (eE a w)))) [] 0 [] none, .no] _ [(3, kS (D.lit (.bool (eE a w))))] (u35 a w n o zo zo zo zo) ?_
 refine AW.ret ?_
 exact kC (.inr rfl) [] (P := ((eE a w) = (eE a w)) ∧ (kZ [dl w o])) zk ⟨rfl, rfl⟩
theorem hJ {p : Prop} (h : p := by first | omega | assumption | simp) : p := h
theorem j5 {p : Prop} (h : p := by first | omega | (simp only [kU, kT, ka3, kb1, kb5, kb3, kb2] <;> omega)) : p := h
theorem yM {p : Prop} (h : p := by first | omega | with_reducible assumption | (simp only [kU, kT, ka3, kb1, kb5, kb3, kb2, List.length_replicate, List.length_set] <;> omega) | rfl | assumption) : p := h
theorem u0v (ms : List (List Int)) (c : Nat) (w : List Int) (o : Nat) (hc : ka1 ms = c) (ho : ka1 w = o) (h1 : c ≤ 1000000) (h2 : o ≤ 1000000) (hW : MsW ms) : Fun 94 [.c (.d (D.sl (kY ms) c)), .c (.fn 90 [(0, 0)])] (kF [(0, some (49, .ds [D.sl (dI .i64 w) o]))]) 1 (iV (wW ms w c)) (kF [(0, some (49, .ds [D.sl (dI .i64 w) o]))]) 1 := by
 refine Fun.mk (n := 19) Try.func94 rfl rfl (ka4 rfl) ?_
 intro cx hcx
 refine kI [.no] True [(0, qP (kY ms) c), (1, .e (.c (.fn 90 [(0, 0)])))] [(0, some (49, .ds [dl w o]))] 1 trivial ?_
 refine AW.seq ?_
 refine k8 [.no, .no, .no] True [(0, qP (kY ms) c), (1, .e (.c (.fn 90 [(0, 0)]))), (7, uV c), (8, iV 0)] trivial ?_
 refine AW.block ?_
 refine kX 1 hcx (fun (x : {x : Nat // match x with | k => (k ≤ c) ∧ (wW ms w k = -1)}) => match x with | ⟨k, _⟩ => (⟨[(0, qP (kY ms) c), (1, .e (.c (.fn 90 [(0, 0)]))), (7, uV c), (8, uV k)], [(0, some (49, .ds [dl w o]))], 1⟩ : ES)) (fun x => match x with | ⟨k, _⟩ => c - k) ⟨(0 : Nat), ⟨hJ, rfl⟩⟩ [] (P := (kZ (kY ms)) ∧ (kP c) ∧ (kN (c : Int)) ∧ (kN 0) ∧ (kZ [dl w o])) zk ⟨rfl, rfl, rfl, rfl, rfl⟩ ?_
 rintro ⟨k, hinv0⟩
 obtain ⟨hk, hi⟩ : (k ≤ c) ∧ (wW ms w k = -1) := hinv0
 refine qU (l := [(0, qP (kY ms) c), (1, .e (.c (.fn 90 [(0, 0)]))), (7, uV c), (8, uV k)]) (g := [(0, some (49, .ds [dl w o]))]) (nx := 1) rfl rfl rfl ?_
 by_cases hx1 : (((k : Nat) : Int) < ((c : Nat) : Int))
 ·refine kI [.b true] (((k : Int) < (c : Int))) [(0, qP (kY ms) c), (1, .e (.c (.fn 90 [(0, 0)]))), (7, uV c), (8, uV k), (9, bV true)] [(0, some (49, .ds [dl w o]))] 1 zo ?_
  refine AW.seq ?_
  refine vD ?_
  refine AW.seq ?_
  refine AW.block ?_
  refine k8 [.no, .no] True [(0, qP (kY ms) c), (1, .e (.c (.fn 90 [(0, 0)]))), (5, uV k), (7, uV c), (8, uV k)] trivial ?_
  rcases kb4 (eE (ka0 ms k ([] : List Int)) w) with hx3 | hx3
  ·have hx4 : ((ka1 (ka0 ms k ([] : List Int))) ≤ 1000000) := MsW.at (kQ : MsW ms) _
   refine k8 [.no, .no, .no, .n k, .d (dl (ka0 ms k ([] : List Int)) (ka1 (ka0 ms k ([] : List Int)))), .call [0] (bV true) [(0, some (49, .ds [dl w o]))] 1 [] none] ((kN (k : Int)) ∧ (k < c) ∧ ((ka7 k (kY ms))[0]? = some (dl (ka0 ms k ([] : List Int)) (ka1 (ka0 ms k ([] : List Int))))) ∧ (Fun 90 [.c (.d (dl (ka0 ms k ([] : List Int)) (ka1 (ka0 ms k ([] : List Int))))), .c (.ptr 0 0)] (kF [(0, some (49, .ds [dl w o]))]) 1 (bV true) (kF [(0, some (49, .ds [dl w o]))]) 1)) [(0, qP (kY ms) c), (1, .e (.c (.fn 90 [(0, 0)]))), (5, uV k), (7, uV c), (8, uV k), (16, bV true)] ⟨rfl, zo, (cE _ _ j5), (by have h0 := (k6v w (ka0 ms k ([] : List Int)) o (ka1 (ka0 ms k ([] : List Int))) zo rfl zo yM); rw [hx3] at h0; exact h0)⟩ ?_
   refine zt ?_
   refine k8 [.no, .no] True [(4, uV k)] trivial ?_
   refine AW.ret ?_
   exact kC (.inr rfl) [] (P := (((wW ms w c) : Int) = (k : Int)) ∧ (kZ [dl w o])) zk ⟨(by first | rfl | exact u07 hi (by assumption) zo | (rw [show c = k by omega]; exact hi) | omega), rfl⟩
  ·have hx5 : ((ka1 (ka0 ms k ([] : List Int))) ≤ 1000000) := MsW.at (kQ : MsW ms) _
   refine k8 [.no, .no, .no, .n k, .d (dl (ka0 ms k ([] : List Int)) (ka1 (ka0 ms k ([] : List Int)))), .call [0] (bV false) [(0, some (49, .ds [dl w o]))] 1 [] none] ((kN (k : Int)) ∧ (k < c) ∧ ((ka7 k (kY ms))[0]? = some (dl (ka0 ms k ([] : List Int)) (ka1 (ka0 ms k ([] : List Int))))) ∧ (Fun 90 [.c (.d (dl (ka0 ms k ([] : List Int)) (ka1 (ka0 ms k ([] : List Int))))), .c (.ptr 0 0)] (kF [(0, some (49, .ds [dl w o]))]) 1 (bV false) (kF [(0, some (49, .ds [dl w o]))]) 1)) [(0, qP (kY ms) c), (1, .e (.c (.fn 90 [(0, 0)]))), (5, uV k), (7, uV c), (8, uV k), (16, bV false)] ⟨rfl, zo, (cE _ _ j5), (by have h0 := (k6v w (ka0 ms k ([] : List Int)) o (ka1 (ka0 ms k ([] : List Int))) zo rfl zo yM); rw [hx3] at h0; exact h0)⟩ ?_
   refine yC ?_
   refine yD [.w, .no] (qJ ((k : Int) + 1)) [(0, qP (kY ms) c), (1, .e (.c (.fn 90 [(0, 0)]))), (7, uV c), (8, iV (↑k + 1))] ⟨by omega, by omega⟩ ?_
   exact qE ⟨((k + 1) : Nat), ⟨hJ, (u61 hi (by assumption))⟩⟩ [] (P := (kZ (kY ms)) ∧ (kP c) ∧ (kN (c : Int)) ∧ (((((k + 1) : Nat) : Int) : Int) = ((k : Int) + 1)) ∧ (kZ [dl w o])) zk ⟨rfl, rfl, rfl, (by first | rfl | omega | assumption | (simp; done) | (simp; omega)), rfl⟩ (show c - (k + 1) < c - k from (by first | omega | (show _ < _; simp; omega)))
 ·refine kI [.b false] (¬ ((k : Int) < (c : Int))) [(0, qP (kY ms) c), (1, .e (.c (.fn 90 [(0, 0)]))), (7, uV c), (8, uV k), (9, bV false)] [(0, some (49, .ds [dl w o]))] 1 zo ?_
  refine AW.seq ?_
  refine zf ?_
  refine AW.exit ?_
  refine kI [.no] True [(4, iV (-1))] [(0, some (49, .ds [dl w o]))] 1 trivial ?_
  refine AW.ret ?_
  exact kC (.inr rfl) [] (P := (((wW ms w c) : Int) = (-1)) ∧ (kZ [dl w o])) zk ⟨(by first | rfl | exact u07 hi (by assumption) zo | (rw [show c = k by omega]; exact hi) | omega), rfl⟩
theorem u6s (ms : List (List Int)) (c : Nat) (w : List Int) (o : Nat) (hc : ka1 ms = c) (ho : ka1 w = o) (h1 : c ≤ 1000000) (h2 : o ≤ 1000000) (hW : MsW ms) : Fun 89 [.c (.d (D.sl (kY ms) c)), .c (.fn 90 [(0, 0)])] (kF [(0, some (49, .ds [D.sl (dI .i64 w) o]))]) 1 (kS (D.lit (.bool (oJ ms w)))) (kF [(0, some (49, .ds [D.sl (dI .i64 w) o]))]) 1 := by
 refine Fun.mk (n := 9) Try.func89 rfl rfl (ka4 rfl) ?_
 intro cx hcx
 refine kI [.no] True [(0, qP (kY ms) c), (1, .e (.c (.fn 90 [(0, 0)])))] [(0, some (49, .ds [dl w o]))] 1 trivial ?_
 by_cases hx1 : ((0 : Int) ≤ (wW ms w c))
 ·refine k8 [.no, .no, .call [0] (iV (wW ms w c)) [(0, some (49, .ds [dl w o]))] 1 [] none, .b true, .no] ((_) ∧ (((0 : Int) ≤ (wW ms w c)))) [(4, bV true)] ⟨(u0v ms c w o zo zo zo zo (kQ : MsW ms)), zo⟩ ?_
  refine AW.ret ?_
  exact kC (.inr rfl) [] (P := ((oJ ms w) = true) ∧ (kZ [dl w o])) zk ⟨(by first | exact u06 hc zo | exact u08 hc zo), rfl⟩
 ·refine k8 [.no, .no, .call [0] (iV (wW ms w c)) [(0, some (49, .ds [dl w o]))] 1 [] none, .b false, .no] ((_) ∧ (¬ ((0 : Int) ≤ (wW ms w c)))) [(4, bV false)] ⟨(u0v ms c w o zo zo zo zo (kQ : MsW ms)), zo⟩ ?_
  refine AW.ret ?_
  exact kC (.inr rfl) [] (P := ((oJ ms w) = false) ∧ (kZ [dl w o])) zk ⟨(by first | exact u06 hc zo | exact u08 hc zo), rfl⟩
theorem u0w (ms : List (List Int)) (c : Nat) (w : List Int) (o : Nat) (hc : ka1 ms = c) (ho : ka1 w = o) (h1 : c ≤ 1000000) (h2 : o ≤ 1000000) (hW : MsW ms) : Fun 77 [.c (.d (D.sl (kY ms) c)), .c (.d (D.sl (dI .i64 w) o))] (kF []) 0 (kS (D.lit (.bool (oJ ms w)))) (kF []) 0 := by
 refine Fun.mk (n := 8) Try.func77 rfl rfl (ka4 rfl) ?_
 intro cx hcx
 refine kI [.no, .no] True [(0, qP (kY ms) c), (3, rV 0 0)] [(0, some (49, .ds [dl w o]))] 1 trivial ?_
 refine kI [.no, .no, .call [0] (kS (D.lit (.bool (oJ ms w)))) [(0, some (49, .ds [dl w o]))] 1 [] none, .no] _ [(4, kS (D.lit (.bool (oJ ms w))))] [] 1 (u6s ms c w o zo zo zo zo (kQ : MsW ms)) ?_
 refine AW.ret ?_
 exact kC (.inr rfl) [] (P := ((oJ ms w) = (oJ ms w))) zk rfl
theorem j4 {p : Prop} (h : p := by first | exact k9r (by assumption) | exact k9q (by assumption)) : p := h
theorem sK (m : List (List Int)) (c : Nat) (hc : ka1 m = c) (h1 : c ≤ 1000000) (hW : MsW m) : Fun 63 [.c (.d (D.sl (kY m) c))] (kF []) 0 (kS (D.lit (.bool (sQ m)))) (kF []) 0 := by
 refine Fun.mk (n := 31) Try.func63 rfl rfl (ka4 rfl) ?_
 intro cx hcx
 refine kI [.no] True [(0, qP (kY m) c)] [] 0 trivial ?_
 refine AW.seq ?_
 by_cases hx1 : (((c : Nat) : Int) < 1)
 ·refine k8 [.no, .no, .b true, .no, .no] (((c : Int) < 1)) [(0, qP (kY m) c), (12, bV true)] zo ?_
  refine zt ?_
  refine k8 [.no] True [(2, bV false)] trivial ?_
  refine AW.ret ?_
  exact kC (.inr rfl) [] (P := ((sQ m) = false)) zk (by first | exact fT zo zo (fun j hj => ha j zo) | exact gA zo | exact gB (k := i) zo j4)
 ·by_cases hx2 : ((16 : Int) < ((c : Nat) : Int))
  ·refine k8 [.no, .no, .b false, .no, .no, .no, .b true, .no] ((¬ ((c : Int) < 1)) ∧ (((16 : Int) < (c : Int)))) [(0, qP (kY m) c), (12, bV true)] ⟨zo, zo⟩ ?_
   refine zt ?_
   refine k8 [.no] True [(2, bV false)] trivial ?_
   refine AW.ret ?_
   exact kC (.inr rfl) [] (P := ((sQ m) = false)) zk (by first | exact fT zo zo (fun j hj => ha j zo) | exact gA zo | exact gB (k := i) zo j4)
  ·refine k8 [.no, .no, .b false, .no, .no, .no, .b false, .no] ((¬ ((c : Int) < 1)) ∧ (¬ ((16 : Int) < (c : Int)))) [(0, qP (kY m) c), (12, bV false)] ⟨zo, zo⟩ ?_
   refine yC ?_
   refine AW.seq ?_
   refine k8 [.no, .no, .no] True [(0, qP (kY m) c), (13, qP (kY m) c), (14, uV c), (15, iV 0)] trivial ?_
   refine AW.block ?_
   refine kX 0 hcx (fun (x : {x : Nat // match x with | i => (i ≤ c) ∧ (∀ j, j < i → zT m j = true)}) => match x with | ⟨i, _⟩ => (⟨[(0, qP (kY m) c), (13, qP (kY m) c), (14, uV c), (15, uV i)], [], 0⟩ : ES)) (fun x => match x with | ⟨i, _⟩ => c - i) ⟨(0 : Nat), ⟨hJ, (fun j hj => absurd hj (kd7 j))⟩⟩ [] (P := (kZ (kY m)) ∧ (kP c) ∧ (kZ (kY m)) ∧ (kP c) ∧ (kN (c : Int)) ∧ (kN 0)) zk ⟨rfl, rfl, rfl, rfl, rfl, rfl⟩ ?_
   rintro ⟨i, hinv0⟩
   obtain ⟨hi, ha⟩ : (i ≤ c) ∧ (∀ j, j < i → zT m j = true) := hinv0
   refine qU (l := [(0, qP (kY m) c), (13, qP (kY m) c), (14, uV c), (15, uV i)]) (g := []) (nx := 0) rfl rfl rfl ?_
   by_cases hx3 : (((i : Nat) : Int) < ((c : Nat) : Int))
   ·refine kI [.b true] (((i : Int) < (c : Int))) [(0, qP (kY m) c), (13, qP (kY m) c), (14, uV c), (15, uV i), (16, bV true)] [] 0 zo ?_
    refine AW.seq ?_
    refine vD ?_
    refine AW.seq ?_
    refine AW.block ?_
    have hx4 : ((ka1 (ka0 m i ([] : List Int))) ≤ 1000000) := MsW.at (kQ : MsW m) _
    refine k8 [.no, .n i, .d (dl (ka0 m i ([] : List Int)) (ka1 (ka0 m i ([] : List Int)))), .no, .no] ((kN (i : Int)) ∧ (i < c) ∧ ((ka7 i (kY m))[0]? = some (dl (ka0 m i ([] : List Int)) (ka1 (ka0 m i ([] : List Int)))))) [(0, qP (kY m) c), (3, uV i), (4, sV .i64 (ka0 m i ([] : List Int)) (ka1 (ka0 m i ([] : List Int)))), (13, qP (kY m) c), (14, uV c), (15, uV i)] ⟨rfl, zo, (cE _ _ j5)⟩ ?_
    rcases kb4 (f9 (ka0 m i ([] : List Int)) (ka1 (ka0 m i ([] : List Int)))) with hx5 | hx5
    ·rcases kb4 (oJ (ka2 i m) (ka0 m i ([] : List Int))) with hx6 | hx6
     ·refine k8 (.no :: .call [] (bV true) [] 0 [] none :: kJ 4 [.sls 0 i i (kY (ka2 i m)), .no, .call [] (bV true) [] 0 [] none, .no]) ((Fun 76 [.c (.d (dl (ka0 m i ([] : List Int)) (ka1 (ka0 m i ([] : List Int)))))] (kF []) 0 (bV true) (kF []) 0) ∧ (kP 0) ∧ (kN (i : Int)) ∧ ((0 : Nat) ≤ i) ∧ (i ≤ c) ∧ (i - 0 = i) ∧ (ka2 (i * 1) (ka7 (0 * 1) (kY m)) = (kY (ka2 i m))) ∧ (Fun 77 [.c (.d (D.sl (kY (ka2 i m)) i)), .c (.d (dl (ka0 m i ([] : List Int)) (ka1 (ka0 m i ([] : List Int)))))] (kF []) 0 (bV true) (kF []) 0)) [(0, qP (kY m) c), (13, qP (kY m) c), (14, uV c), (15, uV i), (29, bV true)] ⟨(by have h0 := (sH (ka0 m i ([] : List Int)) (ka1 (ka0 m i ([] : List Int))) rfl yM); rw [hx5] at h0; exact h0), rfl, rfl, zo, zo, zo, (gK _ _), (by have h0 := (u0w (ka2 i m) i (ka0 m i ([] : List Int)) (ka1 (ka0 m i ([] : List Int))) yM rfl zo yM (MsW.take (kQ : MsW m) _)); rw [hx6] at h0; exact h0)⟩ ?_
      refine zt ?_
      refine k8 [.no] True [(2, bV false)] trivial ?_
      refine AW.ret ?_
      exact kC (.inr rfl) [] (P := ((sQ m) = false)) zk (by first | exact fT zo zo (fun j hj => ha j zo) | exact gA zo | exact gB (k := i) zo j4)
     ·refine k8 (.no :: .call [] (bV true) [] 0 [] none :: kJ 4 [.sls 0 i i (kY (ka2 i m)), .no, .call [] (bV false) [] 0 [] none, .no]) ((Fun 76 [.c (.d (dl (ka0 m i ([] : List Int)) (ka1 (ka0 m i ([] : List Int)))))] (kF []) 0 (bV true) (kF []) 0) ∧ (kP 0) ∧ (kN (i : Int)) ∧ ((0 : Nat) ≤ i) ∧ (i ≤ c) ∧ (i - 0 = i) ∧ (ka2 (i * 1) (ka7 (0 * 1) (kY m)) = (kY (ka2 i m))) ∧ (Fun 77 [.c (.d (D.sl (kY (ka2 i m)) i)), .c (.d (dl (ka0 m i ([] : List Int)) (ka1 (ka0 m i ([] : List Int)))))] (kF []) 0 (bV false) (kF []) 0)) [(0, qP (kY m) c), (13, qP (kY m) c), (14, uV c), (15, uV i), (29, bV false)] ⟨(by have h0 := (sH (ka0 m i ([] : List Int)) (ka1 (ka0 m i ([] : List Int))) rfl yM); rw [hx5] at h0; exact h0), rfl, rfl, zo, zo, zo, (gK _ _), (by have h0 := (u0w (ka2 i m) i (ka0 m i ([] : List Int)) (ka1 (ka0 m i ([] : List Int))) yM rfl zo yM (MsW.take (kQ : MsW m) _)); rw [hx6] at h0; exact h0)⟩ ?_
      refine yC ?_
      refine yD [.w, .no] (qJ ((i : Int) + 1)) [(0, qP (kY m) c), (13, qP (kY m) c), (14, uV c), (15, iV (↑i + 1))] ⟨by omega, by omega⟩ ?_
      exact qE ⟨((i + 1) : Nat), ⟨hJ, (fun j hj => (Nat.lt_succ_iff_lt_or_eq.1 hj).elim (ha j) (fun e9 => by subst e9; exact k2l (by assumption) (by assumption)))⟩⟩ [] (P := (kZ (kY m)) ∧ (kP c) ∧ (kZ (kY m)) ∧ (kP c) ∧ (kN (c : Int)) ∧ (((((i + 1) : Nat) : Int) : Int) = ((i : Int) + 1))) zk ⟨rfl, rfl, rfl, rfl, rfl, (by first | rfl | omega | assumption | (simp; done) | (simp; omega))⟩ (show c - (i + 1) < c - i from (by first | omega | (show _ < _; simp; omega)))
    ·refine k8 [.no, .call [] (bV false) [] 0 [] none, .no, .no, .no] (Fun 76 [.c (.d (dl (ka0 m i ([] : List Int)) (ka1 (ka0 m i ([] : List Int)))))] (kF []) 0 (bV false) (kF []) 0) [(0, qP (kY m) c), (13, qP (kY m) c), (14, uV c), (15, uV i), (29, bV true)] (by have h0 := (sH (ka0 m i ([] : List Int)) (ka1 (ka0 m i ([] : List Int))) rfl yM); rw [hx5] at h0; exact h0) ?_
     refine zt ?_
     refine k8 [.no] True [(2, bV false)] trivial ?_
     refine AW.ret ?_
     exact kC (.inr rfl) [] (P := ((sQ m) = false)) zk (by first | exact fT zo zo (fun j hj => ha j zo) | exact gA zo | exact gB (k := i) zo j4)
   ·refine kI [.b false] (¬ ((i : Int) < (c : Int))) [(0, qP (kY m) c), (13, qP (kY m) c), (14, uV c), (15, uV i), (16, bV false)] [] 0 zo ?_
    refine AW.seq ?_
    refine zf ?_
    refine AW.exit ?_
    refine kI [.no] True [(2, bV true)] [] 0 trivial ?_
    refine AW.ret ?_
    exact kC (.inr rfl) [] (P := ((sQ m) = true)) zk (by first | exact fT zo zo (fun j hj => ha j zo) | exact gA zo | exact gB (k := i) zo j4)
theorem hU {p : Prop} (h : p := by first | exact mJ (by omega) (by assumption) (by assumption) (by assumption) | exact nH (by omega) | exact dJ (by assumption) | exact nG (by assumption) | exact nF (by assumption)) : p := h
theorem k6u (k : Int) (r : List Int) (rn : Nat) (m : List (List Int)) (c : Nat) (s : List Int) (sn : Nat) (hr : ka1 r = rn * 2) (hs : ka1 s = sn * 2) (hc : ka1 m = c) (h1 : rn ≤ 1000000) (h2 : sn ≤ 1000000) (h3 : c ≤ 1000000) (hW : MsW m) : Fun 49 [.agg [iC k, .d (D.sl (dI .i64 r) rn), .d (D.sl (kY m) c), .d (D.sl (dI .i64 s) sn)]] (kF []) 0 (kS (D.lit (.bool (dK k r rn m s sn)))) (kF []) 0 := by
 refine Fun.mk (n := 27) Try.func49 rfl rfl (ka4 rfl) ?_
 intro cx hcx
 refine kI [.no, .no] True [(1, rV 0 0)] [(0, some (47, .ds [iD k, dl r rn, D.sl (kY m) c, dl s sn]))] 1 trivial ?_
 by_cases hx1 : (k ≠ 0)
 ·by_cases hx2 : ((dX k) = 0)
  ·rcases kb4 (eS r rn 1000 768000) with hx3 | hx3
   ·rcases kb4 (sQ m) with hx4 | hx4
    ·rcases kb4 (eS s sn 1 65536) with hx5 | hx5
     ·refine kI (.no :: .no :: .b true :: .no :: .no :: .no :: .i (dX k) :: .b true :: kJ 4 (.call [] (bV true) [] 0 [] none :: kJ 4 (.call [] (bV true) [] 0 [] none :: kJ 4 [.call [] (bV true) [] 0 [] none, .no, .no]))) (((k ≠ 0)) ∧ (qR .andNot .i64 k 254 = (dX k)) ∧ (((dX k) = 0)) ∧ (Fun 62 [.agg [.d (dl r rn)], iE 1000, iE 768000] (kF []) 0 (bV true) (kF []) 0) ∧ (Fun 63 [.c (.d (D.sl (kY m) c))] (kF []) 0 (bV true) (kF []) 0) ∧ (Fun 62 [.agg [.d (dl s sn)], iE 1, iE 65536] (kF []) 0 (bV true) (kF []) 0)) [(2, bV true)] [] 1 ⟨zo, rfl, zo, (by have h0 := (i0 r rn 1000 768000 zo zo); rw [hx3] at h0; exact h0), (by have h0 := (sK m c zo zo (kQ : MsW m)); rw [hx4] at h0; exact h0), (by have h0 := (i0 s sn 1 65536 zo zo); rw [hx5] at h0; exact h0)⟩ ?_
      refine AW.ret ?_
      exact kC (.inr rfl) [] (P := ((dK k r rn m s sn) = true)) zk hU
     ·refine kI (.no :: .no :: .b true :: .no :: .no :: .no :: .i (dX k) :: .b true :: kJ 4 (.call [] (bV true) [] 0 [] none :: kJ 4 (.call [] (bV true) [] 0 [] none :: kJ 4 [.call [] (bV false) [] 0 [] none, .no, .no]))) (((k ≠ 0)) ∧ (qR .andNot .i64 k 254 = (dX k)) ∧ (((dX k) = 0)) ∧ (Fun 62 [.agg [.d (dl r rn)], iE 1000, iE 768000] (kF []) 0 (bV true) (kF []) 0) ∧ (Fun 63 [.c (.d (D.sl (kY m) c))] (kF []) 0 (bV true) (kF []) 0) ∧ (Fun 62 [.agg [.d (dl s sn)], iE 1, iE 65536] (kF []) 0 (bV false) (kF []) 0)) [(2, bV false)] [] 1 ⟨zo, rfl, zo, (by have h0 := (i0 r rn 1000 768000 zo zo); rw [hx3] at h0; exact h0), (by have h0 := (sK m c zo zo (kQ : MsW m)); rw [hx4] at h0; exact h0), (by have h0 := (i0 s sn 1 65536 zo zo); rw [hx5] at h0; exact h0)⟩ ?_
      refine AW.ret ?_
      exact kC (.inr rfl) [] (P := ((dK k r rn m s sn) = false)) zk hU
    ·refine kI (.no :: .no :: .b true :: .no :: .no :: .no :: .i (dX k) :: .b true :: kJ 4 (.call [] (bV true) [] 0 [] none :: kJ 4 (.call [] (bV false) [] 0 [] none :: kJ 4 []))) (((k ≠ 0)) ∧ (qR .andNot .i64 k 254 = (dX k)) ∧ (((dX k) = 0)) ∧ (Fun 62 [.agg [.d (dl r rn)], iE 1000, iE 768000] (kF []) 0 (bV true) (kF []) 0) ∧ (Fun 63 [.c (.d (D.sl (kY m) c))] (kF []) 0 (bV false) (kF []) 0)) [(2, bV false)] [] 1 ⟨zo, rfl, zo, (by have h0 := (i0 r rn 1000 768000 zo zo); rw [hx3] at h0; exact h0), (by have h0 := (sK m c zo zo (kQ : MsW m)); rw [hx4] at h0; exact h0)⟩ ?_
     refine AW.ret ?_
     exact kC (.inr rfl) [] (P := ((dK k r rn m s sn) = false)) zk hU
   ·refine kI (.no :: .no :: .b true :: .no :: .no :: .no :: .i (dX k) :: .b true :: kJ 4 (.call [] (bV false) [] 0 [] none :: kJ 6 [])) (((k ≠ 0)) ∧ (qR .andNot .i64 k 254 = (dX k)) ∧ (((dX k) = 0)) ∧ (Fun 62 [.agg [.d (dl r rn)], iE 1000, iE 768000] (kF []) 0 (bV false) (kF []) 0)) [(2, bV false)] [] 1 ⟨zo, rfl, zo, (by have h0 := (i0 r rn 1000 768000 zo zo); rw [hx3] at h0; exact h0)⟩ ?_
    refine AW.ret ?_
    exact kC (.inr rfl) [] (P := ((dK k r rn m s sn) = false)) zk hU
  ·refine kI (.no :: .no :: .b true :: .no :: .no :: .no :: .i (dX k) :: .b false :: kJ 8 []) (((k ≠ 0)) ∧ (qR .andNot .i64 k 254 = (dX k)) ∧ (¬ ((dX k) = 0))) [(2, bV false)] [] 1 ⟨zo, rfl, zo⟩ ?_
   refine AW.ret ?_
   exact kC (.inr rfl) [] (P := ((dK k r rn m s sn) = false)) zk hU
 ·refine kI (.no :: .no :: .b false :: kJ 9 []) (¬ (k ≠ 0)) [(2, bV false)] [] 1 zo ?_
  refine AW.ret ?_
  exact kC (.inr rfl) [] (P := ((dK k r rn m s sn) = false)) zk hU
theorem wO (k : Int) (r : List Int) (rn : Nat) (m : List (List Int)) (c : Nat) (s : List Int) (sn : Nat) (hr : ka1 r = rn * 2) (hs : ka1 s = sn * 2) (hc : ka1 m = c) (h1 : rn ≤ 1000000) (h2 : sn ≤ 1000000) (h3 : c ≤ 1000000) (hW : MsW m) : Fun 48 [.agg [iC k, .d (D.sl (dI .i64 r) rn), .d (D.sl (kY m) c), .d (D.sl (dI .i64 s) sn)]] (kF []) 0 (kS (D.lit (.bool (nxB k r rn m s sn)))) (kF []) 0 := by
 refine Fun.mk (n := 6) Try.func48 rfl rfl (ka4 rfl) ?_
 intro cx hcx
 refine kI [.no, .no] True [(1, rV 0 0)] [(0, some (47, .ds [iD k, dl r rn, D.sl (kY m) c, dl s sn]))] 1 trivial ?_
 rcases kb4 (dK k r rn m s sn) with hx1 | hx1
 ·refine kI [.no, .call [] (bV true) [] 0 [] none, .no, .no] (Fun 49 [.agg [iC k, .d (dl r rn), .d (D.sl (kY m) c), .d (dl s sn)]] (kF []) 0 (bV true) (kF []) 0) [(2, bV false)] [] 1 (by have h0 := (k6u k r rn m c s sn zo zo zo zo zo zo (kQ : MsW m)); rw [hx1] at h0; exact h0) ?_
  refine AW.ret ?_
  exact kC (.inr rfl) [] (P := ((nxB k r rn m s sn) = false)) zk (by first | exact u5f (by assumption) | exact u5g (by assumption))
 ·refine kI [.no, .call [] (bV false) [] 0 [] none, .no, .no] (Fun 49 [.agg [iC k, .d (dl r rn), .d (D.sl (kY m) c), .d (dl s sn)]] (kF []) 0 (bV false) (kF []) 0) [(2, bV true)] [] 1 (by have h0 := (k6u k r rn m c s sn zo zo zo zo zo zo (kQ : MsW m)); rw [hx1] at h0; exact h0) ?_
  refine AW.ret ?_
  exact kC (.inr rfl) [] (P := ((nxB k r rn m s sn) = true)) zk (by first | exact u5f (by assumption) | exact u5g (by assumption))
theorem u0u (bs : List Bx) (n : Nat) (hn : ka1 bs = n) (h1 : n ≤ 1000000) (hW : BsW bs) : Fun 61 [.c (.d (D.sl (kR bs) n)), .c (.fn 48 [])] (kF []) 0 (iV (sZ bs n)) (kF []) 0 := by
 refine Fun.mk (n := 19) Try.func61 rfl rfl (ka4 rfl) ?_
 intro cx hcx
 refine kI [.no] True [(0, .e (uX bs n)), (1, .e (.c (.fn 48 [])))] [] 0 trivial ?_
 refine AW.seq ?_
 refine k8 [.no, .no, .no] True [(0, .e (uX bs n)), (1, .e (.c (.fn 48 []))), (7, uV n), (8, iV 0)] trivial ?_
 refine AW.block ?_
 refine kX 0 hcx (fun (x : {x : Nat // match x with | k => (k ≤ n) ∧ (sZ bs k = -1)}) => match x with | ⟨k, _⟩ => (⟨[(0, .e (uX bs n)), (1, .e (.c (.fn 48 []))), (7, uV n), (8, uV k)], [], 0⟩ : ES)) (fun x => match x with | ⟨k, _⟩ => n - k) ⟨(0 : Nat), ⟨hJ, rfl⟩⟩ [] (P := (kZ (kR bs)) ∧ (kP n) ∧ (kN (n : Int)) ∧ (kN 0)) zk ⟨rfl, rfl, rfl, rfl⟩ ?_
 rintro ⟨k, hinv0⟩
 obtain ⟨hk, hi⟩ : (k ≤ n) ∧ (sZ bs k = -1) := hinv0
 refine qU (l := [(0, .e (uX bs n)), (1, .e (.c (.fn 48 []))), (7, uV n), (8, uV k)]) (g := []) (nx := 0) rfl rfl rfl ?_
 by_cases hx1 : (((k : Nat) : Int) < ((n : Nat) : Int))
 ·refine kI [.b true] (((k : Int) < (n : Int))) [(0, .e (uX bs n)), (1, .e (.c (.fn 48 []))), (7, uV n), (8, uV k), (9, bV true)] [] 0 zo ?_
  refine AW.seq ?_
  refine vD ?_
  refine AW.seq ?_
  refine AW.block ?_
  refine k8 [.no, .no] True [(0, .e (uX bs n)), (1, .e (.c (.fn 48 []))), (5, uV k), (7, uV n), (8, uV k)] trivial ?_
  rcases kb4 (nxB (vK bs k) (vH bs k) (uM bs k) (kW bs k) (aG bs k) (yW bs k)) with hx7 | hx7
  ·obtain ⟨hx8, hx9, hx10, hx11, hx12⟩ := BsW.at (kQ : BsW bs) (k)
   refine kI [.no, .no, .no, .n k, .ds (lV bs k), .call [] (bV true) [] 0 [] none] ((kN (k : Int)) ∧ (k < n) ∧ (ka2 4 (ka7 (k * 4) (kR bs)) = (lV bs k)) ∧ (((lV bs k) : List D).length = 4) ∧ (Fun 48 [(q1A bs k)] (kF []) 0 (bV true) (kF []) 0)) [(0, .e (uX bs n)), (1, .e (.c (.fn 48 []))), (5, uV k), (7, uV n), (8, uV k), (16, bV true)] [] 0 ⟨rfl, zo, (mL j5), rfl, (by have h0 := (wO (vK bs k) (vH bs k) (uM bs k) (kW bs k) (ka1 (kW bs k)) (aG bs k) (yW bs k) yM yM rfl yM yM yM (i4 (kQ : BsW bs) _)); rw [hx7] at h0; exact h0)⟩ ?_
   refine zt ?_
   refine k8 [.no, .no] True [(4, uV k)] trivial ?_
   refine AW.ret ?_
   exact kC (.inr rfl) [] (P := (((sZ bs n) : Int) = (k : Int))) zk (by first | rfl | exact k9s hi (by assumption) zo | (rw [show n = k by omega]; exact hi) | omega)
  ·obtain ⟨hx13, hx14, hx15, hx16, hx17⟩ := BsW.at (kQ : BsW bs) (k)
   refine kI [.no, .no, .no, .n k, .ds (lV bs k), .call [] (bV false) [] 0 [] none] ((kN (k : Int)) ∧ (k < n) ∧ (ka2 4 (ka7 (k * 4) (kR bs)) = (lV bs k)) ∧ (((lV bs k) : List D).length = 4) ∧ (Fun 48 [(q1A bs k)] (kF []) 0 (bV false) (kF []) 0)) [(0, .e (uX bs n)), (1, .e (.c (.fn 48 []))), (5, uV k), (7, uV n), (8, uV k), (16, bV false)] [] 0 ⟨rfl, zo, (mL j5), rfl, (by have h0 := (wO (vK bs k) (vH bs k) (uM bs k) (kW bs k) (ka1 (kW bs k)) (aG bs k) (yW bs k) yM yM rfl yM yM yM (i4 (kQ : BsW bs) _)); rw [hx7] at h0; exact h0)⟩ ?_
   refine yC ?_
   refine yD [.w, .no] (qJ ((k : Int) + 1)) [(0, .e (uX bs n)), (1, .e (.c (.fn 48 []))), (7, uV n), (8, iV (↑k + 1))] ⟨by omega, by omega⟩ ?_
   exact qE ⟨((k + 1) : Nat), ⟨hJ, (u47 hi (by assumption))⟩⟩ [] (P := (kZ (kR bs)) ∧ (kP n) ∧ (kN (n : Int)) ∧ (((((k + 1) : Nat) : Int) : Int) = ((k : Int) + 1))) zk ⟨rfl, rfl, rfl, (by first | rfl | omega | assumption | (simp; done) | (simp; omega))⟩ (show n - (k + 1) < n - k from (by first | omega | (show _ < _; simp; omega)))
 ·refine kI [.b false] (¬ ((k : Int) < (n : Int))) [(0, .e (uX bs n)), (1, .e (.c (.fn 48 []))), (7, uV n), (8, uV k), (9, bV false)] [] 0 zo ?_
  refine AW.seq ?_
  refine zf ?_
  refine AW.exit ?_
  refine kI [.no] True [(4, iV (-1))] [] 0 trivial ?_
  refine AW.ret ?_
  exact kC (.inr rfl) [] (P := (((sZ bs n) : Int) = (-1))) zk (by first | rfl | exact k9s hi (by assumption) zo | (rw [show n = k by omega]; exact hi) | omega)
theorem u0x (bs : List Bx) (n : Nat) (hn : ka1 bs = n) (h1 : n ≤ 1000000) (hW : BsW bs) : Fun 47 [.c (.d (D.sl (kR bs) n)), .c (.fn 48 [])] (kF []) 0 (kS (D.lit (.bool (naB bs n)))) (kF []) 0 := by
 refine Fun.mk (n := 9) Try.func47 rfl rfl (ka4 rfl) ?_
 intro cx hcx
 refine kI [.no] True [(0, .e (uX bs n)), (1, .e (.c (.fn 48 [])))] [] 0 trivial ?_
 by_cases hx1 : ((0 : Int) ≤ (sZ bs n))
 ·refine k8 [.no, .no, .call [] (iV (sZ bs n)) [] 0 [] none, .b true, .no] ((_) ∧ (((0 : Int) ≤ (sZ bs n)))) [(4, bV true)] ⟨(u0u bs n zo zo (kQ : BsW bs)), zo⟩ ?_
  refine AW.ret ?_
  exact kC (.inr rfl) [] (P := ((naB bs n) = true)) zk (by first | exact decide_eq_true zo | exact decide_eq_false zo)
 ·refine k8 [.no, .no, .call [] (iV (sZ bs n)) [] 0 [] none, .b false, .no] ((_) ∧ (¬ ((0 : Int) ≤ (sZ bs n)))) [(4, bV false)] ⟨(u0u bs n zo zo (kQ : BsW bs)), zo⟩ ?_
  refine AW.ret ?_
  exact kC (.inr rfl) [] (P := ((naB bs n) = false)) zk (by first | exact decide_eq_true zo | exact decide_eq_false zo)
theorem j3 (bs : List Bx) (n : Nat) (hn : ka1 bs = n) (h1 : n ≤ 1000000) (hW : BsW bs) : Fun 32 [.c (.d (D.sl (kR bs) n))] (kF []) 0 (kS (D.lit (.bool (iI bs)))) (kF []) 0 := by
 refine Fun.mk (n := 11) Try.func32 rfl rfl (ka4 rfl) ?_
 intro cx hcx
 refine kI [.no] True [(0, .e (uX bs n))] [] 0 trivial ?_
 by_cases hx1 : (((n : Nat) : Int) ≤ 64)
 ·rcases kb4 (naB bs n) with hx2 | hx2
  ·refine k8 [.no, .no, .b true, .no, .no, .call [] (bV true) [] 0 [] none, .no, .no, .no] ((((n : Int) ≤ 64)) ∧ (Fun 47 [.c (.d (D.sl (kR bs) n)), .c (.fn 48 [])] (kF []) 0 (bV true) (kF []) 0)) [(2, bV false)] ⟨zo, (by have h0 := (u0x bs n zo zo (kQ : BsW bs)); rw [hx2] at h0; exact h0)⟩ ?_
   refine AW.ret ?_
   exact kC (.inr rfl) [] (P := ((iI bs) = false)) zk (by first | exact k14 zo | exact u1y hn (by assumption) | exact u1x hn zo (by assumption))
  ·refine k8 [.no, .no, .b true, .no, .no, .call [] (bV false) [] 0 [] none, .no, .no, .no] ((((n : Int) ≤ 64)) ∧ (Fun 47 [.c (.d (D.sl (kR bs) n)), .c (.fn 48 [])] (kF []) 0 (bV false) (kF []) 0)) [(2, bV true)] ⟨zo, (by have h0 := (u0x bs n zo zo (kQ : BsW bs)); rw [hx2] at h0; exact h0)⟩ ?_
   refine AW.ret ?_
   exact kC (.inr rfl) [] (P := ((iI bs) = true)) zk (by first | exact k14 zo | exact u1y hn (by assumption) | exact u1x hn zo (by assumption))
 ·refine k8 [.no, .no, .b false, .no, .no, .no] (¬ ((n : Int) ≤ 64)) [(2, bV false)] zo ?_
  refine AW.ret ?_
  exact kC (.inr rfl) [] (P := ((iI bs) = false)) zk (by first | exact k14 zo | exact u1y hn (by assumption) | exact u1x hn zo (by assumption))
end Go.Proofs.Ytdbjebdomdnbkaa
