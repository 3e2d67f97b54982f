/- Boxes of the code. No statement is proved here. -/
import Derived.Test.YtdbjebdomdnbkaaGreatZL10D
namespace Go.Proofs.YtdbjebdomdnbkaaGreat
open Go.ChangeShapes Go.WideShapes Go.ChangeAt Go.RowKit
open Bool renaming eq_false_or_eq_true → kb0
open List renaming drop → ka5, getD → ka0, length → ka1, length_append → ka4, length_cons → kb3, length_drop → kb9, length_nil → kb6, length_replicate → kb8, length_set → kc4, length_take → kb4, take → ka2
open Nat renaming le_of_ble_eq_true → ka3, lt_succ_self → kj8, not_lt_zero → kd5
set_option linter.unusedVariables false
set_option linter.unusedSimpArgs false
/-! chapter 10: the code's lists of boxes -/
set_option maxHeartbeats 4000000
set_option maxRecDepth 100000
def xO (p : Nat → Bool) : Nat → Int
 | 0 => -1
 | k + 1 => if 0 ≤ xO p k then xO p k else if p k = true then (k : Int) else -1
theorem pM {p : Nat → Bool} {k : Nat} (h : xO p k = -1) (h2 : p k = false) : xO p (k + 1) = -1 := by
 show (if 0 ≤ xO p k then _ else _) = _
 rw [if_neg (by omega), if_neg (by rw [h2]; decide)]
theorem pN {p : Nat → Bool} {k : Nat} (h : xO p k = -1) (h2 : p k = true) : ∀ n, k < n → xO p n = (k : Int)
 | 0, h3 => absurd h3 (kd5 k)
 | n + 1, h3 => by
  show (if 0 ≤ xO p n then _ else _) = _
  by_cases e : k = n
  ·subst e; rw [if_neg (by omega), if_pos h2]
  ·have h4 := pN h h2 n (by omega)
   rw [if_pos (by omega), h4]
theorem pL (p : Nat → Bool) : ∀ n, (xO p n = -1 ∧ ∀ j, j < n → p j = false) ∨ ∃ k, k < n ∧ xO p n = (k : Int) ∧ p k = true
 | 0 => .inl ⟨rfl, fun j h => absurd h (kd5 j)⟩
 | n + 1 => by
  rcases pL p n with ⟨h1, h2⟩ | ⟨k, hk, h1, h2⟩
  ·cases e : p n with
   | false => exact .inl ⟨pM h1 e, fun j hj => (Nat.lt_succ_iff_lt_or_eq.1 hj).elim (h2 j) fun e9 => e9 ▸ e⟩
   | true => exact .inr ⟨n, kj8 n, pN h1 e _ (kj8 n), e⟩
  ·refine .inr ⟨k, by omega, ?_, h2⟩
   show (if 0 ≤ xO p n then _ else _) = _
   rw [if_pos (by omega)]; exact h1
theorem u0q {p : Nat → Bool} {n : Nat} (h : 0 ≤ xO p n) : ∃ k, k < n ∧ p k = true := by
 rcases pL p n with ⟨h1, _⟩ | ⟨k, hk, _, h2⟩
 ·omega
 ·exact ⟨k, hk, h2⟩
theorem k48 {p : Nat → Bool} {n : Nat} (h : ¬ 0 ≤ xO p n) : ∀ j, j < n → p j = false := by
 rcases pL p n with ⟨_, h2⟩ | ⟨k, hk, h1, _⟩
 ·exact h2
 ·omega
def wF (ms : List (List Int)) (m : List Int) : Nat → Int := xO fun j => cS (ka0 ms j []) m
theorem u6g {ms : List (List Int)} {m : List Int} {c : Nat} (hc : ms.length = c) (h : 0 ≤ wF ms m c) : nI ms m = true := by
 obtain ⟨k, hk, h1⟩ := u0q h
 exact u6e (k := k) (by omega) h1
theorem u6j {ms : List (List Int)} {m : List Int} {c : Nat} (hc : ms.length = c) (h : ¬ 0 ≤ wF ms m c) : nI ms m = false :=
 u6f fun j hj => k48 h j (by omega)
def rW (bs : List Bx) : Nat → Int := xO fun j => !(vbE bs j)
theorem u4n {bs : List Bx} {n : Nat} (hn : bs.length = n) (h : 0 ≤ rW bs n) : iP bs = false := by
 obtain ⟨k, hk, h1⟩ := u0q h
 exact u4m (k := k) (by omega) (by simpa using h1)
theorem u4q {bs : List Bx} {n : Nat} (hn : bs.length = n) (h2 : n ≤ 64) (h : ¬ 0 ≤ rW bs n) : iP bs = true :=
 u1p (by omega) fun j hj => by
  have h3 := k48 h j (by omega)
  simpa using h3
theorem u6h {ms : List (List Int)} {m : List Int} {k : Nat} (h : wF ms m k = -1) (h2 : cS (ka0 ms k []) m = false) : wF ms m (k + 1) = -1 := pM h h2
theorem u6i {ms : List (List Int)} {m : List Int} {k : Nat} (h : wF ms m k = -1) (h2 : cS (ka0 ms k []) m = true) {n : Nat} (hn : k < n) : wF ms m n = (k : Int) := pN h h2 n hn
def nxB (k : Int) (r : List Int) (rn : Nat) (m : List (List Int)) (s : List Int) (sn : Nat) : Bool := !(dH k r rn m s sn)
theorem u8k {k : Int} {r : List Int} {rn : Nat} {m : List (List Int)} {s : List Int} {sn : Nat} (h : dH k r rn m s sn = false) : nxB k r rn m s sn = true := by unfold nxB; rw [h]; rfl
theorem u8l {k : Int} {r : List Int} {rn : Nat} {m : List (List Int)} {s : List Int} {sn : Nat} (h : dH k r rn m s sn = true) : nxB k r rn m s sn = false := by unfold nxB; rw [h]; rfl
theorem u4o {bs : List Bx} {k : Nat} (h : rW bs k = -1) (h2 : nxB (vU bs k) (aE bs k) (yJ bs k) (qD bs k) (cH bs k) (aA bs k) = false) : rW bs (k + 1) = -1 := pM h h2
theorem u4p {bs : List Bx} {k : Nat} (h : rW bs k = -1) (h2 : nxB (vU bs k) (aE bs k) (yJ bs k) (qD bs k) (cH bs k) (aA bs k) = true) {n : Nat} (hn : k < n) : rW bs n = (k : Int) := pN h h2 n hn
def naB (bs : List Bx) (n : Nat) : Bool := decide (0 ≤ rW bs n)
theorem u8n {bs : List Bx} {n : Nat} (hn : bs.length = n) (h : naB bs n = true) : iP bs = false := u4n hn (of_decide_eq_true h)
theorem u8m {bs : List Bx} {n : Nat} (hn : bs.length = n) (h2 : n ≤ 64) (h : naB bs n = false) : iP bs = true := u4q hn h2 (of_decide_eq_false h)
theorem k6t (w a : List Int) (o n : Nat) (ho : ka1 w = o) (hn : ka1 a = n) (h1 : o ≤ 1000000) (h2 : n ≤ 1000000) : Fun 105 [.c (.d (D.sl (dI .i64 a) n)), .c (.ptr 0 0)] (kD [(0, some (55, .ds [D.sl (dI .i64 w) o]))]) 1 (kP (D.lit (.bool (cS a w)))) (kD [(0, some (55, .ds [D.sl (dI .i64 w) o]))]) 1 := by
 refine Fun.mk (n := 7) Tryz.func105 rfl rfl (ka3 rfl) ?_
 intro cx hcx
 refine kG [.no] True [(0, sV .i64 a n), (1, rV 0 0)] [(0, some (55, .ds [dl w o]))] 1 trivial ?_
 refine kV [.no, .no, .call [] (kP (D.lit (.bool (cS a w)))) [] 0 [] none, .no] _ [(3, kP (D.lit (.bool (cS a w))))] (u3s a w n o zo zo zo zo) ?_
 refine AW.ret ?_
 exact kB (.inr rfl) [] (P := ((cS a w) = (cS a w)) ∧ (kY [dl w o])) zk ⟨rfl, rfl⟩
theorem u1a (ms : List (List Int)) (c : Nat) (w : List Int) (o : Nat) (hc : ka1 ms = c) (ho : ka1 w = o) (h1 : c ≤ 1000000) (h2 : o ≤ 1000000) (hW : MsW ms) : Fun 108 [.c (.d (D.sl (kW ms) c)), .c (.fn 105 [(0, 0)])] (kD [(0, some (55, .ds [D.sl (dI .i64 w) o]))]) 1 (iV (wF ms w c)) (kD [(0, some (55, .ds [D.sl (dI .i64 w) o]))]) 1 := by
 refine Fun.mk (n := 19) Tryz.func108 rfl rfl (ka3 rfl) ?_
 intro cx hcx
 refine kG [.no] True [(0, qX (kW ms) c), (1, .e (.c (.fn 105 [(0, 0)])))] [(0, some (55, .ds [dl w o]))] 1 trivial ?_
 refine AW.seq ?_
 refine kV [.no, .no, .no] True [(0, qX (kW ms) c), (1, .e (.c (.fn 105 [(0, 0)]))), (7, uV c), (8, iV 0)] trivial ?_
 refine AW.block ?_
 refine kU 1 hcx (fun (x : {x : Nat // match x with | k => (k ≤ c) ∧ (wF ms w k = -1)}) => match x with | ⟨k, _⟩ => (⟨[(0, qX (kW ms) c), (1, .e (.c (.fn 105 [(0, 0)]))), (7, uV c), (8, uV k)], [(0, some (55, .ds [dl w o]))], 1⟩ : ES)) (fun x => match x with | ⟨k, _⟩ => c - k) ⟨(0 : Nat), ⟨zo, rfl⟩⟩ [] (P := (kY (kW ms)) ∧ (kQ c) ∧ (kM (c : Int)) ∧ (kM 0) ∧ (kY [dl w o])) zk ⟨rfl, rfl, rfl, rfl, rfl⟩ ?_
 rintro ⟨k, hinv0⟩
 obtain ⟨hk, hi⟩ : (k ≤ c) ∧ (wF ms w k = -1) := hinv0
 refine qV (l := [(0, qX (kW ms) c), (1, .e (.c (.fn 105 [(0, 0)]))), (7, uV c), (8, uV k)]) (g := [(0, some (55, .ds [dl w o]))]) (nx := 1) rfl rfl rfl ?_
 by_cases hx1 : (((k : Nat) : Int) < ((c : Nat) : Int))
 ·refine kG [.b true] (((k : Int) < (c : Int))) [(0, qX (kW ms) c), (1, .e (.c (.fn 105 [(0, 0)]))), (7, uV c), (8, uV k), (9, bV true)] [(0, some (55, .ds [dl w o]))] 1 zo ?_
  refine AW.seq ?_
  refine u1 ?_
  refine AW.seq ?_
  refine AW.block ?_
  refine kV [.no, .no] True [(0, qX (kW ms) c), (1, .e (.c (.fn 105 [(0, 0)]))), (5, uV k), (7, uV c), (8, uV k)] trivial ?_
  rcases kb0 (cS (ka0 ms k ([] : List Int)) w) with hx3 | hx3
  ·have hx4 : ((ka1 (ka0 ms k ([] : List Int))) ≤ 1000000) := MsW.at (kL : MsW ms) _
   refine kV [.no, .no, .no, .n k, .d (dl (ka0 ms k ([] : List Int)) (ka1 (ka0 ms k ([] : List Int)))), .call [0] (bV true) [(0, some (55, .ds [dl w o]))] 1 [] none] ((kM (k : Int)) ∧ (k < c) ∧ ((ka5 k (kW ms))[0]? = some (dl (ka0 ms k ([] : List Int)) (ka1 (ka0 ms k ([] : List Int))))) ∧ (Fun 105 [.c (.d (dl (ka0 ms k ([] : List Int)) (ka1 (ka0 ms k ([] : List Int))))), .c (.ptr 0 0)] (kD [(0, some (55, .ds [dl w o]))]) 1 (bV true) (kD [(0, some (55, .ds [dl w o]))]) 1)) [(0, qX (kW ms) c), (1, .e (.c (.fn 105 [(0, 0)]))), (5, uV k), (7, uV c), (8, uV k), (16, bV true)] ⟨rfl, zo, (aF _ _ zo), (by have h0 := (k6t w (ka0 ms k ([] : List Int)) o (ka1 (ka0 ms k ([] : List Int))) zo rfl zo zo); rw [hx3] at h0; exact h0)⟩ ?_
   refine zt ?_
   refine kV [.no, .no] True [(4, uV k)] trivial ?_
   refine AW.ret ?_
   exact kB (.inr rfl) [] (P := (((wF ms w c) : Int) = (k : Int)) ∧ (kY [dl w o])) zk ⟨(by exact u6i hi (by assumption) zo), rfl⟩
  ·have hx5 : ((ka1 (ka0 ms k ([] : List Int))) ≤ 1000000) := MsW.at (kL : MsW ms) _
   refine kV [.no, .no, .no, .n k, .d (dl (ka0 ms k ([] : List Int)) (ka1 (ka0 ms k ([] : List Int)))), .call [0] (bV false) [(0, some (55, .ds [dl w o]))] 1 [] none] ((kM (k : Int)) ∧ (k < c) ∧ ((ka5 k (kW ms))[0]? = some (dl (ka0 ms k ([] : List Int)) (ka1 (ka0 ms k ([] : List Int))))) ∧ (Fun 105 [.c (.d (dl (ka0 ms k ([] : List Int)) (ka1 (ka0 ms k ([] : List Int))))), .c (.ptr 0 0)] (kD [(0, some (55, .ds [dl w o]))]) 1 (bV false) (kD [(0, some (55, .ds [dl w o]))]) 1)) [(0, qX (kW ms) c), (1, .e (.c (.fn 105 [(0, 0)]))), (5, uV k), (7, uV c), (8, uV k), (16, bV false)] ⟨rfl, zo, (aF _ _ zo), (by have h0 := (k6t w (ka0 ms k ([] : List Int)) o (ka1 (ka0 ms k ([] : List Int))) zo rfl zo zo); rw [hx3] at h0; exact h0)⟩ ?_
   refine uM ?_
   refine uG [.w, .no] (qB ((k : Int) + 1)) [(0, qX (kW ms) c), (1, .e (.c (.fn 105 [(0, 0)]))), (7, uV c), (8, iV (↑k + 1))] ⟨by omega, by omega⟩ ?_
   exact qH ⟨((k + 1) : Nat), ⟨zo, (u6h hi (by assumption))⟩⟩ [] (P := (kY (kW ms)) ∧ (kQ c) ∧ (kM (c : Int)) ∧ (((((k + 1) : Nat) : Int) : Int) = ((k : Int) + 1)) ∧ (kY [dl w o])) zk ⟨rfl, rfl, rfl, (by rfl), rfl⟩ (show c - (k + 1) < c - k from zo)
 ·refine kG [.b false] (¬ ((k : Int) < (c : Int))) [(0, qX (kW ms) c), (1, .e (.c (.fn 105 [(0, 0)]))), (7, uV c), (8, uV k), (9, bV false)] [(0, some (55, .ds [dl w o]))] 1 zo ?_
  refine AW.seq ?_
  refine zf ?_
  refine AW.exit ?_
  refine kG [.no] True [(4, iV (-1))] [(0, some (55, .ds [dl w o]))] 1 trivial ?_
  refine AW.ret ?_
  exact kB (.inr rfl) [] (P := (((wF ms w c) : Int) = (-1)) ∧ (kY [dl w o])) zk ⟨(by (rw [show c = k by omega]; exact hi)), rfl⟩
theorem u7b (ms : List (List Int)) (c : Nat) (w : List Int) (o : Nat) (hc : ka1 ms = c) (ho : ka1 w = o) (h1 : c ≤ 1000000) (h2 : o ≤ 1000000) (hW : MsW ms) : Fun 104 [.c (.d (D.sl (kW ms) c)), .c (.fn 105 [(0, 0)])] (kD [(0, some (55, .ds [D.sl (dI .i64 w) o]))]) 1 (kP (D.lit (.bool (nI ms w)))) (kD [(0, some (55, .ds [D.sl (dI .i64 w) o]))]) 1 := by
 refine Fun.mk (n := 9) Tryz.func104 rfl rfl (ka3 rfl) ?_
 intro cx hcx
 refine kG [.no] True [(0, qX (kW ms) c), (1, .e (.c (.fn 105 [(0, 0)])))] [(0, some (55, .ds [dl w o]))] 1 trivial ?_
 by_cases hx1 : ((0 : Int) ≤ (wF ms w c))
 ·refine kV [.no, .no, .call [0] (iV (wF ms w c)) [(0, some (55, .ds [dl w o]))] 1 [] none, .b true, .no] ((_) ∧ (((0 : Int) ≤ (wF ms w c)))) [(4, bV true)] ⟨(u1a ms c w o zo zo zo zo (kL : MsW ms)), zo⟩ ?_
  refine AW.ret ?_
  exact kB (.inr rfl) [] (P := ((nI ms w) = true) ∧ (kY [dl w o])) zk ⟨(by exact u6g hc zo), rfl⟩
 ·refine kV [.no, .no, .call [0] (iV (wF ms w c)) [(0, some (55, .ds [dl w o]))] 1 [] none, .b false, .no] ((_) ∧ (¬ ((0 : Int) ≤ (wF ms w c)))) [(4, bV false)] ⟨(u1a ms c w o zo zo zo zo (kL : MsW ms)), zo⟩ ?_
  refine AW.ret ?_
  exact kB (.inr rfl) [] (P := ((nI ms w) = false) ∧ (kY [dl w o])) zk ⟨(by exact u6j hc zo), rfl⟩
theorem u1b (ms : List (List Int)) (c : Nat) (w : List Int) (o : Nat) (hc : ka1 ms = c) (ho : ka1 w = o) (h1 : c ≤ 1000000) (h2 : o ≤ 1000000) (hW : MsW ms) : Fun 97 [.c (.d (D.sl (kW ms) c)), .c (.d (D.sl (dI .i64 w) o))] (kD []) 0 (kP (D.lit (.bool (nI ms w)))) (kD []) 0 := by
 refine Fun.mk (n := 8) Tryz.func97 rfl rfl (ka3 rfl) ?_
 intro cx hcx
 refine kG [.no, .no] True [(0, qX (kW ms) c), (3, rV 0 0)] [(0, some (55, .ds [dl w o]))] 1 trivial ?_
 refine kG [.no, .no, .call [0] (kP (D.lit (.bool (nI ms w)))) [(0, some (55, .ds [dl w o]))] 1 [] none, .no] _ [(4, kP (D.lit (.bool (nI ms w))))] [] 1 (u7b ms c w o zo zo zo zo (kL : MsW ms)) ?_
 refine AW.ret ?_
 exact kB (.inr rfl) [] (P := ((nI ms w) = (nI ms w))) zk rfl
theorem rH (m : List (List Int)) (c : Nat) (hc : ka1 m = c) (h1 : c ≤ 1000000) (hW : MsW m) : Fun 85 [.c (.d (D.sl (kW m) c))] (kD []) 0 (kP (D.lit (.bool (rP m)))) (kD []) 0 := by
 refine Fun.mk (n := 31) Tryz.func85 rfl rfl (ka3 rfl) ?_
 intro cx hcx
 refine kG [.no] True [(0, qX (kW m) c)] [] 0 trivial ?_
 refine AW.seq ?_
 by_cases hx1 : (((c : Nat) : Int) < 1)
 ·refine kV [.no, .no, .b true, .no, .no] (((c : Int) < 1)) [(0, qX (kW m) c), (12, bV true)] zo ?_
  refine zt ?_
  refine kV [.no] True [(2, bV false)] trivial ?_
  refine AW.ret ?_
  exact kB (.inr rfl) [] (P := ((rP m) = false)) zk (by exact k78 zo)
 ·by_cases hx2 : ((16 : Int) < ((c : Nat) : Int))
  ·refine kV [.no, .no, .b false, .no, .no, .no, .b true, .no] ((¬ ((c : Int) < 1)) ∧ (((16 : Int) < (c : Int)))) [(0, qX (kW m) c), (12, bV true)] ⟨zo, zo⟩ ?_
   refine zt ?_
   refine kV [.no] True [(2, bV false)] trivial ?_
   refine AW.ret ?_
   exact kB (.inr rfl) [] (P := ((rP m) = false)) zk (by exact k78 zo)
  ·refine kV [.no, .no, .b false, .no, .no, .no, .b false, .no] ((¬ ((c : Int) < 1)) ∧ (¬ ((16 : Int) < (c : Int)))) [(0, qX (kW m) c), (12, bV false)] ⟨zo, zo⟩ ?_
   refine uM ?_
   refine AW.seq ?_
   refine kV [.no, .no, .no] True [(0, qX (kW m) c), (13, qX (kW m) c), (14, uV c), (15, iV 0)] trivial ?_
   refine AW.block ?_
   refine kU 0 hcx (fun (x : {x : Nat // match x with | i => (i ≤ c) ∧ (∀ j, j < i → zD m j = true)}) => match x with | ⟨i, _⟩ => (⟨[(0, qX (kW m) c), (13, qX (kW m) c), (14, uV c), (15, uV i)], [], 0⟩ : ES)) (fun x => match x with | ⟨i, _⟩ => c - i) ⟨(0 : Nat), ⟨zo, (fun j hj => absurd hj (kd5 j))⟩⟩ [] (P := (kY (kW m)) ∧ (kQ c) ∧ (kY (kW m)) ∧ (kQ c) ∧ (kM (c : Int)) ∧ (kM 0)) zk ⟨rfl, rfl, rfl, rfl, rfl, rfl⟩ ?_
   rintro ⟨i, hinv0⟩
   obtain ⟨hi, ha⟩ : (i ≤ c) ∧ (∀ j, j < i → zD m j = true) := hinv0
   refine qV (l := [(0, qX (kW m) c), (13, qX (kW m) c), (14, uV c), (15, uV i)]) (g := []) (nx := 0) rfl rfl rfl ?_
   by_cases hx3 : (((i : Nat) : Int) < ((c : Nat) : Int))
   ·refine kG [.b true] (((i : Int) < (c : Int))) [(0, qX (kW m) c), (13, qX (kW m) c), (14, uV c), (15, uV i), (16, bV true)] [] 0 zo ?_
    refine AW.seq ?_
    refine u1 ?_
    refine AW.seq ?_
    refine AW.block ?_
    have hx4 : ((ka1 (ka0 m i ([] : List Int))) ≤ 1000000) := MsW.at (kL : MsW m) _
    refine kV [.no, .n i, .d (dl (ka0 m i ([] : List Int)) (ka1 (ka0 m i ([] : List Int)))), .no, .no] ((kM (i : Int)) ∧ (i < c) ∧ ((ka5 i (kW m))[0]? = some (dl (ka0 m i ([] : List Int)) (ka1 (ka0 m i ([] : List Int)))))) [(0, qX (kW m) c), (3, uV i), (4, sV .i64 (ka0 m i ([] : List Int)) (ka1 (ka0 m i ([] : List Int)))), (13, qX (kW m) c), (14, uV c), (15, uV i)] ⟨rfl, zo, (aF _ _ zo)⟩ ?_
    rcases kb0 (fG (ka0 m i ([] : List Int)) (ka1 (ka0 m i ([] : List Int)))) with hx5 | hx5
    ·rcases kb0 (nI (ka2 i m) (ka0 m i ([] : List Int))) with hx6 | hx6
     ·refine kV (.no :: .call [] (bV true) [] 0 [] none :: kJ 4 [.sls 0 i i (kW (ka2 i m)), .no, .call [] (bV true) [] 0 [] none, .no]) ((Fun 96 [.c (.d (dl (ka0 m i ([] : List Int)) (ka1 (ka0 m i ([] : List Int)))))] (kD []) 0 (bV true) (kD []) 0) ∧ (kQ 0) ∧ (kM (i : Int)) ∧ ((0 : Nat) ≤ i) ∧ (i ≤ c) ∧ (i - 0 = i) ∧ (ka2 (i * 1) (ka5 (0 * 1) (kW m)) = (kW (ka2 i m))) ∧ (Fun 97 [.c (.d (D.sl (kW (ka2 i m)) i)), .c (.d (dl (ka0 m i ([] : List Int)) (ka1 (ka0 m i ([] : List Int)))))] (kD []) 0 (bV true) (kD []) 0)) [(0, qX (kW m) c), (13, qX (kW m) c), (14, uV c), (15, uV i), (29, bV true)] ⟨(by have h0 := (rE (ka0 m i ([] : List Int)) (ka1 (ka0 m i ([] : List Int))) rfl zo); rw [hx5] at h0; exact h0), rfl, rfl, zo, zo, zo, (fN _ _), (by have h0 := (u1b (ka2 i m) i (ka0 m i ([] : List Int)) (ka1 (ka0 m i ([] : List Int))) (by (simp only [qA, k8, ka4, kb3, kb6, kb4, kb9, kb8, kc4] <;> omega)) rfl zo zo (MsW.take (kL : MsW m) _)); rw [hx6] at h0; exact h0)⟩ ?_
      refine zt ?_
      refine kV [.no] True [(2, bV false)] trivial ?_
      refine AW.ret ?_
      exact kB (.inr rfl) [] (P := ((rP m) = false)) zk (by exact k79 (k := i) zo (by exact k9r (by assumption)))
     ·refine kV (.no :: .call [] (bV true) [] 0 [] none :: kJ 4 [.sls 0 i i (kW (ka2 i m)), .no, .call [] (bV false) [] 0 [] none, .no]) ((Fun 96 [.c (.d (dl (ka0 m i ([] : List Int)) (ka1 (ka0 m i ([] : List Int)))))] (kD []) 0 (bV true) (kD []) 0) ∧ (kQ 0) ∧ (kM (i : Int)) ∧ ((0 : Nat) ≤ i) ∧ (i ≤ c) ∧ (i - 0 = i) ∧ (ka2 (i * 1) (ka5 (0 * 1) (kW m)) = (kW (ka2 i m))) ∧ (Fun 97 [.c (.d (D.sl (kW (ka2 i m)) i)), .c (.d (dl (ka0 m i ([] : List Int)) (ka1 (ka0 m i ([] : List Int)))))] (kD []) 0 (bV false) (kD []) 0)) [(0, qX (kW m) c), (13, qX (kW m) c), (14, uV c), (15, uV i), (29, bV false)] ⟨(by have h0 := (rE (ka0 m i ([] : List Int)) (ka1 (ka0 m i ([] : List Int))) rfl zo); rw [hx5] at h0; exact h0), rfl, rfl, zo, zo, zo, (fN _ _), (by have h0 := (u1b (ka2 i m) i (ka0 m i ([] : List Int)) (ka1 (ka0 m i ([] : List Int))) (by (simp only [qA, k8, ka4, kb3, kb6, kb4, kb9, kb8, kc4] <;> omega)) rfl zo zo (MsW.take (kL : MsW m) _)); rw [hx6] at h0; exact h0)⟩ ?_
      refine uM ?_
      refine uG [.w, .no] (qB ((i : Int) + 1)) [(0, qX (kW m) c), (13, qX (kW m) c), (14, uV c), (15, iV (↑i + 1))] ⟨by omega, by omega⟩ ?_
      exact qH ⟨((i + 1) : Nat), ⟨zo, (fun j hj => (Nat.lt_succ_iff_lt_or_eq.1 hj).elim (ha j) (fun e9 => by subst e9; exact k23 (by assumption) (by assumption)))⟩⟩ [] (P := (kY (kW m)) ∧ (kQ c) ∧ (kY (kW m)) ∧ (kQ c) ∧ (kM (c : Int)) ∧ (((((i + 1) : Nat) : Int) : Int) = ((i : Int) + 1))) zk ⟨rfl, rfl, rfl, rfl, rfl, (by rfl)⟩ (show c - (i + 1) < c - i from zo)
    ·refine kV [.no, .call [] (bV false) [] 0 [] none, .no, .no, .no] (Fun 96 [.c (.d (dl (ka0 m i ([] : List Int)) (ka1 (ka0 m i ([] : List Int)))))] (kD []) 0 (bV false) (kD []) 0) [(0, qX (kW m) c), (13, qX (kW m) c), (14, uV c), (15, uV i), (29, bV true)] (by have h0 := (rE (ka0 m i ([] : List Int)) (ka1 (ka0 m i ([] : List Int))) rfl zo); rw [hx5] at h0; exact h0) ?_
     refine zt ?_
     refine kV [.no] True [(2, bV false)] trivial ?_
     refine AW.ret ?_
     exact kB (.inr rfl) [] (P := ((rP m) = false)) zk (by exact k79 (k := i) zo (by exact k9s (by assumption)))
   ·refine kG [.b false] (¬ ((i : Int) < (c : Int))) [(0, qX (kW m) c), (13, qX (kW m) c), (14, uV c), (15, uV i), (16, bV false)] [] 0 zo ?_
    refine AW.seq ?_
    refine zf ?_
    refine AW.exit ?_
    refine kG [.no] True [(2, bV true)] [] 0 trivial ?_
    refine AW.ret ?_
    exact kB (.inr rfl) [] (P := ((rP m) = true)) zk (by exact u1o zo zo (fun j hj => ha j zo))
theorem k6s (k : Int) (r : List Int) (rn : Nat) (m : List (List Int)) (c : Nat) (s : List Int) (sn : Nat) (hr : ka1 r = rn * 2) (hs : ka1 s = sn * 2) (hc : ka1 m = c) (h1 : rn ≤ 1000000) (h2 : sn ≤ 1000000) (h3 : c ≤ 1000000) (hW : MsW m) : Fun 69 [.agg [iC k, .d (D.sl (dI .i64 r) rn), .d (D.sl (kW m) c), .d (D.sl (dI .i64 s) sn)]] (kD []) 0 (kP (D.lit (.bool (dH k r rn m s sn)))) (kD []) 0 := by
 refine Fun.mk (n := 27) Tryz.func69 rfl rfl (ka3 rfl) ?_
 intro cx hcx
 refine kG [.no, .no] True [(1, rV 0 0)] [(0, some (53, .ds [iD k, dl r rn, D.sl (kW m) c, dl s sn]))] 1 trivial ?_
 by_cases hx1 : (k ≠ 0)
 ·by_cases hx2 : ((dW k) = 0)
  ·rcases kb0 (d8 r rn 1000 768000) with hx3 | hx3
   ·rcases kb0 (rP m) with hx4 | hx4
    ·rcases kb0 (d8 s sn 1 65536) with hx5 | hx5
     ·refine kG (.no :: .no :: .b true :: .no :: .no :: .no :: .i (dW k) :: .b true :: kJ 4 (.call [] (bV true) [] 0 [] none :: kJ 4 (.call [] (bV true) [] 0 [] none :: kJ 4 [.call [] (bV true) [] 0 [] none, .no, .no]))) (((k ≠ 0)) ∧ (qJ .andNot .i64 k 254 = (dW k)) ∧ (((dW k) = 0)) ∧ (Fun 84 [.agg [.d (dl r rn)], iE 1000, iE 768000] (kD []) 0 (bV true) (kD []) 0) ∧ (Fun 85 [.c (.d (D.sl (kW m) c))] (kD []) 0 (bV true) (kD []) 0) ∧ (Fun 84 [.agg [.d (dl s sn)], iE 1, iE 65536] (kD []) 0 (bV true) (kD []) 0)) [(2, bV true)] [] 1 ⟨zo, rfl, zo, (by have h0 := (iF r rn 1000 768000 zo zo); rw [hx3] at h0; exact h0), (by have h0 := (rH m c zo zo (kL : MsW m)); rw [hx4] at h0; exact h0), (by have h0 := (iF s sn 1 65536 zo zo); rw [hx5] at h0; exact h0)⟩ ?_
      refine AW.ret ?_
      exact kB (.inr rfl) [] (P := ((dH k r rn m s sn) = true)) zk (by exact u3m zo (by assumption) (by assumption) (by assumption))
     ·refine kG (.no :: .no :: .b true :: .no :: .no :: .no :: .i (dW k) :: .b true :: kJ 4 (.call [] (bV true) [] 0 [] none :: kJ 4 (.call [] (bV true) [] 0 [] none :: kJ 4 [.call [] (bV false) [] 0 [] none, .no, .no]))) (((k ≠ 0)) ∧ (qJ .andNot .i64 k 254 = (dW k)) ∧ (((dW k) = 0)) ∧ (Fun 84 [.agg [.d (dl r rn)], iE 1000, iE 768000] (kD []) 0 (bV true) (kD []) 0) ∧ (Fun 85 [.c (.d (D.sl (kW m) c))] (kD []) 0 (bV true) (kD []) 0) ∧ (Fun 84 [.agg [.d (dl s sn)], iE 1, iE 65536] (kD []) 0 (bV false) (kD []) 0)) [(2, bV false)] [] 1 ⟨zo, rfl, zo, (by have h0 := (iF r rn 1000 768000 zo zo); rw [hx3] at h0; exact h0), (by have h0 := (rH m c zo zo (kL : MsW m)); rw [hx4] at h0; exact h0), (by have h0 := (iF s sn 1 65536 zo zo); rw [hx5] at h0; exact h0)⟩ ?_
      refine AW.ret ?_
      exact kB (.inr rfl) [] (P := ((dH k r rn m s sn) = false)) zk (by exact u6z (by assumption))
    ·refine kG (.no :: .no :: .b true :: .no :: .no :: .no :: .i (dW k) :: .b true :: kJ 4 (.call [] (bV true) [] 0 [] none :: kJ 4 (.call [] (bV false) [] 0 [] none :: kJ 4 []))) (((k ≠ 0)) ∧ (qJ .andNot .i64 k 254 = (dW k)) ∧ (((dW k) = 0)) ∧ (Fun 84 [.agg [.d (dl r rn)], iE 1000, iE 768000] (kD []) 0 (bV true) (kD []) 0) ∧ (Fun 85 [.c (.d (D.sl (kW m) c))] (kD []) 0 (bV false) (kD []) 0)) [(2, bV false)] [] 1 ⟨zo, rfl, zo, (by have h0 := (iF r rn 1000 768000 zo zo); rw [hx3] at h0; exact h0), (by have h0 := (rH m c zo zo (kL : MsW m)); rw [hx4] at h0; exact h0)⟩ ?_
     refine AW.ret ?_
     exact kB (.inr rfl) [] (P := ((dH k r rn m s sn) = false)) zk (by exact k65 (by assumption))
   ·refine kG (.no :: .no :: .b true :: .no :: .no :: .no :: .i (dW k) :: .b true :: kJ 4 (.call [] (bV false) [] 0 [] none :: kJ 6 [])) (((k ≠ 0)) ∧ (qJ .andNot .i64 k 254 = (dW k)) ∧ (((dW k) = 0)) ∧ (Fun 84 [.agg [.d (dl r rn)], iE 1000, iE 768000] (kD []) 0 (bV false) (kD []) 0)) [(2, bV false)] [] 1 ⟨zo, rfl, zo, (by have h0 := (iF r rn 1000 768000 zo zo); rw [hx3] at h0; exact h0)⟩ ?_
    refine AW.ret ?_
    exact kB (.inr rfl) [] (P := ((dH k r rn m s sn) = false)) zk (by exact u70 (by assumption))
  ·refine kG (.no :: .no :: .b true :: .no :: .no :: .no :: .i (dW k) :: .b false :: kJ 8 []) (((k ≠ 0)) ∧ (qJ .andNot .i64 k 254 = (dW k)) ∧ (¬ ((dW k) = 0))) [(2, bV false)] [] 1 ⟨zo, rfl, zo⟩ ?_
   refine AW.ret ?_
   exact kB (.inr rfl) [] (P := ((dH k r rn m s sn) = false)) zk (by exact k99 zo)
 ·refine kG (.no :: .no :: .b false :: kJ 9 []) (¬ (k ≠ 0)) [(2, bV false)] [] 1 zo ?_
  refine AW.ret ?_
  exact kB (.inr rfl) [] (P := ((dH k r rn m s sn) = false)) zk (by exact k99 zo)
theorem t5 (k : Int) (r : List Int) (rn : Nat) (m : List (List Int)) (c : Nat) (s : List Int) (sn : Nat) (hr : ka1 r = rn * 2) (hs : ka1 s = sn * 2) (hc : ka1 m = c) (h1 : rn ≤ 1000000) (h2 : sn ≤ 1000000) (h3 : c ≤ 1000000) (hW : MsW m) : Fun 68 [.agg [iC k, .d (D.sl (dI .i64 r) rn), .d (D.sl (kW m) c), .d (D.sl (dI .i64 s) sn)]] (kD []) 0 (kP (D.lit (.bool (nxB k r rn m s sn)))) (kD []) 0 := by
 refine Fun.mk (n := 6) Tryz.func68 rfl rfl (ka3 rfl) ?_
 intro cx hcx
 refine kG [.no, .no] True [(1, rV 0 0)] [(0, some (53, .ds [iD k, dl r rn, D.sl (kW m) c, dl s sn]))] 1 trivial ?_
 rcases kb0 (dH k r rn m s sn) with hx1 | hx1
 ·refine kG [.no, .call [] (bV true) [] 0 [] none, .no, .no] (Fun 69 [.agg [iC k, .d (dl r rn), .d (D.sl (kW m) c), .d (dl s sn)]] (kD []) 0 (bV true) (kD []) 0) [(2, bV false)] [] 1 (by have h0 := (k6s k r rn m c s sn zo zo zo zo zo zo (kL : MsW m)); rw [hx1] at h0; exact h0) ?_
  refine AW.ret ?_
  exact kB (.inr rfl) [] (P := ((nxB k r rn m s sn) = false)) zk (by exact u8l (by assumption))
 ·refine kG [.no, .call [] (bV false) [] 0 [] none, .no, .no] (Fun 69 [.agg [iC k, .d (dl r rn), .d (D.sl (kW m) c), .d (dl s sn)]] (kD []) 0 (bV false) (kD []) 0) [(2, bV true)] [] 1 (by have h0 := (k6s k r rn m c s sn zo zo zo zo zo zo (kL : MsW m)); rw [hx1] at h0; exact h0) ?_
  refine AW.ret ?_
  exact kB (.inr rfl) [] (P := ((nxB k r rn m s sn) = true)) zk (by exact u8k (by assumption))
theorem u19 (bs : List Bx) (n : Nat) (hn : ka1 bs = n) (h1 : n ≤ 1000000) (hW : BsW bs) : Fun 83 [.c (.d (D.sl (kX bs) n)), .c (.fn 68 [])] (kD []) 0 (iV (rW bs n)) (kD []) 0 := by
 refine Fun.mk (n := 19) Tryz.func83 rfl rfl (ka3 rfl) ?_
 intro cx hcx
 refine kG [.no] True [(0, .e (u2 bs n)), (1, .e (.c (.fn 68 [])))] [] 0 trivial ?_
 refine AW.seq ?_
 refine kV [.no, .no, .no] True [(0, .e (u2 bs n)), (1, .e (.c (.fn 68 []))), (7, uV n), (8, iV 0)] trivial ?_
 refine AW.block ?_
 refine kU 0 hcx (fun (x : {x : Nat // match x with | k => (k ≤ n) ∧ (rW bs k = -1)}) => match x with | ⟨k, _⟩ => (⟨[(0, .e (u2 bs n)), (1, .e (.c (.fn 68 []))), (7, uV n), (8, uV k)], [], 0⟩ : ES)) (fun x => match x with | ⟨k, _⟩ => n - k) ⟨(0 : Nat), ⟨zo, rfl⟩⟩ [] (P := (kY (kX bs)) ∧ (kQ n) ∧ (kM (n : Int)) ∧ (kM 0)) zk ⟨rfl, rfl, rfl, rfl⟩ ?_
 rintro ⟨k, hinv0⟩
 obtain ⟨hk, hi⟩ : (k ≤ n) ∧ (rW bs k = -1) := hinv0
 refine qV (l := [(0, .e (u2 bs n)), (1, .e (.c (.fn 68 []))), (7, uV n), (8, uV k)]) (g := []) (nx := 0) rfl rfl rfl ?_
 by_cases hx1 : (((k : Nat) : Int) < ((n : Nat) : Int))
 ·refine kG [.b true] (((k : Int) < (n : Int))) [(0, .e (u2 bs n)), (1, .e (.c (.fn 68 []))), (7, uV n), (8, uV k), (9, bV true)] [] 0 zo ?_
  refine AW.seq ?_
  refine u1 ?_
  refine AW.seq ?_
  refine AW.block ?_
  refine kV [.no, .no] True [(0, .e (u2 bs n)), (1, .e (.c (.fn 68 []))), (5, uV k), (7, uV n), (8, uV k)] trivial ?_
  rcases kb0 (nxB (vU bs k) (aE bs k) (yJ bs k) (qD bs k) (cH bs k) (aA bs k)) with hx7 | hx7
  ·obtain ⟨hx8, hx9, hx10, hx11, hx12⟩ := BsW.at (kL : BsW bs) (k)
   refine kG [.no, .no, .no, .n k, .ds (eP bs k), .call [] (bV true) [] 0 [] none] ((kM (k : Int)) ∧ (k < n) ∧ (ka2 4 (ka5 (k * 4) (kX bs)) = (eP bs k)) ∧ (((eP bs k) : List D).length = 4) ∧ (Fun 68 [(q1A bs k)] (kD []) 0 (bV true) (kD []) 0)) [(0, .e (u2 bs n)), (1, .e (.c (.fn 68 []))), (5, uV k), (7, uV n), (8, uV k), (16, bV true)] [] 0 ⟨rfl, zo, (f9 zo), rfl, (by have h0 := (t5 (vU bs k) (aE bs k) (yJ bs k) (qD bs k) (ka1 (qD bs k)) (cH bs k) (aA bs k) zo zo rfl zo zo zo (cG (kL : BsW bs) _)); rw [hx7] at h0; exact h0)⟩ ?_
   refine zt ?_
   refine kV [.no, .no] True [(4, uV k)] trivial ?_
   refine AW.ret ?_
   exact kB (.inr rfl) [] (P := (((rW bs n) : Int) = (k : Int))) zk (by exact u4p hi (by assumption) zo)
  ·obtain ⟨hx13, hx14, hx15, hx16, hx17⟩ := BsW.at (kL : BsW bs) (k)
   refine kG [.no, .no, .no, .n k, .ds (eP bs k), .call [] (bV false) [] 0 [] none] ((kM (k : Int)) ∧ (k < n) ∧ (ka2 4 (ka5 (k * 4) (kX bs)) = (eP bs k)) ∧ (((eP bs k) : List D).length = 4) ∧ (Fun 68 [(q1A bs k)] (kD []) 0 (bV false) (kD []) 0)) [(0, .e (u2 bs n)), (1, .e (.c (.fn 68 []))), (5, uV k), (7, uV n), (8, uV k), (16, bV false)] [] 0 ⟨rfl, zo, (f9 zo), rfl, (by have h0 := (t5 (vU bs k) (aE bs k) (yJ bs k) (qD bs k) (ka1 (qD bs k)) (cH bs k) (aA bs k) zo zo rfl zo zo zo (cG (kL : BsW bs) _)); rw [hx7] at h0; exact h0)⟩ ?_
   refine uM ?_
   refine uG [.w, .no] (qB ((k : Int) + 1)) [(0, .e (u2 bs n)), (1, .e (.c (.fn 68 []))), (7, uV n), (8, iV (↑k + 1))] ⟨by omega, by omega⟩ ?_
   exact qH ⟨((k + 1) : Nat), ⟨zo, (u4o hi (by assumption))⟩⟩ [] (P := (kY (kX bs)) ∧ (kQ n) ∧ (kM (n : Int)) ∧ (((((k + 1) : Nat) : Int) : Int) = ((k : Int) + 1))) zk ⟨rfl, rfl, rfl, (by rfl)⟩ (show n - (k + 1) < n - k from zo)
 ·refine kG [.b false] (¬ ((k : Int) < (n : Int))) [(0, .e (u2 bs n)), (1, .e (.c (.fn 68 []))), (7, uV n), (8, uV k), (9, bV false)] [] 0 zo ?_
  refine AW.seq ?_
  refine zf ?_
  refine AW.exit ?_
  refine kG [.no] True [(4, iV (-1))] [] 0 trivial ?_
  refine AW.ret ?_
  exact kB (.inr rfl) [] (P := (((rW bs n) : Int) = (-1))) zk (by (rw [show n = k by omega]; exact hi))
theorem u1c (bs : List Bx) (n : Nat) (hn : ka1 bs = n) (h1 : n ≤ 1000000) (hW : BsW bs) : Fun 67 [.c (.d (D.sl (kX bs) n)), .c (.fn 68 [])] (kD []) 0 (kP (D.lit (.bool (naB bs n)))) (kD []) 0 := by
 refine Fun.mk (n := 9) Tryz.func67 rfl rfl (ka3 rfl) ?_
 intro cx hcx
 refine kG [.no] True [(0, .e (u2 bs n)), (1, .e (.c (.fn 68 [])))] [] 0 trivial ?_
 by_cases hx1 : ((0 : Int) ≤ (rW bs n))
 ·refine kV [.no, .no, .call [] (iV (rW bs n)) [] 0 [] none, .b true, .no] ((_) ∧ (((0 : Int) ≤ (rW bs n)))) [(4, bV true)] ⟨(u19 bs n zo zo (kL : BsW bs)), zo⟩ ?_
  refine AW.ret ?_
  exact kB (.inr rfl) [] (P := ((naB bs n) = true)) zk (by exact decide_eq_true zo)
 ·refine kV [.no, .no, .call [] (iV (rW bs n)) [] 0 [] none, .b false, .no] ((_) ∧ (¬ ((0 : Int) ≤ (rW bs n)))) [(4, bV false)] ⟨(u19 bs n zo zo (kL : BsW bs)), zo⟩ ?_
  refine AW.ret ?_
  exact kB (.inr rfl) [] (P := ((naB bs n) = false)) zk (by exact decide_eq_false zo)
theorem jD (bs : List Bx) (n : Nat) (hn : ka1 bs = n) (h1 : n ≤ 1000000) (hW : BsW bs) : Fun 44 [.c (.d (D.sl (kX bs) n))] (kD []) 0 (kP (D.lit (.bool (iP bs)))) (kD []) 0 := by
 refine Fun.mk (n := 11) Tryz.func44 rfl rfl (ka3 rfl) ?_
 intro cx hcx
 refine kG [.no] True [(0, .e (u2 bs n))] [] 0 trivial ?_
 by_cases hx1 : (((n : Nat) : Int) ≤ 64)
 ·rcases kb0 (naB bs n) with hx2 | hx2
  ·refine kV [.no, .no, .b true, .no, .no, .call [] (bV true) [] 0 [] none, .no, .no, .no] ((((n : Int) ≤ 64)) ∧ (Fun 67 [.c (.d (D.sl (kX bs) n)), .c (.fn 68 [])] (kD []) 0 (bV true) (kD []) 0)) [(2, bV false)] ⟨zo, (by have h0 := (u1c bs n zo zo (kL : BsW bs)); rw [hx2] at h0; exact h0)⟩ ?_
   refine AW.ret ?_
   exact kB (.inr rfl) [] (P := ((iP bs) = false)) zk (by exact u8n hn (by assumption))
  ·refine kV [.no, .no, .b true, .no, .no, .call [] (bV false) [] 0 [] none, .no, .no, .no] ((((n : Int) ≤ 64)) ∧ (Fun 67 [.c (.d (D.sl (kX bs) n)), .c (.fn 68 [])] (kD []) 0 (bV false) (kD []) 0)) [(2, bV true)] ⟨zo, (by have h0 := (u1c bs n zo zo (kL : BsW bs)); rw [hx2] at h0; exact h0)⟩ ?_
   refine AW.ret ?_
   exact kB (.inr rfl) [] (P := ((iP bs) = true)) zk (by exact u8m hn zo (by assumption))
 ·refine kV [.no, .no, .b false, .no, .no, .no] (¬ ((n : Int) ≤ 64)) [(2, bV false)] zo ?_
  refine AW.ret ?_
  exact kB (.inr rfl) [] (P := ((iP bs) = false)) zk (by exact u4l zo)
end Go.Proofs.YtdbjebdomdnbkaaGreat
