/- Boxes of the code. No statement is proved here. -/
import Derived.Test.YtcfmjpnffembpaaGreatZL10D
namespace Go.Proofs.YtcfmjpnffembpaaGreat
open Go.ChangeShapes Go.WideShapes Go.ChangeAt Go.RowKit
open Bool renaming and_false → kc7, eq_false_or_eq_true → ka6, false_and → kg9
open List renaming drop → ka3, getD → ka1, length → ka0, length_append → ka9, length_cons → kb0, length_drop → kb5, length_nil → kb3, length_replicate → kb4, length_set → kc1, length_take → kb2, take → ka5
open Nat renaming le_of_ble_eq_true → ka4, lt_succ_self → kj2, not_lt_zero → kd1
set_option linter.unusedVariables false
set_option linter.unusedSimpArgs false
/-! chapter 10: the code's lists of boxes -/
set_option maxHeartbeats 4000000
set_option maxRecDepth 100000
def tA (p : Nat → Bool) : Nat → Int
 | 0 => -1
 | k + 1 => if 0 ≤ tA p k then tA p k else if p k = true then (k : Int) else -1
theorem fT {p : Nat → Bool} {k : Nat} (h : tA p k = -1) (h2 : p k = false) : tA p (k + 1) = -1 := by
 show (if 0 ≤ tA p k then _ else _) = _
 rw [if_neg (by omega), if_neg (by rw [h2]; decide)]
theorem gY {p : Nat → Bool} {k : Nat} (h : tA p k = -1) (h2 : p k = true) : ∀ n, k < n → tA p n = (k : Int)
 | 0, h3 => absurd h3 (kd1 k)
 | n + 1, h3 => by
  show (if 0 ≤ tA p n then _ else _) = _
  by_cases e : k = n
  ·subst e; rw [if_neg (by omega), if_pos h2]
  ·have h4 := gY h h2 n (by omega)
   rw [if_pos (by omega), h4]
theorem rX (p : Nat → Bool) : ∀ n, (tA p n = -1 ∧ ∀ j, j < n → p j = false) ∨ ∃ k, k < n ∧ tA p n = (k : Int) ∧ p k = true
 | 0 => .inl ⟨rfl, fun j h => absurd h (kd1 j)⟩
 | n + 1 => by
  rcases rX p n with ⟨h1, h2⟩ | ⟨k, hk, h1, h2⟩
  ·cases e : p n with
   | false => exact .inl ⟨fT h1 e, fun j hj => (Nat.lt_succ_iff_lt_or_eq.1 hj).elim (h2 j) fun e9 => e9 ▸ e⟩
   | true => exact .inr ⟨n, kj2 n, gY h1 e _ (kj2 n), e⟩
  ·refine .inr ⟨k, by omega, ?_, h2⟩
   show (if 0 ≤ tA p n then _ else _) = _
   rw [if_pos (by omega)]; exact h1
theorem k12 {p : Nat → Bool} {n : Nat} (h : 0 ≤ tA p n) : ∃ k, k < n ∧ p k = true := by
 rcases rX p n with ⟨h1, _⟩ | ⟨k, hk, _, h2⟩
 ·omega
 ·exact ⟨k, hk, h2⟩
theorem rY {p : Nat → Bool} {n : Nat} (h : ¬ 0 ≤ tA p n) : ∀ j, j < n → p j = false := by
 rcases rX p n with ⟨_, h2⟩ | ⟨k, hk, h1, _⟩
 ·exact h2
 ·omega
def xD (ms : List (List Int)) (m : List Int) : Nat → Int := tA fun j => vO (ka1 ms j []) m
theorem u5m {ms : List (List Int)} {m : List Int} {c : Nat} (hc : ms.length = c) (h : 0 ≤ xD ms m c) : d9 ms m = true := by
 obtain ⟨k, hk, h1⟩ := k12 h
 exact u5k (k := k) (by omega) h1
theorem u5p {ms : List (List Int)} {m : List Int} {c : Nat} (hc : ms.length = c) (h : ¬ 0 ≤ xD ms m c) : d9 ms m = false :=
 u5l fun j hj => rY h j (by omega)
def tD (bs : List Bx) : Nat → Int := tA fun j => !(vbE bs j)
theorem u3n {bs : List Bx} {n : Nat} (hn : bs.length = n) (h : 0 ≤ tD bs n) : aJ bs = false := by
 obtain ⟨k, hk, h1⟩ := k12 h
 exact u3m (k := k) (by omega) (by simpa using h1)
theorem u3q {bs : List Bx} {n : Nat} (hn : bs.length = n) (h2 : n ≤ 64) (h : ¬ 0 ≤ tD bs n) : aJ bs = true :=
 u1d (by omega) fun j hj => by
  have h3 := rY h j (by omega)
  simpa using h3
def rN (b q : Int) : Bool := decide (1 ≤ q ∧ q ≤ 7) && xC b q.toNat
theorem k85 {b q : Int} (h : ¬ (1 ≤ q ∧ q ≤ 7)) : rN b q = false := by unfold rN; rw [decide_eq_false h]; rfl
theorem k25 {b : Int} {q : Nat} : rN b (q : Int) = xC b q := by
 unfold rN
 rw [Int.toNat_natCast]
 by_cases h : 1 ≤ q ∧ q ≤ 7
 ·rw [decide_eq_true (by omega : 1 ≤ (q : Int) ∧ (q : Int) ≤ 7)]; rfl
 ·rw [decide_eq_false (by omega : ¬ (1 ≤ (q : Int) ∧ (q : Int) ≤ 7))]
  exact (decide_eq_false fun e => h ⟨e.1, e.2.1⟩).symm
def eK (k : Int) (r : List Int) (rn : Nat) (m : List (List Int)) (s : List Int) (sn : Nat) (ck cr : Int) (cm : List Int) (cz : Int) : Bool := rN k ck && (gI (kB r rn) cr && (d9 m cm && gI (kB s sn) cz))
def biE (bs : List Bx) (ck cr : Int) (cm : List Int) (cz : Int) (i : Nat) : Bool := eK (k9 bs i) (qF bs i) (qB bs i) (kY bs i) (qG bs i) (qC bs i) ck cr cm cz
def dT (bs : List Bx) (ck cr : Int) (cm : List Int) (cz : Int) : Bool := decide (∃ i, i < bs.length ∧ biE bs ck cr cm cz i = true)
def xG (bs : List Bx) (ck cr : Int) (cm : List Int) (cz : Int) : Nat → Int := tA (biE bs ck cr cm cz)
theorem u8r {bs : List Bx} {ck cr : Int} {cm : List Int} {cz : Int} {n : Nat} (hn : bs.length = n) (h : 0 ≤ xG bs ck cr cm cz n) : dT bs ck cr cm cz = true := by
 obtain ⟨k, hk, h1⟩ := k12 h
 exact decide_eq_true ⟨k, by omega, h1⟩
theorem u8s {bs : List Bx} {ck cr : Int} {cm : List Int} {cz : Int} {n : Nat} (hn : bs.length = n) (h : ¬ 0 ≤ xG bs ck cr cm cz n) : dT bs ck cr cm cz = false :=
 decide_eq_false fun ⟨j, hj, e⟩ => by
  have := rY h j (by omega); rw [e] at this; cases this
theorem u6h {k : Int} {r : List Int} {rn : Nat} {m : List (List Int)} {s : List Int} {sn : Nat} {ck cr : Int} {cm : List Int} {cz : Int} (h1 : rN k ck = true) (h2 : gI (kB r rn) cr = true) (h3 : d9 m cm = true) (h4 : gI (kB s sn) cz = true) : eK k r rn m s sn ck cr cm cz = true := by
 unfold eK; rw [h1, h2, h3, h4]; rfl
theorem k9c {k : Int} {r : List Int} {rn : Nat} {m : List (List Int)} {s : List Int} {sn : Nat} {ck cr : Int} {cm : List Int} {cz : Int} (h1 : rN k ck = false) : eK k r rn m s sn ck cr cm cz = false := by
 unfold eK; rw [h1]; rfl
theorem u6j {k : Int} {r : List Int} {rn : Nat} {m : List (List Int)} {s : List Int} {sn : Nat} {ck cr : Int} {cm : List Int} {cz : Int} (h2 : gI (kB r rn) cr = false) : eK k r rn m s sn ck cr cm cz = false := by
 unfold eK; rw [h2, kg9, kc7]
theorem u6k {k : Int} {r : List Int} {rn : Nat} {m : List (List Int)} {s : List Int} {sn : Nat} {ck cr : Int} {cm : List Int} {cz : Int} (h3 : d9 m cm = false) : eK k r rn m s sn ck cr cm cz = false := by
 unfold eK; rw [h3, kg9, kc7, kc7]
theorem u6i {k : Int} {r : List Int} {rn : Nat} {m : List (List Int)} {s : List Int} {sn : Nat} {ck cr : Int} {cm : List Int} {cz : Int} (h4 : gI (kB s sn) cz = false) : eK k r rn m s sn ck cr cm cz = false := by
 unfold eK; rw [h4, kc7, kc7, kc7]
def uP (a b : List (List Int)) : Nat → List (List Int)
 | 0 => []
 | i + 1 => if d9 b (ka1 a i []) = true then uP a b i ++ [ka1 a i []] else uP a b i
theorem u0n {a b o : List (List Int)} {i : Nat} (h : uP a b i = o) (h1 : d9 b (ka1 a i []) = true) : uP a b (i + 1) = o ++ [ka1 a i []] := by subst h; exact if_pos h1
theorem u0o {a b o : List (List Int)} {i : Nat} (h : uP a b i = o) (h1 : d9 b (ka1 a i []) = false) : uP a b (i + 1) = o := by subst h; exact if_neg (by rw [h1]; decide)
theorem gK {a : List (List Int)} (h : MsW a) (b : List (List Int)) : ∀ i, MsW (uP a b i)
 | 0 => MsW.nil
 | i + 1 => by
  rw [uP]; split
  ·exact (gK h b i).snoc (h.at i)
  ·exact gK h b i
theorem aO (a b : List (List Int)) : ∀ i, ka0 (uP a b i) ≤ i
 | 0 => Nat.le_refl _
 | i + 1 => by
  have := aO a b i
  rw [uP]; split
  ·rw [ka9, List.length_singleton]; omega
  ·omega
theorem u5n {ms : List (List Int)} {m : List Int} {k : Nat} (h : xD ms m k = -1) (h2 : vO (ka1 ms k []) m = false) : xD ms m (k + 1) = -1 := fT h h2
theorem u5o {ms : List (List Int)} {m : List Int} {k : Nat} (h : xD ms m k = -1) (h2 : vO (ka1 ms k []) m = true) {n : Nat} (hn : k < n) : xD ms m n = (k : Int) := gY h h2 n hn
def nxB (k : Int) (r : List Int) (rn : Nat) (m : List (List Int)) (s : List Int) (sn : Nat) : Bool := !(dK k r rn m s sn)
theorem u85 {k : Int} {r : List Int} {rn : Nat} {m : List (List Int)} {s : List Int} {sn : Nat} (h : dK k r rn m s sn = false) : nxB k r rn m s sn = true := by unfold nxB; rw [h]; rfl
theorem u86 {k : Int} {r : List Int} {rn : Nat} {m : List (List Int)} {s : List Int} {sn : Nat} (h : dK k r rn m s sn = true) : nxB k r rn m s sn = false := by unfold nxB; rw [h]; rfl
theorem u3o {bs : List Bx} {k : Nat} (h : tD bs k = -1) (h2 : nxB (k9 bs k) (qF bs k) (qB bs k) (kY bs k) (qG bs k) (qC bs k) = false) : tD bs (k + 1) = -1 := fT h h2
theorem u3p {bs : List Bx} {k : Nat} (h : tD bs k = -1) (h2 : nxB (k9 bs k) (qF bs k) (qB bs k) (kY bs k) (qG bs k) (qC bs k) = true) {n : Nat} (hn : k < n) : tD bs n = (k : Int) := gY h h2 n hn
def naB (bs : List Bx) (n : Nat) : Bool := decide (0 ≤ tD bs n)
theorem u89 {bs : List Bx} {n : Nat} (hn : bs.length = n) (h : naB bs n = true) : aJ bs = false := u3n hn (of_decide_eq_true h)
theorem u88 {bs : List Bx} {n : Nat} (hn : bs.length = n) (h2 : n ≤ 64) (h : naB bs n = false) : aJ bs = true := u3q hn h2 (of_decide_eq_false h)
theorem u8j {b : Int} {q : Nat} (h1 : 1 ≤ q ∧ q ≤ 7) (h : cG (b / ((2 ^ q : Nat) : Int)) = 1) : rN b (q : Int) = true := by
 rw [k25]; exact decide_eq_true ⟨h1.1, h1.2, h⟩
theorem u8k {b : Int} {q : Nat} (h : ¬ cG (b / ((2 ^ q : Nat) : Int)) = 1) : rN b (q : Int) = false := by
 rw [k25]; exact decide_eq_false fun e => h e.2.2
theorem u6l {bs : List Bx} {ck cr : Int} {cm : List Int} {cz : Int} {k : Nat} (h : xG bs ck cr cm cz k = -1) (h2 : eK (k9 bs k) (qF bs k) (qB bs k) (kY bs k) (qG bs k) (qC bs k) ck cr cm cz = false) : xG bs ck cr cm cz (k + 1) = -1 := fT h h2
theorem u6m {bs : List Bx} {ck cr : Int} {cm : List Int} {cz : Int} {k : Nat} (h : xG bs ck cr cm cz k = -1) (h2 : eK (k9 bs k) (qF bs k) (qB bs k) (kY bs k) (qG bs k) (qC bs k) ck cr cm cz = true) {n : Nat} (hn : k < n) : xG bs ck cr cm cz n = (k : Int) := gY h h2 n hn
theorem k7e (w a : List Int) (o n : Nat) (ho : ka0 w = o) (hn : ka0 a = n) (h1 : o ≤ 1000000) (h2 : n ≤ 1000000) : Fun 136 [.c (.d (D.sl (dI .i64 a) n)), .c (.ptr 0 0)] (kE [(0, some (23, .ds [D.sl (dI .i64 w) o]))]) 1 (qS (D.lit (.bool (vO a w)))) (kE [(0, some (23, .ds [D.sl (dI .i64 w) o]))]) 1 := by
 refine Fun.mk (n := 7) Tryz.func136 rfl rfl (ka4 rfl) ?_
 intro cx hcx
 refine kI [.no] True [(0, sV .i64 a n), (1, rV 0 0)] [(0, some (23, .ds [dl w o]))] 1 trivial ?_
 refine kN [.no, .no, .call [] (qS (D.lit (.bool (vO a w)))) [] 0 [] none, .no] _ [(3, qS (D.lit (.bool (vO a w))))] (z6 a w n o zo zo zo zo) ?_
 refine AW.ret ?_
 exact kC (.inr rfl) [] (P := ((vO a w) = (vO a w)) ∧ (kJ [dl w o])) zk ⟨rfl, rfl⟩
theorem u13 (ms : List (List Int)) (c : Nat) (w : List Int) (o : Nat) (hc : ka0 ms = c) (ho : ka0 w = o) (h1 : c ≤ 1000000) (h2 : o ≤ 1000000) (hW : MsW ms) : Fun 146 [.c (.d (D.sl (kL ms) c)), .c (.fn 136 [(0, 0)])] (kE [(0, some (23, .ds [D.sl (dI .i64 w) o]))]) 1 (iV (xD ms w c)) (kE [(0, some (23, .ds [D.sl (dI .i64 w) o]))]) 1 := by
 refine Fun.mk (n := 19) Tryz.func146 rfl rfl (ka4 rfl) ?_
 intro cx hcx
 refine kI [.no] True [(0, qJ (kL ms) c), (1, .e (.c (.fn 136 [(0, 0)])))] [(0, some (23, .ds [dl w o]))] 1 trivial ?_
 refine AW.seq ?_
 refine kN [.no, .no, .no] True [(0, qJ (kL ms) c), (1, .e (.c (.fn 136 [(0, 0)]))), (7, uV c), (8, iV 0)] trivial ?_
 refine AW.block ?_
 refine kU 1 hcx (fun (x : {x : Nat // match x with | k => (k ≤ c) ∧ (xD ms w k = -1)}) => match x with | ⟨k, _⟩ => (⟨[(0, qJ (kL ms) c), (1, .e (.c (.fn 136 [(0, 0)]))), (7, uV c), (8, uV k)], [(0, some (23, .ds [dl w o]))], 1⟩ : ES)) (fun x => match x with | ⟨k, _⟩ => c - k) ⟨(0 : Nat), ⟨zo, rfl⟩⟩ [] (P := (kJ (kL ms)) ∧ (kG c) ∧ (kM (c : Int)) ∧ (kM 0) ∧ (kJ [dl w o])) zk ⟨rfl, rfl, rfl, rfl, rfl⟩ ?_
 rintro ⟨k, hinv0⟩
 obtain ⟨hk, hi⟩ : (k ≤ c) ∧ (xD ms w k = -1) := hinv0
 refine qN (l := [(0, qJ (kL ms) c), (1, .e (.c (.fn 136 [(0, 0)]))), (7, uV c), (8, uV k)]) (g := [(0, some (23, .ds [dl w o]))]) (nx := 1) rfl rfl rfl ?_
 by_cases hx1 : (((k : Nat) : Int) < ((c : Nat) : Int))
 ·refine kI [.b true] (((k : Int) < (c : Int))) [(0, qJ (kL ms) c), (1, .e (.c (.fn 136 [(0, 0)]))), (7, uV c), (8, uV k), (9, bV true)] [(0, some (23, .ds [dl w o]))] 1 zo ?_
  refine AW.seq ?_
  refine yW ?_
  refine AW.seq ?_
  refine AW.block ?_
  refine kN [.no, .no] True [(0, qJ (kL ms) c), (1, .e (.c (.fn 136 [(0, 0)]))), (5, uV k), (7, uV c), (8, uV k)] trivial ?_
  rcases ka6 (vO (ka1 ms k ([] : List Int)) w) with hx3 | hx3
  ·have hx4 : ((ka0 (ka1 ms k ([] : List Int))) ≤ 1000000) := MsW.at (kZ : MsW ms) _
   refine kN [.no, .no, .no, .n k, .d (dl (ka1 ms k ([] : List Int)) (ka0 (ka1 ms k ([] : List Int)))), .call [0] (bV true) [(0, some (23, .ds [dl w o]))] 1 [] none] ((kM (k : Int)) ∧ (k < c) ∧ ((ka3 k (kL ms))[0]? = some (dl (ka1 ms k ([] : List Int)) (ka0 (ka1 ms k ([] : List Int))))) ∧ (Fun 136 [.c (.d (dl (ka1 ms k ([] : List Int)) (ka0 (ka1 ms k ([] : List Int))))), .c (.ptr 0 0)] (kE [(0, some (23, .ds [dl w o]))]) 1 (bV true) (kE [(0, some (23, .ds [dl w o]))]) 1)) [(0, qJ (kL ms) c), (1, .e (.c (.fn 136 [(0, 0)]))), (5, uV k), (7, uV c), (8, uV k), (16, bV true)] ⟨rfl, zo, (yE _ _ zo), (by have h0 := (k7e w (ka1 ms k ([] : List Int)) o (ka0 (ka1 ms k ([] : List Int))) zo rfl zo zo); rw [hx3] at h0; exact h0)⟩ ?_
   refine zt ?_
   refine kN [.no, .no] True [(4, uV k)] trivial ?_
   refine AW.ret ?_
   exact kC (.inr rfl) [] (P := (((xD ms w c) : Int) = (k : Int)) ∧ (kJ [dl w o])) zk ⟨(by exact u5o hi (by assumption) zo), rfl⟩
  ·have hx5 : ((ka0 (ka1 ms k ([] : List Int))) ≤ 1000000) := MsW.at (kZ : MsW ms) _
   refine kN [.no, .no, .no, .n k, .d (dl (ka1 ms k ([] : List Int)) (ka0 (ka1 ms k ([] : List Int)))), .call [0] (bV false) [(0, some (23, .ds [dl w o]))] 1 [] none] ((kM (k : Int)) ∧ (k < c) ∧ ((ka3 k (kL ms))[0]? = some (dl (ka1 ms k ([] : List Int)) (ka0 (ka1 ms k ([] : List Int))))) ∧ (Fun 136 [.c (.d (dl (ka1 ms k ([] : List Int)) (ka0 (ka1 ms k ([] : List Int))))), .c (.ptr 0 0)] (kE [(0, some (23, .ds [dl w o]))]) 1 (bV false) (kE [(0, some (23, .ds [dl w o]))]) 1)) [(0, qJ (kL ms) c), (1, .e (.c (.fn 136 [(0, 0)]))), (5, uV k), (7, uV c), (8, uV k), (16, bV false)] ⟨rfl, zo, (yE _ _ zo), (by have h0 := (k7e w (ka1 ms k ([] : List Int)) o (ka0 (ka1 ms k ([] : List Int))) zo rfl zo zo); rw [hx3] at h0; exact h0)⟩ ?_
   refine q8 ?_
   refine uJ [.w, .no] (uZ ((k : Int) + 1)) [(0, qJ (kL ms) c), (1, .e (.c (.fn 136 [(0, 0)]))), (7, uV c), (8, iV (↑k + 1))] ⟨by omega, by omega⟩ ?_
   exact kX ⟨((k + 1) : Nat), ⟨zo, (u5n hi (by assumption))⟩⟩ [] (P := (kJ (kL ms)) ∧ (kG c) ∧ (kM (c : Int)) ∧ (vX k) ∧ (kJ [dl w o])) zk ⟨rfl, rfl, rfl, (by rfl), rfl⟩ (show c - (k + 1) < c - k from zo)
 ·refine kI [.b false] (¬ ((k : Int) < (c : Int))) [(0, qJ (kL ms) c), (1, .e (.c (.fn 136 [(0, 0)]))), (7, uV c), (8, uV k), (9, bV false)] [(0, some (23, .ds [dl w o]))] 1 zo ?_
  refine AW.seq ?_
  refine zf ?_
  refine AW.exit ?_
  refine kI [.no] True [(4, iV (-1))] [(0, some (23, .ds [dl w o]))] 1 trivial ?_
  refine AW.ret ?_
  exact kC (.inr rfl) [] (P := (((xD ms w c) : Int) = (-1)) ∧ (kJ [dl w o])) zk ⟨(by (rw [show c = k by omega]; exact hi)), rfl⟩
theorem u6z (ms : List (List Int)) (c : Nat) (w : List Int) (o : Nat) (hc : ka0 ms = c) (ho : ka0 w = o) (h1 : c ≤ 1000000) (h2 : o ≤ 1000000) (hW : MsW ms) : Fun 126 [.c (.d (D.sl (kL ms) c)), .c (.fn 136 [(0, 0)])] (kE [(0, some (23, .ds [D.sl (dI .i64 w) o]))]) 1 (qS (D.lit (.bool (d9 ms w)))) (kE [(0, some (23, .ds [D.sl (dI .i64 w) o]))]) 1 := by
 refine Fun.mk (n := 9) Tryz.func126 rfl rfl (ka4 rfl) ?_
 intro cx hcx
 refine kI [.no] True [(0, qJ (kL ms) c), (1, .e (.c (.fn 136 [(0, 0)])))] [(0, some (23, .ds [dl w o]))] 1 trivial ?_
 by_cases hx1 : ((0 : Int) ≤ (xD ms w c))
 ·refine kN [.no, .no, .call [0] (iV (xD ms w c)) [(0, some (23, .ds [dl w o]))] 1 [] none, .b true, .no] ((_) ∧ (((0 : Int) ≤ (xD ms w c)))) [(4, bV true)] ⟨(u13 ms c w o zo zo zo zo (kZ : MsW ms)), zo⟩ ?_
  refine AW.ret ?_
  exact kC (.inr rfl) [] (P := ((d9 ms w) = true) ∧ (kJ [dl w o])) zk ⟨(by exact u5m hc zo), rfl⟩
 ·refine kN [.no, .no, .call [0] (iV (xD ms w c)) [(0, some (23, .ds [dl w o]))] 1 [] none, .b false, .no] ((_) ∧ (¬ ((0 : Int) ≤ (xD ms w c)))) [(4, bV false)] ⟨(u13 ms c w o zo zo zo zo (kZ : MsW ms)), zo⟩ ?_
  refine AW.ret ?_
  exact kC (.inr rfl) [] (P := ((d9 ms w) = false) ∧ (kJ [dl w o])) zk ⟨(by exact u5p hc zo), rfl⟩
theorem i7 (ms : List (List Int)) (c : Nat) (w : List Int) (o : Nat) (hc : ka0 ms = c) (ho : ka0 w = o) (h1 : c ≤ 1000000) (h2 : o ≤ 1000000) (hW : MsW ms) : Fun 96 [.c (.d (D.sl (kL ms) c)), .c (.d (D.sl (dI .i64 w) o))] (kE []) 0 (qS (D.lit (.bool (d9 ms w)))) (kE []) 0 := by
 refine Fun.mk (n := 8) Tryz.func96 rfl rfl (ka4 rfl) ?_
 intro cx hcx
 refine kI [.no, .no] True [(0, qJ (kL ms) c), (3, rV 0 0)] [(0, some (23, .ds [dl w o]))] 1 trivial ?_
 refine kI [.no, .no, .call [0] (qS (D.lit (.bool (d9 ms w)))) [(0, some (23, .ds [dl w o]))] 1 [] none, .no] _ [(4, qS (D.lit (.bool (d9 ms w))))] [] 1 (u6z ms c w o zo zo zo zo (kZ : MsW ms)) ?_
 refine AW.ret ?_
 exact kC (.inr rfl) [] (P := ((d9 ms w) = (d9 ms w))) zk rfl
theorem sU (m : List (List Int)) (c : Nat) (hc : ka0 m = c) (h1 : c ≤ 1000000) (hW : MsW m) : Fun 88 [.c (.d (D.sl (kL m) c))] (kE []) 0 (qS (D.lit (.bool (nQ m)))) (kE []) 0 := by
 refine Fun.mk (n := 31) Tryz.func88 rfl rfl (ka4 rfl) ?_
 intro cx hcx
 refine kI [.no] True [(0, qJ (kL m) c)] [] 0 trivial ?_
 refine AW.seq ?_
 by_cases hx1 : (((c : Nat) : Int) < 1)
 ·refine kN [.no, .no, .b true, .no, .no] (((c : Int) < 1)) [(0, qJ (kL m) c), (12, bV true)] zo ?_
  refine zt ?_
  refine kN [.no] True [(2, bV false)] trivial ?_
  refine AW.ret ?_
  exact kC (.inr rfl) [] (P := ((nQ m) = false)) zk (by exact k7j zo)
 ·by_cases hx2 : ((16 : Int) < ((c : Nat) : Int))
  ·refine kN [.no, .no, .b false, .no, .no, .no, .b true, .no] ((¬ ((c : Int) < 1)) ∧ (((16 : Int) < (c : Int)))) [(0, qJ (kL m) c), (12, bV true)] ⟨zo, zo⟩ ?_
   refine zt ?_
   refine kN [.no] True [(2, bV false)] trivial ?_
   refine AW.ret ?_
   exact kC (.inr rfl) [] (P := ((nQ m) = false)) zk (by exact k7j zo)
  ·refine kN [.no, .no, .b false, .no, .no, .no, .b false, .no] ((¬ ((c : Int) < 1)) ∧ (¬ ((16 : Int) < (c : Int)))) [(0, qJ (kL m) c), (12, bV false)] ⟨zo, zo⟩ ?_
   refine q8 ?_
   refine AW.seq ?_
   refine kN [.no, .no, .no] True [(0, qJ (kL m) c), (13, qJ (kL m) c), (14, uV c), (15, iV 0)] trivial ?_
   refine AW.block ?_
   refine kU 0 hcx (fun (x : {x : Nat // match x with | i => (i ≤ c) ∧ (∀ j, j < i → xR m j = true)}) => match x with | ⟨i, _⟩ => (⟨[(0, qJ (kL m) c), (13, qJ (kL m) c), (14, uV c), (15, uV i)], [], 0⟩ : ES)) (fun x => match x with | ⟨i, _⟩ => c - i) ⟨(0 : Nat), ⟨zo, (fun j hj => absurd hj (kd1 j))⟩⟩ [] (P := (kJ (kL m)) ∧ (kG c) ∧ (kJ (kL m)) ∧ (kG c) ∧ (kM (c : Int)) ∧ (kM 0)) zk ⟨rfl, rfl, rfl, rfl, rfl, rfl⟩ ?_
   rintro ⟨i, hinv0⟩
   obtain ⟨hi, ha⟩ : (i ≤ c) ∧ (∀ j, j < i → xR m j = true) := hinv0
   refine qN (l := [(0, qJ (kL m) c), (13, qJ (kL m) c), (14, uV c), (15, uV i)]) (g := []) (nx := 0) rfl rfl rfl ?_
   by_cases hx3 : (((i : Nat) : Int) < ((c : Nat) : Int))
   ·refine kI [.b true] (((i : Int) < (c : Int))) [(0, qJ (kL m) c), (13, qJ (kL m) c), (14, uV c), (15, uV i), (16, bV true)] [] 0 zo ?_
    refine AW.seq ?_
    refine yW ?_
    refine AW.seq ?_
    refine AW.block ?_
    have hx4 : ((ka0 (ka1 m i ([] : List Int))) ≤ 1000000) := MsW.at (kZ : MsW m) _
    refine kN [.no, .n i, .d (dl (ka1 m i ([] : List Int)) (ka0 (ka1 m i ([] : List Int)))), .no, .no] ((kM (i : Int)) ∧ (i < c) ∧ ((ka3 i (kL m))[0]? = some (dl (ka1 m i ([] : List Int)) (ka0 (ka1 m i ([] : List Int)))))) [(0, qJ (kL m) c), (3, uV i), (4, sV .i64 (ka1 m i ([] : List Int)) (ka0 (ka1 m i ([] : List Int)))), (13, qJ (kL m) c), (14, uV c), (15, uV i)] ⟨rfl, zo, (yE _ _ zo)⟩ ?_
    rcases ka6 (lJ (ka1 m i ([] : List Int)) (ka0 (ka1 m i ([] : List Int)))) with hx5 | hx5
    ·rcases ka6 (d9 (ka5 i m) (ka1 m i ([] : List Int))) with hx6 | hx6
     ·refine kN (.no :: .call [] (bV true) [] 0 [] none :: kT 4 [.sls 0 i i (kL (ka5 i m)), .no, .call [] (bV true) [] 0 [] none, .no]) ((Fun 131 [.c (.d (dl (ka1 m i ([] : List Int)) (ka0 (ka1 m i ([] : List Int)))))] (kE []) 0 (bV true) (kE []) 0) ∧ (kG 0) ∧ (kM (i : Int)) ∧ ((0 : Nat) ≤ i) ∧ (i ≤ c) ∧ (i - 0 = i) ∧ (ka5 (i * 1) (ka3 (0 * 1) (kL m)) = (kL (ka5 i m))) ∧ (Fun 96 [.c (.d (D.sl (kL (ka5 i m)) i)), .c (.d (dl (ka1 m i ([] : List Int)) (ka0 (ka1 m i ([] : List Int)))))] (kE []) 0 (bV true) (kE []) 0)) [(0, qJ (kL m) c), (13, qJ (kL m) c), (14, uV c), (15, uV i), (29, bV true)] ⟨(by have h0 := (sO (ka1 m i ([] : List Int)) (ka0 (ka1 m i ([] : List Int))) rfl zo); rw [hx5] at h0; exact h0), rfl, rfl, zo, zo, zo, (iI _ _), (by have h0 := (i7 (ka5 i m) i (ka1 m i ([] : List Int)) (ka0 (ka1 m i ([] : List Int))) (by (simp only [qH, qE, ka9, kb0, kb3, kb2, kb5, kb4, kc1] <;> omega)) rfl zo zo (MsW.take (kZ : MsW m) _)); rw [hx6] at h0; exact h0)⟩ ?_
      refine zt ?_
      refine kN [.no] True [(2, bV false)] trivial ?_
      refine AW.ret ?_
      exact kC (.inr rfl) [] (P := ((nQ m) = false)) zk (by exact k7k (k := i) zo (by exact k9r (by assumption)))
     ·refine kN (.no :: .call [] (bV true) [] 0 [] none :: kT 4 [.sls 0 i i (kL (ka5 i m)), .no, .call [] (bV false) [] 0 [] none, .no]) ((Fun 131 [.c (.d (dl (ka1 m i ([] : List Int)) (ka0 (ka1 m i ([] : List Int)))))] (kE []) 0 (bV true) (kE []) 0) ∧ (kG 0) ∧ (kM (i : Int)) ∧ ((0 : Nat) ≤ i) ∧ (i ≤ c) ∧ (i - 0 = i) ∧ (ka5 (i * 1) (ka3 (0 * 1) (kL m)) = (kL (ka5 i m))) ∧ (Fun 96 [.c (.d (D.sl (kL (ka5 i m)) i)), .c (.d (dl (ka1 m i ([] : List Int)) (ka0 (ka1 m i ([] : List Int)))))] (kE []) 0 (bV false) (kE []) 0)) [(0, qJ (kL m) c), (13, qJ (kL m) c), (14, uV c), (15, uV i), (29, bV false)] ⟨(by have h0 := (sO (ka1 m i ([] : List Int)) (ka0 (ka1 m i ([] : List Int))) rfl zo); rw [hx5] at h0; exact h0), rfl, rfl, zo, zo, zo, (iI _ _), (by have h0 := (i7 (ka5 i m) i (ka1 m i ([] : List Int)) (ka0 (ka1 m i ([] : List Int))) (by (simp only [qH, qE, ka9, kb0, kb3, kb2, kb5, kb4, kc1] <;> omega)) rfl zo zo (MsW.take (kZ : MsW m) _)); rw [hx6] at h0; exact h0)⟩ ?_
      refine q8 ?_
      refine uJ [.w, .no] (uZ ((i : Int) + 1)) [(0, qJ (kL m) c), (13, qJ (kL m) c), (14, uV c), (15, iV (↑i + 1))] ⟨by omega, by omega⟩ ?_
      exact kX ⟨((i + 1) : Nat), ⟨zo, (fun j hj => (Nat.lt_succ_iff_lt_or_eq.1 hj).elim (ha j) (fun e9 => by subst e9; exact k31 (by assumption) (by assumption)))⟩⟩ [] (P := (kJ (kL m)) ∧ (kG c) ∧ (kJ (kL m)) ∧ (kG c) ∧ (kM (c : Int)) ∧ (vX i)) zk ⟨rfl, rfl, rfl, rfl, rfl, (by rfl)⟩ (show c - (i + 1) < c - i from zo)
    ·refine kN [.no, .call [] (bV false) [] 0 [] none, .no, .no, .no] (Fun 131 [.c (.d (dl (ka1 m i ([] : List Int)) (ka0 (ka1 m i ([] : List Int)))))] (kE []) 0 (bV false) (kE []) 0) [(0, qJ (kL m) c), (13, qJ (kL m) c), (14, uV c), (15, uV i), (29, bV true)] (by have h0 := (sO (ka1 m i ([] : List Int)) (ka0 (ka1 m i ([] : List Int))) rfl zo); rw [hx5] at h0; exact h0) ?_
     refine zt ?_
     refine kN [.no] True [(2, bV false)] trivial ?_
     refine AW.ret ?_
     exact kC (.inr rfl) [] (P := ((nQ m) = false)) zk (by exact k7k (k := i) zo (by exact k9s (by assumption)))
   ·refine kI [.b false] (¬ ((i : Int) < (c : Int))) [(0, qJ (kL m) c), (13, qJ (kL m) c), (14, uV c), (15, uV i), (16, bV false)] [] 0 zo ?_
    refine AW.seq ?_
    refine zf ?_
    refine AW.exit ?_
    refine kI [.no] True [(2, bV true)] [] 0 trivial ?_
    refine AW.ret ?_
    exact kC (.inr rfl) [] (P := ((nQ m) = true)) zk (by exact u1b zo zo (fun j hj => ha j zo))
theorem j3 (k : Int) (r : List Int) (rn : Nat) (m : List (List Int)) (c : Nat) (s : List Int) (sn : Nat) (hr : ka0 r = rn * 2) (hs : ka0 s = sn * 2) (hc : ka0 m = c) (h1 : rn ≤ 1000000) (h2 : sn ≤ 1000000) (h3 : c ≤ 1000000) (hW : MsW m) : Fun 43 [.agg [iC k, .d (D.sl (dI .i64 r) rn), .d (D.sl (kL m) c), .d (D.sl (dI .i64 s) sn)]] (kE []) 0 (qS (D.lit (.bool (dK k r rn m s sn)))) (kE []) 0 := by
 refine Fun.mk (n := 27) Tryz.func43 rfl rfl (ka4 rfl) ?_
 intro cx hcx
 refine kI [.no, .no] True [(1, rV 0 0)] [(0, some (59, .ds [iD k, dl r rn, D.sl (kL m) c, dl s sn]))] 1 trivial ?_
 by_cases hx1 : (k ≠ 0)
 ·by_cases hx2 : ((eH k) = 0)
  ·rcases ka6 (dR r rn 1000 768000) with hx3 | hx3
   ·rcases ka6 (nQ m) with hx4 | hx4
    ·rcases ka6 (dR s sn 1 65536) with hx5 | hx5
     ·refine kI (.no :: .no :: .b true :: .no :: .no :: .no :: .i (eH k) :: .b true :: kT 4 (.call [] (bV true) [] 0 [] none :: kT 4 (.call [] (bV true) [] 0 [] none :: kT 4 [.call [] (bV true) [] 0 [] none, .no, .no]))) (((k ≠ 0)) ∧ (qI .andNot .i64 k 254 = (eH k)) ∧ (((eH k) = 0)) ∧ (Fun 87 [.agg [.d (dl r rn)], iE 1000, iE 768000] (kE []) 0 (bV true) (kE []) 0) ∧ (Fun 88 [.c (.d (D.sl (kL m) c))] (kE []) 0 (bV true) (kE []) 0) ∧ (Fun 87 [.agg [.d (dl s sn)], iE 1, iE 65536] (kE []) 0 (bV true) (kE []) 0)) [(2, bV true)] [] 1 ⟨zo, rfl, zo, (by have h0 := (jY r rn 1000 768000 zo zo); rw [hx3] at h0; exact h0), (by have h0 := (sU m c zo zo (kZ : MsW m)); rw [hx4] at h0; exact h0), (by have h0 := (jY s sn 1 65536 zo zo); rw [hx5] at h0; exact h0)⟩ ?_
      refine AW.ret ?_
      exact kC (.inr rfl) [] (P := ((dK k r rn m s sn) = true)) zk (by exact u33 zo (by assumption) (by assumption) (by assumption))
     ·refine kI (.no :: .no :: .b true :: .no :: .no :: .no :: .i (eH k) :: .b true :: kT 4 (.call [] (bV true) [] 0 [] none :: kT 4 (.call [] (bV true) [] 0 [] none :: kT 4 [.call [] (bV false) [] 0 [] none, .no, .no]))) (((k ≠ 0)) ∧ (qI .andNot .i64 k 254 = (eH k)) ∧ (((eH k) = 0)) ∧ (Fun 87 [.agg [.d (dl r rn)], iE 1000, iE 768000] (kE []) 0 (bV true) (kE []) 0) ∧ (Fun 88 [.c (.d (D.sl (kL m) c))] (kE []) 0 (bV true) (kE []) 0) ∧ (Fun 87 [.agg [.d (dl s sn)], iE 1, iE 65536] (kE []) 0 (bV false) (kE []) 0)) [(2, bV false)] [] 1 ⟨zo, rfl, zo, (by have h0 := (jY r rn 1000 768000 zo zo); rw [hx3] at h0; exact h0), (by have h0 := (sU m c zo zo (kZ : MsW m)); rw [hx4] at h0; exact h0), (by have h0 := (jY s sn 1 65536 zo zo); rw [hx5] at h0; exact h0)⟩ ?_
      refine AW.ret ?_
      exact kC (.inr rfl) [] (P := ((dK k r rn m s sn) = false)) zk (by exact u67 (by assumption))
    ·refine kI (.no :: .no :: .b true :: .no :: .no :: .no :: .i (eH k) :: .b true :: kT 4 (.call [] (bV true) [] 0 [] none :: kT 4 (.call [] (bV false) [] 0 [] none :: kT 4 []))) (((k ≠ 0)) ∧ (qI .andNot .i64 k 254 = (eH k)) ∧ (((eH k) = 0)) ∧ (Fun 87 [.agg [.d (dl r rn)], iE 1000, iE 768000] (kE []) 0 (bV true) (kE []) 0) ∧ (Fun 88 [.c (.d (D.sl (kL m) c))] (kE []) 0 (bV false) (kE []) 0)) [(2, bV false)] [] 1 ⟨zo, rfl, zo, (by have h0 := (jY r rn 1000 768000 zo zo); rw [hx3] at h0; exact h0), (by have h0 := (sU m c zo zo (kZ : MsW m)); rw [hx4] at h0; exact h0)⟩ ?_
     refine AW.ret ?_
     exact kC (.inr rfl) [] (P := ((dK k r rn m s sn) = false)) zk (by exact k6k (by assumption))
   ·refine kI (.no :: .no :: .b true :: .no :: .no :: .no :: .i (eH k) :: .b true :: kT 4 (.call [] (bV false) [] 0 [] none :: kT 6 [])) (((k ≠ 0)) ∧ (qI .andNot .i64 k 254 = (eH k)) ∧ (((eH k) = 0)) ∧ (Fun 87 [.agg [.d (dl r rn)], iE 1000, iE 768000] (kE []) 0 (bV false) (kE []) 0)) [(2, bV false)] [] 1 ⟨zo, rfl, zo, (by have h0 := (jY r rn 1000 768000 zo zo); rw [hx3] at h0; exact h0)⟩ ?_
    refine AW.ret ?_
    exact kC (.inr rfl) [] (P := ((dK k r rn m s sn) = false)) zk (by exact u68 (by assumption))
  ·refine kI (.no :: .no :: .b true :: .no :: .no :: .no :: .i (eH k) :: .b false :: kT 8 []) (((k ≠ 0)) ∧ (qI .andNot .i64 k 254 = (eH k)) ∧ (¬ ((eH k) = 0))) [(2, bV false)] [] 1 ⟨zo, rfl, zo⟩ ?_
   refine AW.ret ?_
   exact kC (.inr rfl) [] (P := ((dK k r rn m s sn) = false)) zk (by exact k97 zo)
 ·refine kI (.no :: .no :: .b false :: kT 9 []) (¬ (k ≠ 0)) [(2, bV false)] [] 1 zo ?_
  refine AW.ret ?_
  exact kC (.inr rfl) [] (P := ((dK k r rn m s sn) = false)) zk (by exact k97 zo)
theorem w6 (k : Int) (r : List Int) (rn : Nat) (m : List (List Int)) (c : Nat) (s : List Int) (sn : Nat) (hr : ka0 r = rn * 2) (hs : ka0 s = sn * 2) (hc : ka0 m = c) (h1 : rn ≤ 1000000) (h2 : sn ≤ 1000000) (h3 : c ≤ 1000000) (hW : MsW m) : Fun 46 [.agg [iC k, .d (D.sl (dI .i64 r) rn), .d (D.sl (kL m) c), .d (D.sl (dI .i64 s) sn)]] (kE []) 0 (qS (D.lit (.bool (nxB k r rn m s sn)))) (kE []) 0 := by
 refine Fun.mk (n := 6) Tryz.func46 rfl rfl (ka4 rfl) ?_
 intro cx hcx
 refine kI [.no, .no] True [(1, rV 0 0)] [(0, some (59, .ds [iD k, dl r rn, D.sl (kL m) c, dl s sn]))] 1 trivial ?_
 rcases ka6 (dK k r rn m s sn) with hx1 | hx1
 ·refine kI [.no, .call [] (bV true) [] 0 [] none, .no, .no] (Fun 43 [.agg [iC k, .d (dl r rn), .d (D.sl (kL m) c), .d (dl s sn)]] (kE []) 0 (bV true) (kE []) 0) [(2, bV false)] [] 1 (by have h0 := (j3 k r rn m c s sn zo zo zo zo zo zo (kZ : MsW m)); rw [hx1] at h0; exact h0) ?_
  refine AW.ret ?_
  exact kC (.inr rfl) [] (P := ((nxB k r rn m s sn) = false)) zk (by exact u86 (by assumption))
 ·refine kI [.no, .call [] (bV false) [] 0 [] none, .no, .no] (Fun 43 [.agg [iC k, .d (dl r rn), .d (D.sl (kL m) c), .d (dl s sn)]] (kE []) 0 (bV false) (kE []) 0) [(2, bV true)] [] 1 (by have h0 := (j3 k r rn m c s sn zo zo zo zo zo zo (kZ : MsW m)); rw [hx1] at h0; exact h0) ?_
  refine AW.ret ?_
  exact kC (.inr rfl) [] (P := ((nxB k r rn m s sn) = true)) zk (by exact u85 (by assumption))
theorem u12 (bs : List Bx) (n : Nat) (hn : ka0 bs = n) (h1 : n ≤ 1000000) (hW : BsW bs) : Fun 90 [.c (.d (D.sl (kP bs) n)), .c (.fn 46 [])] (kE []) 0 (iV (tD bs n)) (kE []) 0 := by
 refine Fun.mk (n := 19) Tryz.func90 rfl rfl (ka4 rfl) ?_
 intro cx hcx
 refine kI [.no] True [(0, .e (kQ bs n)), (1, .e (.c (.fn 46 [])))] [] 0 trivial ?_
 refine AW.seq ?_
 refine kN [.no, .no, .no] True [(0, .e (kQ bs n)), (1, .e (.c (.fn 46 []))), (7, uV n), (8, iV 0)] trivial ?_
 refine AW.block ?_
 refine kU 0 hcx (fun (x : {x : Nat // match x with | k => (k ≤ n) ∧ (tD bs k = -1)}) => match x with | ⟨k, _⟩ => (⟨[(0, .e (kQ bs n)), (1, .e (.c (.fn 46 []))), (7, uV n), (8, uV k)], [], 0⟩ : ES)) (fun x => match x with | ⟨k, _⟩ => n - k) ⟨(0 : Nat), ⟨zo, rfl⟩⟩ [] (P := (kJ (kP bs)) ∧ (kG n) ∧ (kM (n : Int)) ∧ (kM 0)) zk ⟨rfl, rfl, rfl, rfl⟩ ?_
 rintro ⟨k, hinv0⟩
 obtain ⟨hk, hi⟩ : (k ≤ n) ∧ (tD bs k = -1) := hinv0
 refine qN (l := [(0, .e (kQ bs n)), (1, .e (.c (.fn 46 []))), (7, uV n), (8, uV k)]) (g := []) (nx := 0) rfl rfl rfl ?_
 by_cases hx1 : (((k : Nat) : Int) < ((n : Nat) : Int))
 ·refine kI [.b true] (((k : Int) < (n : Int))) [(0, .e (kQ bs n)), (1, .e (.c (.fn 46 []))), (7, uV n), (8, uV k), (9, bV true)] [] 0 zo ?_
  refine AW.seq ?_
  refine yW ?_
  refine AW.seq ?_
  refine AW.block ?_
  refine kN [.no, .no] True [(0, .e (kQ bs n)), (1, .e (.c (.fn 46 []))), (5, uV k), (7, uV n), (8, uV k)] trivial ?_
  rcases ka6 (nxB (k9 bs k) (qF bs k) (qB bs k) (kY bs k) (qG bs k) (qC bs k)) with hx7 | hx7
  ·obtain ⟨hx8, hx9, hx10, hx11, hx12⟩ := BsW.at (kZ : BsW bs) (k)
   refine kI [.no, .no, .no, .n k, .ds (uY bs k), .call [] (bV true) [] 0 [] none] ((kM (k : Int)) ∧ (k < n) ∧ (ka5 4 (ka3 (k * 4) (kP bs)) = (uY bs k)) ∧ (((uY bs k) : List D).length = 4) ∧ (Fun 46 [(b8 bs k)] (kE []) 0 (bV true) (kE []) 0)) [(0, .e (kQ bs n)), (1, .e (.c (.fn 46 []))), (5, uV k), (7, uV n), (8, uV k), (16, bV true)] [] 0 ⟨rfl, zo, (yF zo), rfl, (by have h0 := (w6 (k9 bs k) (qF bs k) (qB bs k) (kY bs k) (ka0 (kY bs k)) (qG bs k) (qC bs k) zo zo rfl zo zo zo (BsW.ms (kZ : BsW bs) _)); rw [hx7] at h0; exact h0)⟩ ?_
   refine zt ?_
   refine kN [.no, .no] True [(4, uV k)] trivial ?_
   refine AW.ret ?_
   exact kC (.inr rfl) [] (P := (((tD bs n) : Int) = (k : Int))) zk (by exact u3p hi (by assumption) zo)
  ·obtain ⟨hx13, hx14, hx15, hx16, hx17⟩ := BsW.at (kZ : BsW bs) (k)
   refine kI [.no, .no, .no, .n k, .ds (uY bs k), .call [] (bV false) [] 0 [] none] ((kM (k : Int)) ∧ (k < n) ∧ (ka5 4 (ka3 (k * 4) (kP bs)) = (uY bs k)) ∧ (((uY bs k) : List D).length = 4) ∧ (Fun 46 [(b8 bs k)] (kE []) 0 (bV false) (kE []) 0)) [(0, .e (kQ bs n)), (1, .e (.c (.fn 46 []))), (5, uV k), (7, uV n), (8, uV k), (16, bV false)] [] 0 ⟨rfl, zo, (yF zo), rfl, (by have h0 := (w6 (k9 bs k) (qF bs k) (qB bs k) (kY bs k) (ka0 (kY bs k)) (qG bs k) (qC bs k) zo zo rfl zo zo zo (BsW.ms (kZ : BsW bs) _)); rw [hx7] at h0; exact h0)⟩ ?_
   refine q8 ?_
   refine uJ [.w, .no] (uZ ((k : Int) + 1)) [(0, .e (kQ bs n)), (1, .e (.c (.fn 46 []))), (7, uV n), (8, iV (↑k + 1))] ⟨by omega, by omega⟩ ?_
   exact kX ⟨((k + 1) : Nat), ⟨zo, (u3o hi (by assumption))⟩⟩ [] (P := (kJ (kP bs)) ∧ (kG n) ∧ (kM (n : Int)) ∧ (vX k)) zk ⟨rfl, rfl, rfl, (by rfl)⟩ (show n - (k + 1) < n - k from zo)
 ·refine kI [.b false] (¬ ((k : Int) < (n : Int))) [(0, .e (kQ bs n)), (1, .e (.c (.fn 46 []))), (7, uV n), (8, uV k), (9, bV false)] [] 0 zo ?_
  refine AW.seq ?_
  refine zf ?_
  refine AW.exit ?_
  refine kI [.no] True [(4, iV (-1))] [] 0 trivial ?_
  refine AW.ret ?_
  exact kC (.inr rfl) [] (P := (((tD bs n) : Int) = (-1))) zk (by (rw [show n = k by omega]; exact hi))
theorem u15 (bs : List Bx) (n : Nat) (hn : ka0 bs = n) (h1 : n ≤ 1000000) (hW : BsW bs) : Fun 45 [.c (.d (D.sl (kP bs) n)), .c (.fn 46 [])] (kE []) 0 (qS (D.lit (.bool (naB bs n)))) (kE []) 0 := by
 refine Fun.mk (n := 9) Tryz.func45 rfl rfl (ka4 rfl) ?_
 intro cx hcx
 refine kI [.no] True [(0, .e (kQ bs n)), (1, .e (.c (.fn 46 [])))] [] 0 trivial ?_
 by_cases hx1 : ((0 : Int) ≤ (tD bs n))
 ·refine kN [.no, .no, .call [] (iV (tD bs n)) [] 0 [] none, .b true, .no] ((_) ∧ (((0 : Int) ≤ (tD bs n)))) [(4, bV true)] ⟨(u12 bs n zo zo (kZ : BsW bs)), zo⟩ ?_
  refine AW.ret ?_
  exact kC (.inr rfl) [] (P := ((naB bs n) = true)) zk (by exact decide_eq_true zo)
 ·refine kN [.no, .no, .call [] (iV (tD bs n)) [] 0 [] none, .b false, .no] ((_) ∧ (¬ ((0 : Int) ≤ (tD bs n)))) [(4, bV false)] ⟨(u12 bs n zo zo (kZ : BsW bs)), zo⟩ ?_
  refine AW.ret ?_
  exact kC (.inr rfl) [] (P := ((naB bs n) = false)) zk (by exact decide_eq_false zo)
theorem v9 (bs : List Bx) (n : Nat) (hn : ka0 bs = n) (h1 : n ≤ 1000000) (hW : BsW bs) : Fun 18 [.c (.d (D.sl (kP bs) n))] (kE []) 0 (qS (D.lit (.bool (aJ bs)))) (kE []) 0 := by
 refine Fun.mk (n := 11) Tryz.func18 rfl rfl (ka4 rfl) ?_
 intro cx hcx
 refine kI [.no] True [(0, .e (kQ bs n))] [] 0 trivial ?_
 by_cases hx1 : (((n : Nat) : Int) ≤ 64)
 ·rcases ka6 (naB bs n) with hx2 | hx2
  ·refine kN [.no, .no, .b true, .no, .no, .call [] (bV true) [] 0 [] none, .no, .no, .no] ((((n : Int) ≤ 64)) ∧ (Fun 45 [.c (.d (D.sl (kP bs) n)), .c (.fn 46 [])] (kE []) 0 (bV true) (kE []) 0)) [(2, bV false)] ⟨zo, (by have h0 := (u15 bs n zo zo (kZ : BsW bs)); rw [hx2] at h0; exact h0)⟩ ?_
   refine AW.ret ?_
   exact kC (.inr rfl) [] (P := ((aJ bs) = false)) zk (by exact u89 hn (by assumption))
  ·refine kN [.no, .no, .b true, .no, .no, .call [] (bV false) [] 0 [] none, .no, .no, .no] ((((n : Int) ≤ 64)) ∧ (Fun 45 [.c (.d (D.sl (kP bs) n)), .c (.fn 46 [])] (kE []) 0 (bV false) (kE []) 0)) [(2, bV true)] ⟨zo, (by have h0 := (u15 bs n zo zo (kZ : BsW bs)); rw [hx2] at h0; exact h0)⟩ ?_
   refine AW.ret ?_
   exact kC (.inr rfl) [] (P := ((aJ bs) = true)) zk (by exact u88 hn zo (by assumption))
 ·refine kN [.no, .no, .b false, .no, .no, .no] (¬ ((n : Int) ≤ 64)) [(2, bV false)] zo ?_
  refine AW.ret ?_
  exact kC (.inr rfl) [] (P := ((aJ bs) = false)) zk (by exact u3l zo)
theorem i9 (bs : List Bx) (n : Nat) (hn : ka0 bs = n) (h1 : n ≤ 1000000) (hW : BsW bs) : Fun 49 [.c (.d (D.sl (kP bs) n))] (kE []) 0 (.e (qW (kH bs))) (kE []) 0 := by
 refine Fun.mk (n := 7) Tryz.func49 rfl rfl (ka4 rfl) ?_
 intro cx hcx
 refine kI [.no] True [(0, .e (kQ bs n))] [] 0 trivial ?_
 refine AW.seq ?_
 rcases ka6 (aJ bs) with hx1 | hx1
 ·refine kN [.no, .call [] (bV true) [] 0 [] none, .no] (Fun 18 [.c (.d (D.sl (kP bs) n))] (kE []) 0 (bV true) (kE []) 0) [(0, .e (kQ bs n)), (5, bV false)] (by have h0 := (v9 bs n zo zo (kZ : BsW bs)); rw [hx1] at h0; exact h0) ?_
  refine q8 ?_
  refine kN [.no, .no] True [(2, .e (kQ bs n))] trivial ?_
  have hz1 : kH bs = bs := k19 hx1
  have hz2 : ka0 (kH bs) = n := by rw [hz1]; first | rfl | omega
  refine AW.ret ?_
  exact kC (.inr rfl) [] (P := (((kP (kH bs)) : List D) = (kP bs)) ∧ (((ka0 (kH bs)) : Nat) = n)) zk ⟨(by (rw [hz1]; done)), zo⟩
 ·refine kN [.no, .call [] (bV false) [] 0 [] none, .no] (Fun 18 [.c (.d (D.sl (kP bs) n))] (kE []) 0 (bV false) (kE []) 0) [(0, .e (kQ bs n)), (5, bV true)] (by have h0 := (v9 bs n zo zo (kZ : BsW bs)); rw [hx1] at h0; exact h0) ?_
  refine zt ?_
  refine kN [.no] True [(2, nV)] trivial ?_
  have hz1 : kH bs = [] := k6l hx1
  have hz2 : ka0 (kH bs) = 0 := by rw [hz1]; first | rfl | omega
  refine yV (l' := [(2, qJ ([] : List D) 0)]) (g' := []) (NlS.cons rfl (.e (.c .nil)) NlS.nil) NlG.nil ?_
  refine AW.ret ?_
  exact kC (.inr rfl) [] (P := (((kP (kH bs)) : List D) = ([] : List D)) ∧ (((ka0 (kH bs)) : Nat) = 0)) zk ⟨(by (rw [hz1]; rfl)), zo⟩
theorem i6 (q : Int)  : Fun 54 [iE q] (kE []) 0 (qS (D.lit (.bool (decide (1 ≤ q ∧ q ≤ 7))))) (kE []) 0 := by
 refine Fun.mk (n := 9) Tryz.func54 rfl rfl (ka4 rfl) ?_
 intro cx hcx
 refine kI [.no] True [(0, iV q)] [] 0 trivial ?_
 by_cases hx1 : ((1 : Int) ≤ q)
 ·by_cases hx2 : (q ≤ 7)
  ·refine kN [.no, .b true, .no, .no, .b true, .no, .no] ((((1 : Int) ≤ q)) ∧ ((q ≤ 7))) [(2, bV true)] ⟨zo, zo⟩ ?_
   refine AW.ret ?_
   exact kC (.inr rfl) [] (P := ((decide (1 ≤ q ∧ q ≤ 7)) = true)) zk (by exact decide_eq_true zo)
  ·refine kN [.no, .b true, .no, .no, .b false, .no, .no] ((((1 : Int) ≤ q)) ∧ (¬ (q ≤ 7))) [(2, bV false)] ⟨zo, zo⟩ ?_
   refine AW.ret ?_
   exact kC (.inr rfl) [] (P := ((decide (1 ≤ q ∧ q ≤ 7)) = false)) zk (by exact decide_eq_false zo)
 ·refine kN [.no, .b false, .no, .no, .no] (¬ ((1 : Int) ≤ q)) [(2, bV false)] zo ?_
  refine AW.ret ?_
  exact kC (.inr rfl) [] (P := ((decide (1 ≤ q ∧ q ≤ 7)) = false)) zk (by exact decide_eq_false zo)
theorem u72 (k : Int) (r : List Int) (rn : Nat) (m : List (List Int)) (c : Nat) (s : List Int) (sn : Nat) (q : Nat) (cr : Int) (cm : List Int) (cn : Nat) (cz : Int) (hr : ka0 r = rn * 2) (hs : ka0 s = sn * 2) (hc : ka0 m = c) (h1 : rn ≤ 1000000) (h2 : sn ≤ 1000000) (h3 : c ≤ 1000000) (hW : MsW m) (hm : ka0 cm = cn) (h4 : cn ≤ 1000000) (hq : q ≤ 64) : Fun 51 [.agg [iC k, .d (D.sl (dI .i64 r) rn), .d (D.sl (kL m) c), .d (D.sl (dI .i64 s) sn)], .agg [iC ((q : Nat) : Int), iC cr, .d (D.sl (dI .i64 cm) cn), iC cz]] (kE []) 0 (qS (D.lit (.bool (eK k r rn m s sn (q : Int) cr cm cz)))) (kE []) 0 := by
 refine Fun.mk (n := 42) Tryz.func51 rfl rfl (ka4 rfl) ?_
 intro cx hcx
 refine kI [.no, .no, .no] True [(2, rV 0 0), (3, rV 1 0)] [(0, some (59, .ds [iD k, dl r rn, D.sl (kL m) c, dl s sn])), (1, some (27, .ds [uD q, iD cr, dl cm cn, iD cz]))] 2 trivial ?_
 rcases ka6 (decide (1 ≤ ((q : Nat) : Int) ∧ ((q : Nat) : Int) ≤ 7)) with hx1 | hx1
 ·have hx2 : (((1 : Int) ≤ ((q : Nat) : Int)) ∧ (((q : Nat) : Int) ≤ 7)) := of_decide_eq_true hx1
  by_cases hx3 : ((cG (k / (((2 ^ q) : Nat) : Int))) = 1)
  ·rcases ka6 (gI (kB r rn) cr) with hx4 | hx4
   ·rcases ka6 (d9 m cm) with hx5 | hx5
    ·rcases ka6 (gI (kB s sn) cz) with hx6 | hx6
     ·refine kI (.no :: .no :: .no :: .call [] (bV true) [] 0 [] none :: kT 6 (.n q :: .i (cG (k / (((2 ^ q) : Nat) : Int))) :: .b true :: kT 7 (.call [] (bV true) [] 0 [] none :: kT 7 (.call [] (bV true) [] 0 [] none :: kT 6 [.call [] (bV true) [] 0 [] none, .no, .no])))) ((Fun 54 [uE q] (kE []) 0 (bV true) (kE []) 0) ∧ (kM (q : Int)) ∧ (q ≤ 64) ∧ (qI .and .i64 (k / (((2 ^ q) : Nat) : Int)) 1 = (cG (k / (((2 ^ q) : Nat) : Int)))) ∧ (((cG (k / (((2 ^ q) : Nat) : Int))) = 1)) ∧ (Fun 95 [.agg [.d (dl r rn)], iE cr] (kE []) 0 (bV true) (kE []) 0) ∧ (Fun 96 [.c (.d (D.sl (kL m) c)), .c (.d (dl cm cn))] (kE []) 0 (bV true) (kE []) 0) ∧ (Fun 95 [.agg [.d (dl s sn)], iE cz] (kE []) 0 (bV true) (kE []) 0)) [(4, bV true)] [] 2 ⟨(by have h0 := (i6 (q : Int)); rw [hx1] at h0; exact h0), rfl, zo, rfl, zo, (by have h0 := (pB r rn cr zo zo); rw [hx4] at h0; exact h0), (by have h0 := (i7 m c cm cn zo zo zo zo (kZ : MsW m)); rw [hx5] at h0; exact h0), (by have h0 := (pB s sn cz zo zo); rw [hx6] at h0; exact h0)⟩ ?_
      refine AW.ret ?_
      exact kC (.inr rfl) [] (P := ((eK k r rn m s sn (q : Int) cr cm cz) = true)) zk (by exact u6h (by exact u8j zo zo) (by assumption) (by assumption) (by assumption))
     ·refine kI (.no :: .no :: .no :: .call [] (bV true) [] 0 [] none :: kT 6 (.n q :: .i (cG (k / (((2 ^ q) : Nat) : Int))) :: .b true :: kT 7 (.call [] (bV true) [] 0 [] none :: kT 7 (.call [] (bV true) [] 0 [] none :: kT 6 [.call [] (bV false) [] 0 [] none, .no, .no])))) ((Fun 54 [uE q] (kE []) 0 (bV true) (kE []) 0) ∧ (kM (q : Int)) ∧ (q ≤ 64) ∧ (qI .and .i64 (k / (((2 ^ q) : Nat) : Int)) 1 = (cG (k / (((2 ^ q) : Nat) : Int)))) ∧ (((cG (k / (((2 ^ q) : Nat) : Int))) = 1)) ∧ (Fun 95 [.agg [.d (dl r rn)], iE cr] (kE []) 0 (bV true) (kE []) 0) ∧ (Fun 96 [.c (.d (D.sl (kL m) c)), .c (.d (dl cm cn))] (kE []) 0 (bV true) (kE []) 0) ∧ (Fun 95 [.agg [.d (dl s sn)], iE cz] (kE []) 0 (bV false) (kE []) 0)) [(4, bV false)] [] 2 ⟨(by have h0 := (i6 (q : Int)); rw [hx1] at h0; exact h0), rfl, zo, rfl, zo, (by have h0 := (pB r rn cr zo zo); rw [hx4] at h0; exact h0), (by have h0 := (i7 m c cm cn zo zo zo zo (kZ : MsW m)); rw [hx5] at h0; exact h0), (by have h0 := (pB s sn cz zo zo); rw [hx6] at h0; exact h0)⟩ ?_
      refine AW.ret ?_
      exact kC (.inr rfl) [] (P := ((eK k r rn m s sn (q : Int) cr cm cz) = false)) zk (by exact u6i (by assumption))
    ·refine kI (.no :: .no :: .no :: .call [] (bV true) [] 0 [] none :: kT 6 (.n q :: .i (cG (k / (((2 ^ q) : Nat) : Int))) :: .b true :: kT 7 (.call [] (bV true) [] 0 [] none :: kT 7 (.call [] (bV false) [] 0 [] none :: kT 4 [])))) ((Fun 54 [uE q] (kE []) 0 (bV true) (kE []) 0) ∧ (kM (q : Int)) ∧ (q ≤ 64) ∧ (qI .and .i64 (k / (((2 ^ q) : Nat) : Int)) 1 = (cG (k / (((2 ^ q) : Nat) : Int)))) ∧ (((cG (k / (((2 ^ q) : Nat) : Int))) = 1)) ∧ (Fun 95 [.agg [.d (dl r rn)], iE cr] (kE []) 0 (bV true) (kE []) 0) ∧ (Fun 96 [.c (.d (D.sl (kL m) c)), .c (.d (dl cm cn))] (kE []) 0 (bV false) (kE []) 0)) [(4, bV false)] [] 2 ⟨(by have h0 := (i6 (q : Int)); rw [hx1] at h0; exact h0), rfl, zo, rfl, zo, (by have h0 := (pB r rn cr zo zo); rw [hx4] at h0; exact h0), (by have h0 := (i7 m c cm cn zo zo zo zo (kZ : MsW m)); rw [hx5] at h0; exact h0)⟩ ?_
     refine AW.ret ?_
     exact kC (.inr rfl) [] (P := ((eK k r rn m s sn (q : Int) cr cm cz) = false)) zk (by exact u6k (by assumption))
   ·refine kI (.no :: .no :: .no :: .call [] (bV true) [] 0 [] none :: kT 6 (.n q :: .i (cG (k / (((2 ^ q) : Nat) : Int))) :: .b true :: kT 7 (.call [] (bV false) [] 0 [] none :: kT 6 []))) ((Fun 54 [uE q] (kE []) 0 (bV true) (kE []) 0) ∧ (kM (q : Int)) ∧ (q ≤ 64) ∧ (qI .and .i64 (k / (((2 ^ q) : Nat) : Int)) 1 = (cG (k / (((2 ^ q) : Nat) : Int)))) ∧ (((cG (k / (((2 ^ q) : Nat) : Int))) = 1)) ∧ (Fun 95 [.agg [.d (dl r rn)], iE cr] (kE []) 0 (bV false) (kE []) 0)) [(4, bV false)] [] 2 ⟨(by have h0 := (i6 (q : Int)); rw [hx1] at h0; exact h0), rfl, zo, rfl, zo, (by have h0 := (pB r rn cr zo zo); rw [hx4] at h0; exact h0)⟩ ?_
    refine AW.ret ?_
    exact kC (.inr rfl) [] (P := ((eK k r rn m s sn (q : Int) cr cm cz) = false)) zk (by exact u6j (by assumption))
  ·refine kI (.no :: .no :: .no :: .call [] (bV true) [] 0 [] none :: kT 6 (.n q :: .i (cG (k / (((2 ^ q) : Nat) : Int))) :: .b false :: kT 8 [])) ((Fun 54 [uE q] (kE []) 0 (bV true) (kE []) 0) ∧ (kM (q : Int)) ∧ (q ≤ 64) ∧ (qI .and .i64 (k / (((2 ^ q) : Nat) : Int)) 1 = (cG (k / (((2 ^ q) : Nat) : Int)))) ∧ (¬ ((cG (k / (((2 ^ q) : Nat) : Int))) = 1))) [(4, bV false)] [] 2 ⟨(by have h0 := (i6 (q : Int)); rw [hx1] at h0; exact h0), rfl, zo, rfl, zo⟩ ?_
   refine AW.ret ?_
   exact kC (.inr rfl) [] (P := ((eK k r rn m s sn (q : Int) cr cm cz) = false)) zk (by exact k9c (u8k zo))
 ·have hx7 : ¬ (((1 : Int) ≤ ((q : Nat) : Int)) ∧ (((q : Nat) : Int) ≤ 7)) := of_decide_eq_false hx1
  refine kI (.no :: .no :: .no :: .call [] (bV false) [] 0 [] none :: kT 9 []) (Fun 54 [uE q] (kE []) 0 (bV false) (kE []) 0) [(4, bV false)] [] 2 (by have h0 := (i6 (q : Int)); rw [hx1] at h0; exact h0) ?_
  refine AW.ret ?_
  exact kC (.inr rfl) [] (P := ((eK k r rn m s sn (q : Int) cr cm cz) = false)) zk (by exact k9c (k85 zo))
theorem u71 (k : Int) (r : List Int) (rn : Nat) (m : List (List Int)) (c : Nat) (s : List Int) (sn : Nat) (ck cr : Int) (cm : List Int) (cn : Nat) (cz : Int) (hr : ka0 r = rn * 2) (hs : ka0 s = sn * 2) (hc : ka0 m = c) (h1 : rn ≤ 1000000) (h2 : sn ≤ 1000000) (h3 : c ≤ 1000000) (hW : MsW m) (hm : ka0 cm = cn) (h4 : cn ≤ 1000000) (hq : ¬ (1 ≤ ck ∧ ck ≤ 7)) : Fun 51 [.agg [iC k, .d (D.sl (dI .i64 r) rn), .d (D.sl (kL m) c), .d (D.sl (dI .i64 s) sn)], .agg [iC ck, iC cr, .d (D.sl (dI .i64 cm) cn), iC cz]] (kE []) 0 (qS (D.lit (.bool (eK k r rn m s sn ck cr cm cz)))) (kE []) 0 := by
 refine Fun.mk (n := 42) Tryz.func51 rfl rfl (ka4 rfl) ?_
 intro cx hcx
 refine kI [.no, .no, .no] True [(2, rV 0 0), (3, rV 1 0)] [(0, some (59, .ds [iD k, dl r rn, D.sl (kL m) c, dl s sn])), (1, some (27, .ds [iD ck, iD cr, dl cm cn, iD cz]))] 2 trivial ?_
 refine kI (.no :: .no :: .no :: .call [] (bV false) [] 0 [] none :: kT 9 []) _ [(4, bV false)] [] 2 (Fun.y (i6 ck) (y' := bV false) (congrArg (fun b => LV (.bool b)) (decide_eq_false zo))) ?_
 refine AW.ret ?_
 exact kC (.inr rfl) [] (P := ((eK k r rn m s sn ck cr cm cz) = false)) zk (by exact k9c (k85 zo))
theorem u9b (k : Int) (r : List Int) (rn : Nat) (m : List (List Int)) (c : Nat) (s : List Int) (sn : Nat) (ck cr : Int) (cm : List Int) (cn : Nat) (cz : Int) (hr : ka0 r = rn * 2) (hs : ka0 s = sn * 2) (hc : ka0 m = c) (h1 : rn ≤ 1000000) (h2 : sn ≤ 1000000) (h3 : c ≤ 1000000) (hW : MsW m) (hm : ka0 cm = cn) (h4 : cn ≤ 1000000) : Fun 51 [.agg [iC k, .d (D.sl (dI .i64 r) rn), .d (D.sl (kL m) c), .d (D.sl (dI .i64 s) sn)], .agg [iC ck, iC cr, .d (D.sl (dI .i64 cm) cn), iC cz]] (kE []) 0 (qS (D.lit (.bool (eK k r rn m s sn ck cr cm cz)))) (kE []) 0 := by
 by_cases h9 : 1 ≤ ck ∧ ck ≤ 7
 ·obtain ⟨q, rfl⟩ : ∃ q : Nat, ck = (q : Int) := ⟨Int.toNat ck, by omega⟩
  exact u72 k r rn m c s sn q cr cm cn cz hr hs hc h1 h2 h3 hW hm h4 (by omega)
 ·exact u71 k r rn m c s sn ck cr cm cn cz hr hs hc h1 h2 h3 hW hm h4 h9
theorem k1n (k : Int) (r : List Int) (rn : Nat) (m : List (List Int)) (c : Nat) (s : List Int) (sn : Nat) (ck cr : Int) (cm : List Int) (cn : Nat) (cz : Int) (hr : ka0 r = rn * 2) (hs : ka0 s = sn * 2) (hc : ka0 m = c) (h1 : rn ≤ 1000000) (h2 : sn ≤ 1000000) (h3 : c ≤ 1000000) (hW : MsW m) (hm : ka0 cm = cn) (h4 : cn ≤ 1000000) : Fun 50 [.agg [iC k, .d (D.sl (dI .i64 r) rn), .d (D.sl (kL m) c), .d (D.sl (dI .i64 s) sn)], .c (.ptr 0 0)] (kE [(0, some (27, .ds [iD ck, iD cr, D.sl (dI .i64 cm) cn, iD cz]))]) 1 (qS (D.lit (.bool (eK k r rn m s sn ck cr cm cz)))) (kE [(0, some (27, .ds [iD ck, iD cr, D.sl (dI .i64 cm) cn, iD cz]))]) 1 := by
 refine Fun.mk (n := 7) Tryz.func50 rfl rfl (ka4 rfl) ?_
 intro cx hcx
 refine kI [.no, .no] True [(1, rV 0 0), (2, rV 1 0)] [(0, some (27, .ds [iD ck, iD cr, dl cm cn, iD cz])), (1, some (59, .ds [iD k, dl r rn, D.sl (kL m) c, dl s sn]))] 2 trivial ?_
 refine kI [.no, .no, .call [] (qS (D.lit (.bool (eK k r rn m s sn ck cr cm cz)))) [] 0 [] none, .no] _ [(3, qS (D.lit (.bool (eK k r rn m s sn ck cr cm cz))))] [(0, some (27, .ds [iD ck, iD cr, dl cm cn, iD cz]))] 2 (u9b k r rn m c s sn ck cr cm cn cz zo zo zo zo zo zo (kZ : MsW m) zo zo) ?_
 refine AW.ret ?_
 exact kC (.inr rfl) [] (P := ((eK k r rn m s sn ck cr cm cz) = (eK k r rn m s sn ck cr cm cz)) ∧ (kJ [iD ck, iD cr, dl cm cn, iD cz])) zk ⟨rfl, rfl⟩
abbrev vP (ck : Int) (cr : Int) (cm : List Int) (cn : Nat) (cz : Int) : BC := .ds [iD ck, iD cr, D.sl (dI .i64 cm) cn, iD cz]
theorem u14 (bs : List Bx) (n : Nat) (ck cr : Int) (cm : List Int) (cn : Nat) (cz : Int) (hn : ka0 bs = n) (h1 : n ≤ 1000000) (hW : BsW bs) (hm : ka0 cm = cn) (h4 : cn ≤ 1000000) : Fun 90 [.c (.d (D.sl (kP bs) n)), .c (.fn 50 [(0, 0)])] (kE [(0, some (27, .ds [iD ck, iD cr, D.sl (dI .i64 cm) cn, iD cz]))]) 1 (iV (xG bs ck cr cm cz n)) (kE [(0, some (27, .ds [iD ck, iD cr, D.sl (dI .i64 cm) cn, iD cz]))]) 1 := by
 refine Fun.mk (n := 19) Tryz.func90 rfl rfl (ka4 rfl) ?_
 intro cx hcx
 refine kI [.no] True [(0, .e (kQ bs n)), (1, .e (.c (.fn 50 [(0, 0)])))] [(0, some (27, (vP ck cr cm cn cz)))] 1 trivial ?_
 refine AW.seq ?_
 refine kN [.no, .no, .no] True [(0, .e (kQ bs n)), (1, .e (.c (.fn 50 [(0, 0)]))), (7, uV n), (8, iV 0)] trivial ?_
 refine AW.block ?_
 refine kU 1 hcx (fun (x : {x : Nat // match x with | k => (k ≤ n) ∧ (xG bs ck cr cm cz k = -1)}) => match x with | ⟨k, _⟩ => (⟨[(0, .e (kQ bs n)), (1, .e (.c (.fn 50 [(0, 0)]))), (7, uV n), (8, uV k)], [(0, some (27, (vP ck cr cm cn cz)))], 1⟩ : ES)) (fun x => match x with | ⟨k, _⟩ => n - k) ⟨(0 : Nat), ⟨zo, rfl⟩⟩ [] (P := (kJ (kP bs)) ∧ (kG n) ∧ (kM (n : Int)) ∧ (kM 0) ∧ (kJ [iD ck, iD cr, dl cm cn, iD cz])) zk ⟨rfl, rfl, rfl, rfl, rfl⟩ ?_
 rintro ⟨k, hinv0⟩
 obtain ⟨hk, hi⟩ : (k ≤ n) ∧ (xG bs ck cr cm cz k = -1) := hinv0
 refine qN (l := [(0, .e (kQ bs n)), (1, .e (.c (.fn 50 [(0, 0)]))), (7, uV n), (8, uV k)]) (g := [(0, some (27, (vP ck cr cm cn cz)))]) (nx := 1) rfl rfl rfl ?_
 by_cases hx1 : (((k : Nat) : Int) < ((n : Nat) : Int))
 ·refine kI [.b true] (((k : Int) < (n : Int))) [(0, .e (kQ bs n)), (1, .e (.c (.fn 50 [(0, 0)]))), (7, uV n), (8, uV k), (9, bV true)] [(0, some (27, (vP ck cr cm cn cz)))] 1 zo ?_
  refine AW.seq ?_
  refine yW ?_
  refine AW.seq ?_
  refine AW.block ?_
  refine kN [.no, .no] True [(0, .e (kQ bs n)), (1, .e (.c (.fn 50 [(0, 0)]))), (5, uV k), (7, uV n), (8, uV k)] trivial ?_
  rcases ka6 (eK (k9 bs k) (qF bs k) (qB bs k) (kY bs k) (qG bs k) (qC bs k) ck cr cm cz) with hx7 | hx7
  ·obtain ⟨hx8, hx9, hx10, hx11, hx12⟩ := BsW.at (kZ : BsW bs) (k)
   refine kI [.no, .no, .no, .n k, .ds (uY bs k), .call [0] (bV true) [(0, some (27, (vP ck cr cm cn cz)))] 1 [] none] ((kM (k : Int)) ∧ (k < n) ∧ (ka5 4 (ka3 (k * 4) (kP bs)) = (uY bs k)) ∧ (((uY bs k) : List D).length = 4) ∧ (Fun 50 [(b8 bs k), .c (.ptr 0 0)] (kE [(0, some (27, (vP ck cr cm cn cz)))]) 1 (bV true) (kE [(0, some (27, (vP ck cr cm cn cz)))]) 1)) [(0, .e (kQ bs n)), (1, .e (.c (.fn 50 [(0, 0)]))), (5, uV k), (7, uV n), (8, uV k), (16, bV true)] [(0, some (27, (vP ck cr cm cn cz)))] 1 ⟨rfl, zo, (yF zo), rfl, (by have h0 := (k1n (k9 bs k) (qF bs k) (qB bs k) (kY bs k) (ka0 (kY bs k)) (qG bs k) (qC bs k) ck cr cm cn cz zo zo rfl zo zo zo (BsW.ms (kZ : BsW bs) _) zo zo); rw [hx7] at h0; exact h0)⟩ ?_
   refine zt ?_
   refine kN [.no, .no] True [(4, uV k)] trivial ?_
   refine AW.ret ?_
   exact kC (.inr rfl) [] (P := (((xG bs ck cr cm cz n) : Int) = (k : Int)) ∧ (kJ [iD ck, iD cr, dl cm cn, iD cz])) zk ⟨(by exact u6m hi (by assumption) zo), rfl⟩
  ·obtain ⟨hx13, hx14, hx15, hx16, hx17⟩ := BsW.at (kZ : BsW bs) (k)
   refine kI [.no, .no, .no, .n k, .ds (uY bs k), .call [0] (bV false) [(0, some (27, (vP ck cr cm cn cz)))] 1 [] none] ((kM (k : Int)) ∧ (k < n) ∧ (ka5 4 (ka3 (k * 4) (kP bs)) = (uY bs k)) ∧ (((uY bs k) : List D).length = 4) ∧ (Fun 50 [(b8 bs k), .c (.ptr 0 0)] (kE [(0, some (27, (vP ck cr cm cn cz)))]) 1 (bV false) (kE [(0, some (27, (vP ck cr cm cn cz)))]) 1)) [(0, .e (kQ bs n)), (1, .e (.c (.fn 50 [(0, 0)]))), (5, uV k), (7, uV n), (8, uV k), (16, bV false)] [(0, some (27, (vP ck cr cm cn cz)))] 1 ⟨rfl, zo, (yF zo), rfl, (by have h0 := (k1n (k9 bs k) (qF bs k) (qB bs k) (kY bs k) (ka0 (kY bs k)) (qG bs k) (qC bs k) ck cr cm cn cz zo zo rfl zo zo zo (BsW.ms (kZ : BsW bs) _) zo zo); rw [hx7] at h0; exact h0)⟩ ?_
   refine q8 ?_
   refine uJ [.w, .no] (uZ ((k : Int) + 1)) [(0, .e (kQ bs n)), (1, .e (.c (.fn 50 [(0, 0)]))), (7, uV n), (8, iV (↑k + 1))] ⟨by omega, by omega⟩ ?_
   exact kX ⟨((k + 1) : Nat), ⟨zo, (u6l hi (by assumption))⟩⟩ [] (P := (kJ (kP bs)) ∧ (kG n) ∧ (kM (n : Int)) ∧ (vX k) ∧ (kJ [iD ck, iD cr, dl cm cn, iD cz])) zk ⟨rfl, rfl, rfl, (by rfl), rfl⟩ (show n - (k + 1) < n - k from zo)
 ·refine kI [.b false] (¬ ((k : Int) < (n : Int))) [(0, .e (kQ bs n)), (1, .e (.c (.fn 50 [(0, 0)]))), (7, uV n), (8, uV k), (9, bV false)] [(0, some (27, (vP ck cr cm cn cz)))] 1 zo ?_
  refine AW.seq ?_
  refine zf ?_
  refine AW.exit ?_
  refine kI [.no] True [(4, iV (-1))] [(0, some (27, (vP ck cr cm cn cz)))] 1 trivial ?_
  refine AW.ret ?_
  exact kC (.inr rfl) [] (P := (((xG bs ck cr cm cz n) : Int) = (-1)) ∧ (kJ [iD ck, iD cr, dl cm cn, iD cz])) zk ⟨(by (rw [show n = k by omega]; exact hi)), rfl⟩
theorem u70 (bs : List Bx) (n : Nat) (ck cr : Int) (cm : List Int) (cn : Nat) (cz : Int) (hn : ka0 bs = n) (h1 : n ≤ 1000000) (hW : BsW bs) (hm : ka0 cm = cn) (h4 : cn ≤ 1000000) : Fun 45 [.c (.d (D.sl (kP bs) n)), .c (.fn 50 [(0, 0)])] (kE [(0, some (27, .ds [iD ck, iD cr, D.sl (dI .i64 cm) cn, iD cz]))]) 1 (qS (D.lit (.bool (dT bs ck cr cm cz)))) (kE [(0, some (27, .ds [iD ck, iD cr, D.sl (dI .i64 cm) cn, iD cz]))]) 1 := by
 refine Fun.mk (n := 9) Tryz.func45 rfl rfl (ka4 rfl) ?_
 intro cx hcx
 refine kI [.no] True [(0, .e (kQ bs n)), (1, .e (.c (.fn 50 [(0, 0)])))] [(0, some (27, .ds [iD ck, iD cr, dl cm cn, iD cz]))] 1 trivial ?_
 by_cases hx1 : ((0 : Int) ≤ (xG bs ck cr cm cz n))
 ·refine kN [.no, .no, .call [0] (iV (xG bs ck cr cm cz n)) [(0, some (27, .ds [iD ck, iD cr, dl cm cn, iD cz]))] 1 [] none, .b true, .no] ((_) ∧ (((0 : Int) ≤ (xG bs ck cr cm cz n)))) [(4, bV true)] ⟨(u14 bs n ck cr cm cn cz zo zo (kZ : BsW bs) zo zo), zo⟩ ?_
  refine AW.ret ?_
  exact kC (.inr rfl) [] (P := ((dT bs ck cr cm cz) = true) ∧ (kJ [iD ck, iD cr, dl cm cn, iD cz])) zk ⟨(by exact u8r hn zo), rfl⟩
 ·refine kN [.no, .no, .call [0] (iV (xG bs ck cr cm cz n)) [(0, some (27, .ds [iD ck, iD cr, dl cm cn, iD cz]))] 1 [] none, .b false, .no] ((_) ∧ (¬ ((0 : Int) ≤ (xG bs ck cr cm cz n)))) [(4, bV false)] ⟨(u14 bs n ck cr cm cn cz zo zo (kZ : BsW bs) zo zo), zo⟩ ?_
  refine AW.ret ?_
  exact kC (.inr rfl) [] (P := ((dT bs ck cr cm cz) = false) ∧ (kJ [iD ck, iD cr, dl cm cn, iD cz])) zk ⟨(by exact u8s hn zo), rfl⟩
theorem nL (bs : List Bx) (n : Nat) (ck cr : Int) (cm : List Int) (cn : Nat) (cz : Int) (hn : ka0 bs = n) (h1 : n ≤ 1000000) (hW : BsW bs) (hm : ka0 cm = cn) (h4 : cn ≤ 1000000) : Fun 21 [.c (.d (D.sl (kP bs) n)), .agg [iC ck, iC cr, .d (D.sl (dI .i64 cm) cn), iC cz]] (kE []) 0 (qS (D.lit (.bool (dT (kH bs) ck cr cm cz)))) (kE []) 0 := by
 refine Fun.mk (n := 9) Tryz.func21 rfl rfl (ka4 rfl) ?_
 intro cx hcx
 refine kI [.no, .no] True [(0, .e (kQ bs n)), (3, rV 0 0)] [(0, some (27, .ds [iD ck, iD cr, dl cm cn, iD cz]))] 1 trivial ?_
 have hx1 : ((ka0 (kH bs)) ≤ n) := (by have h9 := c9 bs; omega)
 refine kI [.no, .call [] (.e (qW (kH bs))) [] 0 [] none, .no, .call [0] (qS (D.lit (.bool (dT (kH bs) ck cr cm cz)))) [(0, some (27, .ds [iD ck, iD cr, dl cm cn, iD cz]))] 1 [] none, .no] ((_) ∧ (_)) [(4, qS (D.lit (.bool (dT (kH bs) ck cr cm cz))))] [] 1 ⟨(i9 bs n zo zo (kZ : BsW bs)), (u70 (kH bs) (ka0 (kH bs)) ck cr cm cn cz rfl zo (aB (kZ : BsW bs)) zo zo)⟩ ?_
 refine AW.ret ?_
 exact kC (.inr rfl) [] (P := ((dT (kH bs) ck cr cm cz) = (dT (kH bs) ck cr cm cz))) zk rfl
end Go.Proofs.YtcfmjpnffembpaaGreat
