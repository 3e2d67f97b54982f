/- Boxes of the code. No statement is proved here. -/
import Derived.Test.YtbicifcgghmhaaaGreatZL10D
namespace Go.Proofs.YtbicifcgghmhaaaGreat
open Go.ChangeShapes Go.WideShapes Go.ChangeAt Go.RowKit
open Bool renaming and_false → kc7, eq_false_or_eq_true → ka9, false_and → kh4
open List renaming drop → ka3, getD → ka1, length → ka0, length_append → ka8, length_cons → kb0, length_drop → kb6, length_nil → kb2, length_replicate → kb5, length_set → kc1, length_take → kb4, take → ka5
open Nat renaming le_of_ble_eq_true → ka4, lt_succ_self → kk4, not_lt_zero → ke0
set_option linter.unusedVariables false
set_option linter.unusedSimpArgs false
/-! chapter 10: the code's lists of boxes -/
set_option maxHeartbeats 4000000
set_option maxRecDepth 100000
def gY (p : Nat → Bool) : Nat → Int
 | 0 => -1
 | k + 1 => if 0 ≤ gY p k then gY p k else if p k = true then (k : Int) else -1
theorem b8 {p : Nat → Bool} {k : Nat} (h : gY p k = -1) (h2 : p k = false) : gY p (k + 1) = -1 := by
 show (if 0 ≤ gY p k then _ else _) = _
 rw [if_neg (by omega), if_neg (by rw [h2]; decide)]
theorem d5 {p : Nat → Bool} {k : Nat} (h : gY p k = -1) (h2 : p k = true) : ∀ n, k < n → gY p n = (k : Int)
 | 0, h3 => absurd h3 (ke0 k)
 | n + 1, h3 => by
  show (if 0 ≤ gY p n then _ else _) = _
  by_cases e : k = n
  ·subst e; rw [if_neg (by omega), if_pos h2]
  ·have h4 := d5 h h2 n (by omega)
   rw [if_pos (by omega), h4]
theorem fS (p : Nat → Bool) : ∀ n, (gY p n = -1 ∧ ∀ j, j < n → p j = false) ∨ ∃ k, k < n ∧ gY p n = (k : Int) ∧ p k = true
 | 0 => .inl ⟨rfl, fun j h => absurd h (ke0 j)⟩
 | n + 1 => by
  rcases fS p n with ⟨h1, h2⟩ | ⟨k, hk, h1, h2⟩
  ·cases e : p n with
   | false => exact .inl ⟨b8 h1 e, fun j hj => (Nat.lt_succ_iff_lt_or_eq.1 hj).elim (h2 j) fun e9 => e9 ▸ e⟩
   | true => exact .inr ⟨n, kk4 n, d5 h1 e _ (kk4 n), e⟩
  ·refine .inr ⟨k, by omega, ?_, h2⟩
   show (if 0 ≤ gY p n then _ else _) = _
   rw [if_pos (by omega)]; exact h1
theorem pM {p : Nat → Bool} {n : Nat} (h : 0 ≤ gY p n) : ∃ k, k < n ∧ p k = true := by
 rcases fS p n with ⟨h1, _⟩ | ⟨k, hk, _, h2⟩
 ·omega
 ·exact ⟨k, hk, h2⟩
theorem jW {p : Nat → Bool} {n : Nat} (h : ¬ 0 ≤ gY p n) : ∀ j, j < n → p j = false := by
 rcases fS p n with ⟨_, h2⟩ | ⟨k, hk, h1, _⟩
 ·exact h2
 ·omega
def zH (ms : List (List Int)) (m : List Int) : Nat → Int := gY fun j => aJ (ka1 ms j []) m
theorem v26 {ms : List (List Int)} {m : List Int} {c : Nat} (hc : ms.length = c) (h : 0 ≤ zH ms m c) : gX ms m = true := by
 obtain ⟨k, hk, h1⟩ := pM h
 exact v5s (k := k) (by omega) h1
theorem v29 {ms : List (List Int)} {m : List Int} {c : Nat} (hc : ms.length = c) (h : ¬ 0 ≤ zH ms m c) : gX ms m = false :=
 v5t fun j hj => jW h j (by omega)
def t6 (bs : List Bx) : Nat → Int := gY fun j => !(vbE bs j)
theorem u9w {bs : List Bx} {n : Nat} (hn : bs.length = n) (h : 0 ≤ t6 bs n) : cF bs = false := by
 obtain ⟨k, hk, h1⟩ := pM h
 exact v48 (k := k) (by omega) (by simpa using h1)
theorem u9z {bs : List Bx} {n : Nat} (hn : bs.length = n) (h2 : n ≤ 64) (h : ¬ 0 ≤ t6 bs n) : cF bs = true :=
 u6u (by omega) fun j hj => by
  have h3 := jW h j (by omega)
  simpa using h3
def kjB (b q : Int) : Bool := decide (1 ≤ q ∧ q ≤ 7) && gQ b q.toNat
theorem v21 {b q : Int} (h : ¬ (1 ≤ q ∧ q ≤ 7)) : kjB b q = false := by unfold kjB; rw [decide_eq_false h]; rfl
theorem u7w {b : Int} {q : Nat} : kjB b (q : Int) = gQ b q := by
 unfold kjB
 rw [Int.toNat_natCast]
 by_cases h : 1 ≤ q ∧ q ≤ 7
 ·rw [decide_eq_true (by omega : 1 ≤ (q : Int) ∧ (q : Int) ≤ 7)]; rfl
 ·rw [decide_eq_false (by omega : ¬ (1 ≤ (q : Int) ∧ (q : Int) ≤ 7))]
  exact (decide_eq_false fun e => h ⟨e.1, e.2.1⟩).symm
def eO (k : Int) (r : List Int) (rn : Nat) (m : List (List Int)) (s : List Int) (sn : Nat) (ck cr : Int) (cm : List Int) (cz : Int) : Bool := kjB k ck && (bA (kB r rn) cr && (gX m cm && bA (kB s sn) cz))
def biE (bs : List Bx) (ck cr : Int) (cm : List Int) (cz : Int) (i : Nat) : Bool := eO (kQ bs i) (kY bs i) (kV bs i) (kT bs i) (kX bs i) (kU bs i) ck cr cm cz
def xH (bs : List Bx) (ck cr : Int) (cm : List Int) (cz : Int) : Bool := decide (∃ i, i < bs.length ∧ biE bs ck cr cm cz i = true)
def zQ (bs : List Bx) (ck cr : Int) (cm : List Int) (cz : Int) : Nat → Int := gY (biE bs ck cr cm cz)
theorem v5u {bs : List Bx} {ck cr : Int} {cm : List Int} {cz : Int} {n : Nat} (hn : bs.length = n) (h : 0 ≤ zQ bs ck cr cm cz n) : xH bs ck cr cm cz = true := by
 obtain ⟨k, hk, h1⟩ := pM h
 exact decide_eq_true ⟨k, by omega, h1⟩
theorem v5v {bs : List Bx} {ck cr : Int} {cm : List Int} {cz : Int} {n : Nat} (hn : bs.length = n) (h : ¬ 0 ≤ zQ bs ck cr cm cz n) : xH bs ck cr cm cz = false :=
 decide_eq_false fun ⟨j, hj, e⟩ => by
  have := jW h j (by omega); rw [e] at this; cases this
theorem v35 {k : Int} {r : List Int} {rn : Nat} {m : List (List Int)} {s : List Int} {sn : Nat} {ck cr : Int} {cm : List Int} {cz : Int} (h1 : kjB k ck = true) (h2 : bA (kB r rn) cr = true) (h3 : gX m cm = true) (h4 : bA (kB s sn) cz = true) : eO k r rn m s sn ck cr cm cz = true := by
 unfold eO; rw [h1, h2, h3, h4]; rfl
theorem u8y {k : Int} {r : List Int} {rn : Nat} {m : List (List Int)} {s : List Int} {sn : Nat} {ck cr : Int} {cm : List Int} {cz : Int} (h1 : kjB k ck = false) : eO k r rn m s sn ck cr cm cz = false := by
 unfold eO; rw [h1]; rfl
theorem v6k {k : Int} {r : List Int} {rn : Nat} {m : List (List Int)} {s : List Int} {sn : Nat} {ck cr : Int} {cm : List Int} {cz : Int} (h2 : bA (kB r rn) cr = false) : eO k r rn m s sn ck cr cm cz = false := by
 unfold eO; rw [h2, kh4, kc7]
theorem v6l {k : Int} {r : List Int} {rn : Nat} {m : List (List Int)} {s : List Int} {sn : Nat} {ck cr : Int} {cm : List Int} {cz : Int} (h3 : gX m cm = false) : eO k r rn m s sn ck cr cm cz = false := by
 unfold eO; rw [h3, kh4, kc7, kc7]
theorem v6j {k : Int} {r : List Int} {rn : Nat} {m : List (List Int)} {s : List Int} {sn : Nat} {ck cr : Int} {cm : List Int} {cz : Int} (h4 : bA (kB s sn) cz = false) : eO k r rn m s sn ck cr cm cz = false := by
 unfold eO; rw [h4, kc7, kc7, kc7]
def uS (a b : List (List Int)) : Nat → List (List Int)
 | 0 => []
 | i + 1 => if gX b (ka1 a i []) = true then uS a b i ++ [ka1 a i []] else uS a b i
theorem v2o {a b o : List (List Int)} {i : Nat} (h : uS a b i = o) (h1 : gX b (ka1 a i []) = true) : uS a b (i + 1) = o ++ [ka1 a i []] := by subst h; exact if_pos h1
theorem v2p {a b o : List (List Int)} {i : Nat} (h : uS a b i = o) (h1 : gX b (ka1 a i []) = false) : uS a b (i + 1) = o := by subst h; exact if_neg (by rw [h1]; decide)
theorem pP {a : List (List Int)} (h : MsW a) (b : List (List Int)) : ∀ i, MsW (uS a b i)
 | 0 => MsW.nil
 | i + 1 => by
  rw [uS]; split
  ·exact (pP h b i).snoc (h.at i)
  ·exact pP h b i
theorem cN (a b : List (List Int)) : ∀ i, ka0 (uS a b i) ≤ i
 | 0 => Nat.le_refl _
 | i + 1 => by
  have := cN a b i
  rw [uS]; split
  ·rw [ka8, List.length_singleton]; omega
  ·omega
theorem v27 {ms : List (List Int)} {m : List Int} {k : Nat} (h : zH ms m k = -1) (h2 : aJ (ka1 ms k []) m = false) : zH ms m (k + 1) = -1 := b8 h h2
theorem v28 {ms : List (List Int)} {m : List Int} {k : Nat} (h : zH ms m k = -1) (h2 : aJ (ka1 ms k []) m = true) {n : Nat} (hn : k < n) : zH ms m n = (k : Int) := d5 h h2 n hn
def nxB (k : Int) (r : List Int) (rn : Nat) (m : List (List Int)) (s : List Int) (sn : Nat) : Bool := !(fF k r rn m s sn)
theorem v55 {k : Int} {r : List Int} {rn : Nat} {m : List (List Int)} {s : List Int} {sn : Nat} (h : fF k r rn m s sn = false) : nxB k r rn m s sn = true := by unfold nxB; rw [h]; rfl
theorem v56 {k : Int} {r : List Int} {rn : Nat} {m : List (List Int)} {s : List Int} {sn : Nat} (h : fF k r rn m s sn = true) : nxB k r rn m s sn = false := by unfold nxB; rw [h]; rfl
theorem u9x {bs : List Bx} {k : Nat} (h : t6 bs k = -1) (h2 : nxB (kQ bs k) (kY bs k) (kV bs k) (kT bs k) (kX bs k) (kU bs k) = false) : t6 bs (k + 1) = -1 := b8 h h2
theorem u9y {bs : List Bx} {k : Nat} (h : t6 bs k = -1) (h2 : nxB (kQ bs k) (kY bs k) (kV bs k) (kT bs k) (kX bs k) (kU bs k) = true) {n : Nat} (hn : k < n) : t6 bs n = (k : Int) := d5 h h2 n hn
def naB (bs : List Bx) (n : Nat) : Bool := decide (0 ≤ t6 bs n)
theorem v5e {bs : List Bx} {n : Nat} (hn : bs.length = n) (h : naB bs n = true) : cF bs = false := u9w hn (of_decide_eq_true h)
theorem v5d {bs : List Bx} {n : Nat} (hn : bs.length = n) (h2 : n ≤ 64) (h : naB bs n = false) : cF bs = true := u9z hn h2 (of_decide_eq_false h)
theorem v5k {b : Int} {q : Nat} (h1 : 1 ≤ q ∧ q ≤ 7) (h : eI (b / ((2 ^ q : Nat) : Int)) = 1) : kjB b (q : Int) = true := by
 rw [u7w]; exact decide_eq_true ⟨h1.1, h1.2, h⟩
theorem v5l {b : Int} {q : Nat} (h : ¬ eI (b / ((2 ^ q : Nat) : Int)) = 1) : kjB b (q : Int) = false := by
 rw [u7w]; exact decide_eq_false fun e => h e.2.2
theorem v36 {bs : List Bx} {ck cr : Int} {cm : List Int} {cz : Int} {k : Nat} (h : zQ bs ck cr cm cz k = -1) (h2 : eO (kQ bs k) (kY bs k) (kV bs k) (kT bs k) (kX bs k) (kU bs k) ck cr cm cz = false) : zQ bs ck cr cm cz (k + 1) = -1 := b8 h h2
theorem v37 {bs : List Bx} {ck cr : Int} {cm : List Int} {cz : Int} {k : Nat} (h : zQ bs ck cr cm cz k = -1) (h2 : eO (kQ bs k) (kY bs k) (kV bs k) (kT bs k) (kX bs k) (kU bs k) ck cr cm cz = true) {n : Nat} (hn : k < n) : zQ bs ck cr cm cz n = (k : Int) := d5 h h2 n hn
theorem u1b (w a : List Int) (o n : Nat) (ho : ka0 w = o) (hn : ka0 a = n) (h1 : o ≤ 1000000) (h2 : n ≤ 1000000) : Fun 154 [.c (.d (D.sl (dI .i64 a) n)), .c (.ptr 0 0)] (kF [(0, some (38, .ds [D.sl (dI .i64 w) o]))]) 1 (uW (D.lit (.bool (aJ a w)))) (kF [(0, some (38, .ds [D.sl (dI .i64 w) o]))]) 1 := by
 refine Fun.mk (n := 7) Tryz.func154 rfl rfl (ka4 rfl) ?_
 intro cx hcx
 refine kH [.no] True [(0, sV .i64 a n), (1, rV 0 0)] [(0, some (38, .ds [dl w o]))] 1 trivial ?_
 refine kS [.no, .no, .call [] (uW (D.lit (.bool (aJ a w)))) [] 0 [] none, .no] _ [(3, uW (D.lit (.bool (aJ a w))))] (tN a w n o zo zo zo zo) ?_
 refine AW.ret ?_
 exact kA (.inr rfl) [] (P := ((aJ a w) = (aJ a w)) ∧ (kJ [dl w o])) zk ⟨rfl, rfl⟩
theorem u6l (ms : List (List Int)) (c : Nat) (w : List Int) (o : Nat) (hc : ka0 ms = c) (ho : ka0 w = o) (h1 : c ≤ 1000000) (h2 : o ≤ 1000000) (hW : MsW ms) : Fun 159 [.c (.d (D.sl (kI ms) c)), .c (.fn 154 [(0, 0)])] (kF [(0, some (38, .ds [D.sl (dI .i64 w) o]))]) 1 (iV (zH ms w c)) (kF [(0, some (38, .ds [D.sl (dI .i64 w) o]))]) 1 := by
 refine Fun.mk (n := 19) Tryz.func159 rfl rfl (ka4 rfl) ?_
 intro cx hcx
 refine kH [.no] True [(0, qC (kI ms) c), (1, .e (.c (.fn 154 [(0, 0)])))] [(0, some (38, .ds [dl w o]))] 1 trivial ?_
 refine AW.seq ?_
 refine kS [.no, .no, .no] True [(0, qC (kI ms) c), (1, .e (.c (.fn 154 [(0, 0)]))), (7, uV c), (8, iV 0)] trivial ?_
 refine AW.block ?_
 refine k8 1 hcx (fun (x : {x : Nat // match x with | k => (k ≤ c) ∧ (zH ms w k = -1)}) => match x with | ⟨k, _⟩ => (⟨[(0, qC (kI ms) c), (1, .e (.c (.fn 154 [(0, 0)]))), (7, uV c), (8, uV k)], [(0, some (38, .ds [dl w o]))], 1⟩ : ES)) (fun x => match x with | ⟨k, _⟩ => c - k) ⟨(0 : Nat), ⟨zo, rfl⟩⟩ [] (P := (kJ (kI ms)) ∧ (kG c) ∧ (kM (c : Int)) ∧ (kM 0) ∧ (kJ [dl w o])) zk ⟨rfl, rfl, rfl, rfl, rfl⟩ ?_
 rintro ⟨k, hinv0⟩
 obtain ⟨hk, hi⟩ : (k ≤ c) ∧ (zH ms w k = -1) := hinv0
 refine qW (l := [(0, qC (kI ms) c), (1, .e (.c (.fn 154 [(0, 0)]))), (7, uV c), (8, uV k)]) (g := [(0, some (38, .ds [dl w o]))]) (nx := 1) rfl rfl rfl ?_
 by_cases hx1 : (((k : Nat) : Int) < ((c : Nat) : Int))
 ·refine kH [.b true] (((k : Int) < (c : Int))) [(0, qC (kI ms) c), (1, .e (.c (.fn 154 [(0, 0)]))), (7, uV c), (8, uV k), (9, bV true)] [(0, some (38, .ds [dl w o]))] 1 zo ?_
  refine AW.seq ?_
  refine vL ?_
  refine AW.seq ?_
  refine AW.block ?_
  refine kS [.no, .no] True [(0, qC (kI ms) c), (1, .e (.c (.fn 154 [(0, 0)]))), (5, uV k), (7, uV c), (8, uV k)] trivial ?_
  rcases ka9 (aJ (ka1 ms k ([] : List Int)) w) with hx3 | hx3
  ·have hx4 : ((ka0 (ka1 ms k ([] : List Int))) ≤ 1000000) := MsW.at (qD : MsW ms) _
   refine kS [.no, .no, .no, .n k, .d (dl (ka1 ms k ([] : List Int)) (ka0 (ka1 ms k ([] : List Int)))), .call [0] (bV true) [(0, some (38, .ds [dl w o]))] 1 [] none] ((kM (k : Int)) ∧ (k < c) ∧ ((ka3 k (kI ms))[0]? = some (dl (ka1 ms k ([] : List Int)) (ka0 (ka1 ms k ([] : List Int))))) ∧ (Fun 154 [.c (.d (dl (ka1 ms k ([] : List Int)) (ka0 (ka1 ms k ([] : List Int))))), .c (.ptr 0 0)] (kF [(0, some (38, .ds [dl w o]))]) 1 (bV true) (kF [(0, some (38, .ds [dl w o]))]) 1)) [(0, qC (kI ms) c), (1, .e (.c (.fn 154 [(0, 0)]))), (5, uV k), (7, uV c), (8, uV k), (16, bV true)] ⟨rfl, zo, (bE _ _ zo), (by have h0 := (u1b w (ka1 ms k ([] : List Int)) o (ka0 (ka1 ms k ([] : List Int))) zo rfl zo zo); rw [hx3] at h0; exact h0)⟩ ?_
   refine zt ?_
   refine kS [.no, .no] True [(4, uV k)] trivial ?_
   refine AW.ret ?_
   exact kA (.inr rfl) [] (P := (((zH ms w c) : Int) = (k : Int)) ∧ (kJ [dl w o])) zk ⟨(by exact v28 hi (by assumption) zo), rfl⟩
  ·have hx5 : ((ka0 (ka1 ms k ([] : List Int))) ≤ 1000000) := MsW.at (qD : MsW ms) _
   refine kS [.no, .no, .no, .n k, .d (dl (ka1 ms k ([] : List Int)) (ka0 (ka1 ms k ([] : List Int)))), .call [0] (bV false) [(0, some (38, .ds [dl w o]))] 1 [] none] ((kM (k : Int)) ∧ (k < c) ∧ ((ka3 k (kI ms))[0]? = some (dl (ka1 ms k ([] : List Int)) (ka0 (ka1 ms k ([] : List Int))))) ∧ (Fun 154 [.c (.d (dl (ka1 ms k ([] : List Int)) (ka0 (ka1 ms k ([] : List Int))))), .c (.ptr 0 0)] (kF [(0, some (38, .ds [dl w o]))]) 1 (bV false) (kF [(0, some (38, .ds [dl w o]))]) 1)) [(0, qC (kI ms) c), (1, .e (.c (.fn 154 [(0, 0)]))), (5, uV k), (7, uV c), (8, uV k), (16, bV false)] ⟨rfl, zo, (bE _ _ zo), (by have h0 := (u1b w (ka1 ms k ([] : List Int)) o (ka0 (ka1 ms k ([] : List Int))) zo rfl zo zo); rw [hx3] at h0; exact h0)⟩ ?_
   refine uO ?_
   refine yA [.w, .no] (u3 ((k : Int) + 1)) [(0, qC (kI ms) c), (1, .e (.c (.fn 154 [(0, 0)]))), (7, uV c), (8, iV (↑k + 1))] ⟨by omega, by omega⟩ ?_
   exact kW ⟨((k + 1) : Nat), ⟨zo, (v27 hi (by assumption))⟩⟩ [] (P := (kJ (kI ms)) ∧ (kG c) ∧ (kM (c : Int)) ∧ (bU k) ∧ (kJ [dl w o])) zk ⟨rfl, rfl, rfl, (by rfl), rfl⟩ (show c - (k + 1) < c - k from zo)
 ·refine kH [.b false] (¬ ((k : Int) < (c : Int))) [(0, qC (kI ms) c), (1, .e (.c (.fn 154 [(0, 0)]))), (7, uV c), (8, uV k), (9, bV false)] [(0, some (38, .ds [dl w o]))] 1 zo ?_
  refine AW.seq ?_
  refine zf ?_
  refine AW.exit ?_
  refine kH [.no] True [(4, iV (-1))] [(0, some (38, .ds [dl w o]))] 1 trivial ?_
  refine AW.ret ?_
  exact kA (.inr rfl) [] (P := (((zH ms w c) : Int) = (-1)) ∧ (kJ [dl w o])) zk ⟨(by (rw [show c = k by omega]; exact hi)), rfl⟩
theorem v3p (ms : List (List Int)) (c : Nat) (w : List Int) (o : Nat) (hc : ka0 ms = c) (ho : ka0 w = o) (h1 : c ≤ 1000000) (h2 : o ≤ 1000000) (hW : MsW ms) : Fun 132 [.c (.d (D.sl (kI ms) c)), .c (.fn 154 [(0, 0)])] (kF [(0, some (38, .ds [D.sl (dI .i64 w) o]))]) 1 (uW (D.lit (.bool (gX ms w)))) (kF [(0, some (38, .ds [D.sl (dI .i64 w) o]))]) 1 := by
 refine Fun.mk (n := 9) Tryz.func132 rfl rfl (ka4 rfl) ?_
 intro cx hcx
 refine kH [.no] True [(0, qC (kI ms) c), (1, .e (.c (.fn 154 [(0, 0)])))] [(0, some (38, .ds [dl w o]))] 1 trivial ?_
 by_cases hx1 : ((0 : Int) ≤ (zH ms w c))
 ·refine kS [.no, .no, .call [0] (iV (zH ms w c)) [(0, some (38, .ds [dl w o]))] 1 [] none, .b true, .no] ((_) ∧ (((0 : Int) ≤ (zH ms w c)))) [(4, bV true)] ⟨(u6l ms c w o zo zo zo zo (qD : MsW ms)), zo⟩ ?_
  refine AW.ret ?_
  exact kA (.inr rfl) [] (P := ((gX ms w) = true) ∧ (kJ [dl w o])) zk ⟨(by exact v26 hc zo), rfl⟩
 ·refine kS [.no, .no, .call [0] (iV (zH ms w c)) [(0, some (38, .ds [dl w o]))] 1 [] none, .b false, .no] ((_) ∧ (¬ ((0 : Int) ≤ (zH ms w c)))) [(4, bV false)] ⟨(u6l ms c w o zo zo zo zo (qD : MsW ms)), zo⟩ ?_
  refine AW.ret ?_
  exact kA (.inr rfl) [] (P := ((gX ms w) = false) ∧ (kJ [dl w o])) zk ⟨(by exact v29 hc zo), rfl⟩
theorem i9 (ms : List (List Int)) (c : Nat) (w : List Int) (o : Nat) (hc : ka0 ms = c) (ho : ka0 w = o) (h1 : c ≤ 1000000) (h2 : o ≤ 1000000) (hW : MsW ms) : Fun 126 [.c (.d (D.sl (kI ms) c)), .c (.d (D.sl (dI .i64 w) o))] (kF []) 0 (uW (D.lit (.bool (gX ms w)))) (kF []) 0 := by
 refine Fun.mk (n := 8) Tryz.func126 rfl rfl (ka4 rfl) ?_
 intro cx hcx
 refine kH [.no, .no] True [(0, qC (kI ms) c), (3, rV 0 0)] [(0, some (38, .ds [dl w o]))] 1 trivial ?_
 refine kH [.no, .no, .call [0] (uW (D.lit (.bool (gX ms w)))) [(0, some (38, .ds [dl w o]))] 1 [] none, .no] _ [(4, uW (D.lit (.bool (gX ms w))))] [] 1 (v3p ms c w o zo zo zo zo (qD : MsW ms)) ?_
 refine AW.ret ?_
 exact kA (.inr rfl) [] (P := ((gX ms w) = (gX ms w))) zk rfl
theorem tQ (m : List (List Int)) (c : Nat) (hc : ka0 m = c) (h1 : c ≤ 1000000) (hW : MsW m) : Fun 129 [.c (.d (D.sl (kI m) c))] (kF []) 0 (uW (D.lit (.bool (mM m)))) (kF []) 0 := by
 refine Fun.mk (n := 31) Tryz.func129 rfl rfl (ka4 rfl) ?_
 intro cx hcx
 refine kH [.no] True [(0, qC (kI m) c)] [] 0 trivial ?_
 refine AW.seq ?_
 by_cases hx1 : (((c : Nat) : Int) < 1)
 ·refine kS [.no, .no, .b true, .no, .no] (((c : Int) < 1)) [(0, qC (kI m) c), (12, bV true)] zo ?_
  refine zt ?_
  refine kS [.no] True [(2, bV false)] trivial ?_
  refine AW.ret ?_
  exact kA (.inr rfl) [] (P := ((mM m) = false)) zk (by exact u9s zo)
 ·by_cases hx2 : ((16 : Int) < ((c : Nat) : Int))
  ·refine kS [.no, .no, .b false, .no, .no, .no, .b true, .no] ((¬ ((c : Int) < 1)) ∧ (((16 : Int) < (c : Int)))) [(0, qC (kI m) c), (12, bV true)] ⟨zo, zo⟩ ?_
   refine zt ?_
   refine kS [.no] True [(2, bV false)] trivial ?_
   refine AW.ret ?_
   exact kA (.inr rfl) [] (P := ((mM m) = false)) zk (by exact u9s zo)
  ·refine kS [.no, .no, .b false, .no, .no, .no, .b false, .no] ((¬ ((c : Int) < 1)) ∧ (¬ ((16 : Int) < (c : Int)))) [(0, qC (kI m) c), (12, bV false)] ⟨zo, zo⟩ ?_
   refine uO ?_
   refine AW.seq ?_
   refine kS [.no, .no, .no] True [(0, qC (kI m) c), (13, qC (kI m) c), (14, uV c), (15, iV 0)] trivial ?_
   refine AW.block ?_
   refine k8 0 hcx (fun (x : {x : Nat // match x with | i => (i ≤ c) ∧ (∀ j, j < i → vmE m j = true)}) => match x with | ⟨i, _⟩ => (⟨[(0, qC (kI m) c), (13, qC (kI m) c), (14, uV c), (15, uV i)], [], 0⟩ : ES)) (fun x => match x with | ⟨i, _⟩ => c - i) ⟨(0 : Nat), ⟨zo, (fun j hj => absurd hj (ke0 j))⟩⟩ [] (P := (kJ (kI m)) ∧ (kG c) ∧ (kJ (kI m)) ∧ (kG c) ∧ (kM (c : Int)) ∧ (kM 0)) zk ⟨rfl, rfl, rfl, rfl, rfl, rfl⟩ ?_
   rintro ⟨i, hinv0⟩
   obtain ⟨hi, ha⟩ : (i ≤ c) ∧ (∀ j, j < i → vmE m j = true) := hinv0
   refine qW (l := [(0, qC (kI m) c), (13, qC (kI m) c), (14, uV c), (15, uV i)]) (g := []) (nx := 0) rfl rfl rfl ?_
   by_cases hx3 : (((i : Nat) : Int) < ((c : Nat) : Int))
   ·refine kH [.b true] (((i : Int) < (c : Int))) [(0, qC (kI m) c), (13, qC (kI m) c), (14, uV c), (15, uV i), (16, bV true)] [] 0 zo ?_
    refine AW.seq ?_
    refine vL ?_
    refine AW.seq ?_
    refine AW.block ?_
    have hx4 : ((ka0 (ka1 m i ([] : List Int))) ≤ 1000000) := MsW.at (qD : MsW m) _
    refine kS [.no, .n i, .d (dl (ka1 m i ([] : List Int)) (ka0 (ka1 m i ([] : List Int)))), .no, .no] ((kM (i : Int)) ∧ (i < c) ∧ ((ka3 i (kI m))[0]? = some (dl (ka1 m i ([] : List Int)) (ka0 (ka1 m i ([] : List Int)))))) [(0, qC (kI m) c), (3, uV i), (4, sV .i64 (ka1 m i ([] : List Int)) (ka0 (ka1 m i ([] : List Int)))), (13, qC (kI m) c), (14, uV c), (15, uV i)] ⟨rfl, zo, (bE _ _ zo)⟩ ?_
    rcases ka9 (t4 (ka1 m i ([] : List Int)) (ka0 (ka1 m i ([] : List Int)))) with hx5 | hx5
    ·rcases ka9 (gX (ka5 i m) (ka1 m i ([] : List Int))) with hx6 | hx6
     ·refine kS (.no :: .call [] (bV true) [] 0 [] none :: qE 4 [.sls 0 i i (kI (ka5 i m)), .no, .call [] (bV true) [] 0 [] none, .no]) ((Fun 156 [.c (.d (dl (ka1 m i ([] : List Int)) (ka0 (ka1 m i ([] : List Int)))))] (kF []) 0 (bV true) (kF []) 0) ∧ (kG 0) ∧ (kM (i : Int)) ∧ ((0 : Nat) ≤ i) ∧ (i ≤ c) ∧ (i - 0 = i) ∧ (ka5 (i * 1) (ka3 (0 * 1) (kI m)) = (kI (ka5 i m))) ∧ (Fun 126 [.c (.d (D.sl (kI (ka5 i m)) i)), .c (.d (dl (ka1 m i ([] : List Int)) (ka0 (ka1 m i ([] : List Int)))))] (kF []) 0 (bV true) (kF []) 0)) [(0, qC (kI m) c), (13, qC (kI m) c), (14, uV c), (15, uV i), (29, bV true)] ⟨(by have h0 := (tM (ka1 m i ([] : List Int)) (ka0 (ka1 m i ([] : List Int))) rfl zo); rw [hx5] at h0; exact h0), rfl, rfl, zo, zo, zo, (wT _ _), (by have h0 := (i9 (ka5 i m) i (ka1 m i ([] : List Int)) (ka0 (ka1 m i ([] : List Int))) (by (simp only [qB, qA, ka8, kb0, kb2, kb4, kb6, kb5, kc1] <;> omega)) rfl zo zo (MsW.take (qD : MsW m) _)); rw [hx6] at h0; exact h0)⟩ ?_
      refine zt ?_
      refine kS [.no] True [(2, bV false)] trivial ?_
      refine AW.ret ?_
      exact kA (.inr rfl) [] (P := ((mM m) = false)) zk (by exact u9t (k := i) zo (by exact u9u (by assumption)))
     ·refine kS (.no :: .call [] (bV true) [] 0 [] none :: qE 4 [.sls 0 i i (kI (ka5 i m)), .no, .call [] (bV false) [] 0 [] none, .no]) ((Fun 156 [.c (.d (dl (ka1 m i ([] : List Int)) (ka0 (ka1 m i ([] : List Int)))))] (kF []) 0 (bV true) (kF []) 0) ∧ (kG 0) ∧ (kM (i : Int)) ∧ ((0 : Nat) ≤ i) ∧ (i ≤ c) ∧ (i - 0 = i) ∧ (ka5 (i * 1) (ka3 (0 * 1) (kI m)) = (kI (ka5 i m))) ∧ (Fun 126 [.c (.d (D.sl (kI (ka5 i m)) i)), .c (.d (dl (ka1 m i ([] : List Int)) (ka0 (ka1 m i ([] : List Int)))))] (kF []) 0 (bV false) (kF []) 0)) [(0, qC (kI m) c), (13, qC (kI m) c), (14, uV c), (15, uV i), (29, bV false)] ⟨(by have h0 := (tM (ka1 m i ([] : List Int)) (ka0 (ka1 m i ([] : List Int))) rfl zo); rw [hx5] at h0; exact h0), rfl, rfl, zo, zo, zo, (wT _ _), (by have h0 := (i9 (ka5 i m) i (ka1 m i ([] : List Int)) (ka0 (ka1 m i ([] : List Int))) (by (simp only [qB, qA, ka8, kb0, kb2, kb4, kb6, kb5, kc1] <;> omega)) rfl zo zo (MsW.take (qD : MsW m) _)); rw [hx6] at h0; exact h0)⟩ ?_
      refine uO ?_
      refine yA [.w, .no] (u3 ((i : Int) + 1)) [(0, qC (kI m) c), (13, qC (kI m) c), (14, uV c), (15, iV (↑i + 1))] ⟨by omega, by omega⟩ ?_
      exact kW ⟨((i + 1) : Nat), ⟨zo, (fun j hj => (Nat.lt_succ_iff_lt_or_eq.1 hj).elim (ha j) (fun e9 => by subst e9; exact u46 (by assumption) (by assumption)))⟩⟩ [] (P := (kJ (kI m)) ∧ (kG c) ∧ (kJ (kI m)) ∧ (kG c) ∧ (kM (c : Int)) ∧ (bU i)) zk ⟨rfl, rfl, rfl, rfl, rfl, (by rfl)⟩ (show c - (i + 1) < c - i from zo)
    ·refine kS [.no, .call [] (bV false) [] 0 [] none, .no, .no, .no] (Fun 156 [.c (.d (dl (ka1 m i ([] : List Int)) (ka0 (ka1 m i ([] : List Int)))))] (kF []) 0 (bV false) (kF []) 0) [(0, qC (kI m) c), (13, qC (kI m) c), (14, uV c), (15, uV i), (29, bV true)] (by have h0 := (tM (ka1 m i ([] : List Int)) (ka0 (ka1 m i ([] : List Int))) rfl zo); rw [hx5] at h0; exact h0) ?_
     refine zt ?_
     refine kS [.no] True [(2, bV false)] trivial ?_
     refine AW.ret ?_
     exact kA (.inr rfl) [] (P := ((mM m) = false)) zk (by exact u9t (k := i) zo (by exact u9v (by assumption)))
   ·refine kH [.b false] (¬ ((i : Int) < (c : Int))) [(0, qC (kI m) c), (13, qC (kI m) c), (14, uV c), (15, uV i), (16, bV false)] [] 0 zo ?_
    refine AW.seq ?_
    refine zf ?_
    refine AW.exit ?_
    refine kH [.no] True [(2, bV true)] [] 0 trivial ?_
    refine AW.ret ?_
    exact kA (.inr rfl) [] (P := ((mM m) = true)) zk (by exact u9r zo zo (fun j hj => ha j zo))
theorem j5 (k : Int) (r : List Int) (rn : Nat) (m : List (List Int)) (c : Nat) (s : List Int) (sn : Nat) (hr : ka0 r = rn * 2) (hs : ka0 s = sn * 2) (hc : ka0 m = c) (h1 : rn ≤ 1000000) (h2 : sn ≤ 1000000) (h3 : c ≤ 1000000) (hW : MsW m) : Fun 92 [.agg [iC k, .d (D.sl (dI .i64 r) rn), .d (D.sl (kI m) c), .d (D.sl (dI .i64 s) sn)]] (kF []) 0 (uW (D.lit (.bool (fF k r rn m s sn)))) (kF []) 0 := by
 refine Fun.mk (n := 27) Tryz.func92 rfl rfl (ka4 rfl) ?_
 intro cx hcx
 refine kH [.no, .no] True [(1, rV 0 0)] [(0, some (63, .ds [iD k, dl r rn, D.sl (kI m) c, dl s sn]))] 1 trivial ?_
 by_cases hx1 : (k ≠ 0)
 ·by_cases hx2 : ((jE k) = 0)
  ·rcases ka9 (eG r rn 1000 768000) with hx3 | hx3
   ·rcases ka9 (mM m) with hx4 | hx4
    ·rcases ka9 (eG s sn 1 65536) with hx5 | hx5
     ·refine kH (.no :: .no :: .b true :: .no :: .no :: .no :: .i (jE k) :: .b true :: qE 4 (.call [] (bV true) [] 0 [] none :: qE 4 (.call [] (bV true) [] 0 [] none :: qE 4 [.call [] (bV true) [] 0 [] none, .no, .no]))) (((k ≠ 0)) ∧ (qF .andNot .i64 k 254 = (jE k)) ∧ (((jE k) = 0)) ∧ (Fun 128 [.agg [.d (dl r rn)], iE 1000, iE 768000] (kF []) 0 (bV true) (kF []) 0) ∧ (Fun 129 [.c (.d (D.sl (kI m) c))] (kF []) 0 (bV true) (kF []) 0) ∧ (Fun 128 [.agg [.d (dl s sn)], iE 1, iE 65536] (kF []) 0 (bV true) (kF []) 0)) [(2, bV true)] [] 1 ⟨zo, rfl, zo, (by have h0 := (j3 r rn 1000 768000 zo zo); rw [hx3] at h0; exact h0), (by have h0 := (tQ m c zo zo (qD : MsW m)); rw [hx4] at h0; exact h0), (by have h0 := (j3 s sn 1 65536 zo zo); rw [hx5] at h0; exact h0)⟩ ?_
      refine AW.ret ?_
      exact kA (.inr rfl) [] (P := ((fF k r rn m s sn) = true)) zk (by exact k4g zo (by assumption) (by assumption) (by assumption))
     ·refine kH (.no :: .no :: .b true :: .no :: .no :: .no :: .i (jE k) :: .b true :: qE 4 (.call [] (bV true) [] 0 [] none :: qE 4 (.call [] (bV true) [] 0 [] none :: qE 4 [.call [] (bV false) [] 0 [] none, .no, .no]))) (((k ≠ 0)) ∧ (qF .andNot .i64 k 254 = (jE k)) ∧ (((jE k) = 0)) ∧ (Fun 128 [.agg [.d (dl r rn)], iE 1000, iE 768000] (kF []) 0 (bV true) (kF []) 0) ∧ (Fun 129 [.c (.d (D.sl (kI m) c))] (kF []) 0 (bV true) (kF []) 0) ∧ (Fun 128 [.agg [.d (dl s sn)], iE 1, iE 65536] (kF []) 0 (bV false) (kF []) 0)) [(2, bV false)] [] 1 ⟨zo, rfl, zo, (by have h0 := (j3 r rn 1000 768000 zo zo); rw [hx3] at h0; exact h0), (by have h0 := (tQ m c zo zo (qD : MsW m)); rw [hx4] at h0; exact h0), (by have h0 := (j3 s sn 1 65536 zo zo); rw [hx5] at h0; exact h0)⟩ ?_
      refine AW.ret ?_
      exact kA (.inr rfl) [] (P := ((fF k r rn m s sn) = false)) zk (by exact v64 (by assumption))
    ·refine kH (.no :: .no :: .b true :: .no :: .no :: .no :: .i (jE k) :: .b true :: qE 4 (.call [] (bV true) [] 0 [] none :: qE 4 (.call [] (bV false) [] 0 [] none :: qE 4 []))) (((k ≠ 0)) ∧ (qF .andNot .i64 k 254 = (jE k)) ∧ (((jE k) = 0)) ∧ (Fun 128 [.agg [.d (dl r rn)], iE 1000, iE 768000] (kF []) 0 (bV true) (kF []) 0) ∧ (Fun 129 [.c (.d (D.sl (kI m) c))] (kF []) 0 (bV false) (kF []) 0)) [(2, bV false)] [] 1 ⟨zo, rfl, zo, (by have h0 := (j3 r rn 1000 768000 zo zo); rw [hx3] at h0; exact h0), (by have h0 := (tQ m c zo zo (qD : MsW m)); rw [hx4] at h0; exact h0)⟩ ?_
     refine AW.ret ?_
     exact kA (.inr rfl) [] (P := ((fF k r rn m s sn) = false)) zk (by exact v66 (by assumption))
   ·refine kH (.no :: .no :: .b true :: .no :: .no :: .no :: .i (jE k) :: .b true :: qE 4 (.call [] (bV false) [] 0 [] none :: qE 6 [])) (((k ≠ 0)) ∧ (qF .andNot .i64 k 254 = (jE k)) ∧ (((jE k) = 0)) ∧ (Fun 128 [.agg [.d (dl r rn)], iE 1000, iE 768000] (kF []) 0 (bV false) (kF []) 0)) [(2, bV false)] [] 1 ⟨zo, rfl, zo, (by have h0 := (j3 r rn 1000 768000 zo zo); rw [hx3] at h0; exact h0)⟩ ?_
    refine AW.ret ?_
    exact kA (.inr rfl) [] (P := ((fF k r rn m s sn) = false)) zk (by exact v65 (by assumption))
  ·refine kH (.no :: .no :: .b true :: .no :: .no :: .no :: .i (jE k) :: .b false :: qE 8 []) (((k ≠ 0)) ∧ (qF .andNot .i64 k 254 = (jE k)) ∧ (¬ ((jE k) = 0))) [(2, bV false)] [] 1 ⟨zo, rfl, zo⟩ ?_
   refine AW.ret ?_
   exact kA (.inr rfl) [] (P := ((fF k r rn m s sn) = false)) zk (by exact v2u zo)
 ·refine kH (.no :: .no :: .b false :: qE 9 []) (¬ (k ≠ 0)) [(2, bV false)] [] 1 zo ?_
  refine AW.ret ?_
  exact kA (.inr rfl) [] (P := ((fF k r rn m s sn) = false)) zk (by exact v2u zo)
theorem zC (k : Int) (r : List Int) (rn : Nat) (m : List (List Int)) (c : Nat) (s : List Int) (sn : Nat) (hr : ka0 r = rn * 2) (hs : ka0 s = sn * 2) (hc : ka0 m = c) (h1 : rn ≤ 1000000) (h2 : sn ≤ 1000000) (h3 : c ≤ 1000000) (hW : MsW m) : Fun 91 [.agg [iC k, .d (D.sl (dI .i64 r) rn), .d (D.sl (kI m) c), .d (D.sl (dI .i64 s) sn)]] (kF []) 0 (uW (D.lit (.bool (nxB k r rn m s sn)))) (kF []) 0 := by
 refine Fun.mk (n := 6) Tryz.func91 rfl rfl (ka4 rfl) ?_
 intro cx hcx
 refine kH [.no, .no] True [(1, rV 0 0)] [(0, some (63, .ds [iD k, dl r rn, D.sl (kI m) c, dl s sn]))] 1 trivial ?_
 rcases ka9 (fF k r rn m s sn) with hx1 | hx1
 ·refine kH [.no, .call [] (bV true) [] 0 [] none, .no, .no] (Fun 92 [.agg [iC k, .d (dl r rn), .d (D.sl (kI m) c), .d (dl s sn)]] (kF []) 0 (bV true) (kF []) 0) [(2, bV false)] [] 1 (by have h0 := (j5 k r rn m c s sn zo zo zo zo zo zo (qD : MsW m)); rw [hx1] at h0; exact h0) ?_
  refine AW.ret ?_
  exact kA (.inr rfl) [] (P := ((nxB k r rn m s sn) = false)) zk (by exact v56 (by assumption))
 ·refine kH [.no, .call [] (bV false) [] 0 [] none, .no, .no] (Fun 92 [.agg [iC k, .d (dl r rn), .d (D.sl (kI m) c), .d (dl s sn)]] (kF []) 0 (bV false) (kF []) 0) [(2, bV true)] [] 1 (by have h0 := (j5 k r rn m c s sn zo zo zo zo zo zo (qD : MsW m)); rw [hx1] at h0; exact h0) ?_
  refine AW.ret ?_
  exact kA (.inr rfl) [] (P := ((nxB k r rn m s sn) = true)) zk (by exact v55 (by assumption))
@[reducible] def yI (x : List Bx) (i : Nat) : List D := [iD (kQ x i), dl (kY x i) (kV x i), D.sl (kI (kT x i)) (ka0 (kT x i)), dl (kX x i) (kU x i)]
@[reducible] def oA (x : List Bx) (i : Nat) : E1 := .agg [iC (kQ x i), .d (dl (kY x i) (kV x i)), .d (D.sl (kI (kT x i)) (ka0 (kT x i))), .d (dl (kX x i) (kU x i))]
@[reducible] def k9 (x : List Bx) (n : Nat) : E1 := (.c (.d (D.sl (kN x) n)))
theorem u6k (bs : List Bx) (n : Nat) (hn : ka0 bs = n) (h1 : n ≤ 1000000) (hW : BsW bs) : Fun 124 [.c (.d (D.sl (kN bs) n)), .c (.fn 91 [])] (kF []) 0 (iV (t6 bs n)) (kF []) 0 := by
 refine Fun.mk (n := 19) Tryz.func124 rfl rfl (ka4 rfl) ?_
 intro cx hcx
 refine kH [.no] True [(0, .e (k9 bs n)), (1, .e (.c (.fn 91 [])))] [] 0 trivial ?_
 refine AW.seq ?_
 refine kS [.no, .no, .no] True [(0, .e (k9 bs n)), (1, .e (.c (.fn 91 []))), (7, uV n), (8, iV 0)] trivial ?_
 refine AW.block ?_
 refine k8 0 hcx (fun (x : {x : Nat // match x with | k => (k ≤ n) ∧ (t6 bs k = -1)}) => match x with | ⟨k, _⟩ => (⟨[(0, .e (k9 bs n)), (1, .e (.c (.fn 91 []))), (7, uV n), (8, uV k)], [], 0⟩ : ES)) (fun x => match x with | ⟨k, _⟩ => n - k) ⟨(0 : Nat), ⟨zo, rfl⟩⟩ [] (P := (kJ (kN bs)) ∧ (kG n) ∧ (kM (n : Int)) ∧ (kM 0)) zk ⟨rfl, rfl, rfl, rfl⟩ ?_
 rintro ⟨k, hinv0⟩
 obtain ⟨hk, hi⟩ : (k ≤ n) ∧ (t6 bs k = -1) := hinv0
 refine qW (l := [(0, .e (k9 bs n)), (1, .e (.c (.fn 91 []))), (7, uV n), (8, uV k)]) (g := []) (nx := 0) rfl rfl rfl ?_
 by_cases hx1 : (((k : Nat) : Int) < ((n : Nat) : Int))
 ·refine kH [.b true] (((k : Int) < (n : Int))) [(0, .e (k9 bs n)), (1, .e (.c (.fn 91 []))), (7, uV n), (8, uV k), (9, bV true)] [] 0 zo ?_
  refine AW.seq ?_
  refine vL ?_
  refine AW.seq ?_
  refine AW.block ?_
  refine kS [.no, .no] True [(0, .e (k9 bs n)), (1, .e (.c (.fn 91 []))), (5, uV k), (7, uV n), (8, uV k)] trivial ?_
  rcases ka9 (nxB (kQ bs k) (kY bs k) (kV bs k) (kT bs k) (kX bs k) (kU bs k)) with hx7 | hx7
  ·obtain ⟨hx8, hx9, hx10, hx11, hx12⟩ := BsW.at (qD : BsW bs) (k)
   refine kH [.no, .no, .no, .n k, .ds (yI bs k), .call [] (bV true) [] 0 [] none] ((kM (k : Int)) ∧ (k < n) ∧ (ka5 4 (ka3 (k * 4) (kN bs)) = (yI bs k)) ∧ (((yI bs k) : List D).length = 4) ∧ (Fun 91 [(oA bs k)] (kF []) 0 (bV true) (kF []) 0)) [(0, .e (k9 bs n)), (1, .e (.c (.fn 91 []))), (5, uV k), (7, uV n), (8, uV k), (16, bV true)] [] 0 ⟨rfl, zo, (vB zo), rfl, (by have h0 := (zC (kQ bs k) (kY bs k) (kV bs k) (kT bs k) (ka0 (kT bs k)) (kX bs k) (kU bs k) zo zo rfl zo zo zo (BsW.ms (qD : BsW bs) _)); rw [hx7] at h0; exact h0)⟩ ?_
   refine zt ?_
   refine kS [.no, .no] True [(4, uV k)] trivial ?_
   refine AW.ret ?_
   exact kA (.inr rfl) [] (P := (((t6 bs n) : Int) = (k : Int))) zk (by exact u9y hi (by assumption) zo)
  ·obtain ⟨hx13, hx14, hx15, hx16, hx17⟩ := BsW.at (qD : BsW bs) (k)
   refine kH [.no, .no, .no, .n k, .ds (yI bs k), .call [] (bV false) [] 0 [] none] ((kM (k : Int)) ∧ (k < n) ∧ (ka5 4 (ka3 (k * 4) (kN bs)) = (yI bs k)) ∧ (((yI bs k) : List D).length = 4) ∧ (Fun 91 [(oA bs k)] (kF []) 0 (bV false) (kF []) 0)) [(0, .e (k9 bs n)), (1, .e (.c (.fn 91 []))), (5, uV k), (7, uV n), (8, uV k), (16, bV false)] [] 0 ⟨rfl, zo, (vB zo), rfl, (by have h0 := (zC (kQ bs k) (kY bs k) (kV bs k) (kT bs k) (ka0 (kT bs k)) (kX bs k) (kU bs k) zo zo rfl zo zo zo (BsW.ms (qD : BsW bs) _)); rw [hx7] at h0; exact h0)⟩ ?_
   refine uO ?_
   refine yA [.w, .no] (u3 ((k : Int) + 1)) [(0, .e (k9 bs n)), (1, .e (.c (.fn 91 []))), (7, uV n), (8, iV (↑k + 1))] ⟨by omega, by omega⟩ ?_
   exact kW ⟨((k + 1) : Nat), ⟨zo, (u9x hi (by assumption))⟩⟩ [] (P := (kJ (kN bs)) ∧ (kG n) ∧ (kM (n : Int)) ∧ (bU k)) zk ⟨rfl, rfl, rfl, (by rfl)⟩ (show n - (k + 1) < n - k from zo)
 ·refine kH [.b false] (¬ ((k : Int) < (n : Int))) [(0, .e (k9 bs n)), (1, .e (.c (.fn 91 []))), (7, uV n), (8, uV k), (9, bV false)] [] 0 zo ?_
  refine AW.seq ?_
  refine zf ?_
  refine AW.exit ?_
  refine kH [.no] True [(4, iV (-1))] [] 0 trivial ?_
  refine AW.ret ?_
  exact kA (.inr rfl) [] (P := (((t6 bs n) : Int) = (-1))) zk (by (rw [show n = k by omega]; exact hi))
theorem u6n (bs : List Bx) (n : Nat) (hn : ka0 bs = n) (h1 : n ≤ 1000000) (hW : BsW bs) : Fun 84 [.c (.d (D.sl (kN bs) n)), .c (.fn 91 [])] (kF []) 0 (uW (D.lit (.bool (naB bs n)))) (kF []) 0 := by
 refine Fun.mk (n := 9) Tryz.func84 rfl rfl (ka4 rfl) ?_
 intro cx hcx
 refine kH [.no] True [(0, .e (k9 bs n)), (1, .e (.c (.fn 91 [])))] [] 0 trivial ?_
 by_cases hx1 : ((0 : Int) ≤ (t6 bs n))
 ·refine kS [.no, .no, .call [] (iV (t6 bs n)) [] 0 [] none, .b true, .no] ((_) ∧ (((0 : Int) ≤ (t6 bs n)))) [(4, bV true)] ⟨(u6k bs n zo zo (qD : BsW bs)), zo⟩ ?_
  refine AW.ret ?_
  exact kA (.inr rfl) [] (P := ((naB bs n) = true)) zk (by exact decide_eq_true zo)
 ·refine kS [.no, .no, .call [] (iV (t6 bs n)) [] 0 [] none, .b false, .no] ((_) ∧ (¬ ((0 : Int) ≤ (t6 bs n)))) [(4, bV false)] ⟨(u6k bs n zo zo (qD : BsW bs)), zo⟩ ?_
  refine AW.ret ?_
  exact kA (.inr rfl) [] (P := ((naB bs n) = false)) zk (by exact decide_eq_false zo)
theorem vY (bs : List Bx) (n : Nat) (hn : ka0 bs = n) (h1 : n ≤ 1000000) (hW : BsW bs) : Fun 60 [.c (.d (D.sl (kN bs) n))] (kF []) 0 (uW (D.lit (.bool (cF bs)))) (kF []) 0 := by
 refine Fun.mk (n := 11) Tryz.func60 rfl rfl (ka4 rfl) ?_
 intro cx hcx
 refine kH [.no] True [(0, .e (k9 bs n))] [] 0 trivial ?_
 by_cases hx1 : (((n : Nat) : Int) ≤ 64)
 ·rcases ka9 (naB bs n) with hx2 | hx2
  ·refine kS [.no, .no, .b true, .no, .no, .call [] (bV true) [] 0 [] none, .no, .no, .no] ((((n : Int) ≤ 64)) ∧ (Fun 84 [.c (.d (D.sl (kN bs) n)), .c (.fn 91 [])] (kF []) 0 (bV true) (kF []) 0)) [(2, bV false)] ⟨zo, (by have h0 := (u6n bs n zo zo (qD : BsW bs)); rw [hx2] at h0; exact h0)⟩ ?_
   refine AW.ret ?_
   exact kA (.inr rfl) [] (P := ((cF bs) = false)) zk (by exact v5e hn (by assumption))
  ·refine kS [.no, .no, .b true, .no, .no, .call [] (bV false) [] 0 [] none, .no, .no, .no] ((((n : Int) ≤ 64)) ∧ (Fun 84 [.c (.d (D.sl (kN bs) n)), .c (.fn 91 [])] (kF []) 0 (bV false) (kF []) 0)) [(2, bV true)] ⟨zo, (by have h0 := (u6n bs n zo zo (qD : BsW bs)); rw [hx2] at h0; exact h0)⟩ ?_
   refine AW.ret ?_
   exact kA (.inr rfl) [] (P := ((cF bs) = true)) zk (by exact v5d hn zo (by assumption))
 ·refine kS [.no, .no, .b false, .no, .no, .no] (¬ ((n : Int) ≤ 64)) [(2, bV false)] zo ?_
  refine AW.ret ?_
  exact kA (.inr rfl) [] (P := ((cF bs) = false)) zk (by exact v47 zo)
@[reducible] def yL (x : List Bx) : E1 := (.c (.d (D.sl (kN x) (ka0 x))))
theorem jA (bs : List Bx) (n : Nat) (hn : ka0 bs = n) (h1 : n ≤ 1000000) (hW : BsW bs) : Fun 77 [.c (.d (D.sl (kN bs) n))] (kF []) 0 (.e (yL (kK bs))) (kF []) 0 := by
 refine Fun.mk (n := 7) Tryz.func77 rfl rfl (ka4 rfl) ?_
 intro cx hcx
 refine kH [.no] True [(0, .e (k9 bs n))] [] 0 trivial ?_
 refine AW.seq ?_
 rcases ka9 (cF bs) with hx1 | hx1
 ·refine kS [.no, .call [] (bV true) [] 0 [] none, .no] (Fun 60 [.c (.d (D.sl (kN bs) n))] (kF []) 0 (bV true) (kF []) 0) [(0, .e (k9 bs n)), (5, bV false)] (by have h0 := (vY bs n zo zo (qD : BsW bs)); rw [hx1] at h0; exact h0) ?_
  refine uO ?_
  refine kS [.no, .no] True [(2, .e (k9 bs n))] trivial ?_
  have hz1 : kK bs = bs := k30 hx1
  have hz2 : ka0 (kK bs) = n := by rw [hz1]; first | rfl | omega
  refine AW.ret ?_
  exact kA (.inr rfl) [] (P := (((kN (kK bs)) : List D) = (kN bs)) ∧ (((ka0 (kK bs)) : Nat) = n)) zk ⟨(by (rw [hz1]; done)), zo⟩
 ·refine kS [.no, .call [] (bV false) [] 0 [] none, .no] (Fun 60 [.c (.d (D.sl (kN bs) n))] (kF []) 0 (bV false) (kF []) 0) [(0, .e (k9 bs n)), (5, bV true)] (by have h0 := (vY bs n zo zo (qD : BsW bs)); rw [hx1] at h0; exact h0) ?_
  refine zt ?_
  refine kS [.no] True [(2, nV)] trivial ?_
  have hz1 : kK bs = [] := u5x hx1
  have hz2 : ka0 (kK bs) = 0 := by rw [hz1]; first | rfl | omega
  refine y6 (l' := [(2, qC ([] : List D) 0)]) (g' := []) (NlS.cons rfl (.e (.c .nil)) NlS.nil) NlG.nil ?_
  refine AW.ret ?_
  exact kA (.inr rfl) [] (P := (((kN (kK bs)) : List D) = ([] : List D)) ∧ (((ka0 (kK bs)) : Nat) = 0)) zk ⟨(by (rw [hz1]; rfl)), zo⟩
theorem i7 (q : Int)  : Fun 111 [iE q] (kF []) 0 (uW (D.lit (.bool (decide (1 ≤ q ∧ q ≤ 7))))) (kF []) 0 := by
 refine Fun.mk (n := 9) Tryz.func111 rfl rfl (ka4 rfl) ?_
 intro cx hcx
 refine kH [.no] True [(0, iV q)] [] 0 trivial ?_
 by_cases hx1 : ((1 : Int) ≤ q)
 ·by_cases hx2 : (q ≤ 7)
  ·refine kS [.no, .b true, .no, .no, .b true, .no, .no] ((((1 : Int) ≤ q)) ∧ ((q ≤ 7))) [(2, bV true)] ⟨zo, zo⟩ ?_
   refine AW.ret ?_
   exact kA (.inr rfl) [] (P := ((decide (1 ≤ q ∧ q ≤ 7)) = true)) zk (by exact decide_eq_true zo)
  ·refine kS [.no, .b true, .no, .no, .b false, .no, .no] ((((1 : Int) ≤ q)) ∧ (¬ (q ≤ 7))) [(2, bV false)] ⟨zo, zo⟩ ?_
   refine AW.ret ?_
   exact kA (.inr rfl) [] (P := ((decide (1 ≤ q ∧ q ≤ 7)) = false)) zk (by exact decide_eq_false zo)
 ·refine kS [.no, .b false, .no, .no, .no] (¬ ((1 : Int) ≤ q)) [(2, bV false)] zo ?_
  refine AW.ret ?_
  exact kA (.inr rfl) [] (P := ((decide (1 ≤ q ∧ q ≤ 7)) = false)) zk (by exact decide_eq_false zo)
theorem v3s (k : Int) (r : List Int) (rn : Nat) (m : List (List Int)) (c : Nat) (s : List Int) (sn : Nat) (q : Nat) (cr : Int) (cm : List Int) (cn : Nat) (cz : Int) (hr : ka0 r = rn * 2) (hs : ka0 s = sn * 2) (hc : ka0 m = c) (h1 : rn ≤ 1000000) (h2 : sn ≤ 1000000) (h3 : c ≤ 1000000) (hW : MsW m) (hm : ka0 cm = cn) (h4 : cn ≤ 1000000) (hq : q ≤ 64) : Fun 86 [.agg [iC k, .d (D.sl (dI .i64 r) rn), .d (D.sl (kI m) c), .d (D.sl (dI .i64 s) sn)], .agg [iC ((q : Nat) : Int), iC cr, .d (D.sl (dI .i64 cm) cn), iC cz]] (kF []) 0 (uW (D.lit (.bool (eO k r rn m s sn (q : Int) cr cm cz)))) (kF []) 0 := by
 refine Fun.mk (n := 42) Tryz.func86 rfl rfl (ka4 rfl) ?_
 intro cx hcx
 refine kH [.no, .no, .no] True [(2, rV 0 0), (3, rV 1 0)] [(0, some (63, .ds [iD k, dl r rn, D.sl (kI m) c, dl s sn])), (1, some (42, .ds [uD q, iD cr, dl cm cn, iD cz]))] 2 trivial ?_
 rcases ka9 (decide (1 ≤ ((q : Nat) : Int) ∧ ((q : Nat) : Int) ≤ 7)) with hx1 | hx1
 ·have hx2 : (((1 : Int) ≤ ((q : Nat) : Int)) ∧ (((q : Nat) : Int) ≤ 7)) := of_decide_eq_true hx1
  by_cases hx3 : ((eI (k / (((2 ^ q) : Nat) : Int))) = 1)
  ·rcases ka9 (bA (kB r rn) cr) with hx4 | hx4
   ·rcases ka9 (gX m cm) with hx5 | hx5
    ·rcases ka9 (bA (kB s sn) cz) with hx6 | hx6
     ·refine kH (.no :: .no :: .no :: .call [] (bV true) [] 0 [] none :: qE 6 (.n q :: .i (eI (k / (((2 ^ q) : Nat) : Int))) :: .b true :: qE 7 (.call [] (bV true) [] 0 [] none :: qE 7 (.call [] (bV true) [] 0 [] none :: qE 6 [.call [] (bV true) [] 0 [] none, .no, .no])))) ((Fun 111 [uE q] (kF []) 0 (bV true) (kF []) 0) ∧ (kM (q : Int)) ∧ (q ≤ 64) ∧ (qF .and .i64 (k / (((2 ^ q) : Nat) : Int)) 1 = (eI (k / (((2 ^ q) : Nat) : Int)))) ∧ (((eI (k / (((2 ^ q) : Nat) : Int))) = 1)) ∧ (Fun 125 [.agg [.d (dl r rn)], iE cr] (kF []) 0 (bV true) (kF []) 0) ∧ (Fun 126 [.c (.d (D.sl (kI m) c)), .c (.d (dl cm cn))] (kF []) 0 (bV true) (kF []) 0) ∧ (Fun 125 [.agg [.d (dl s sn)], iE cz] (kF []) 0 (bV true) (kF []) 0)) [(4, bV true)] [] 2 ⟨(by have h0 := (i7 (q : Int)); rw [hx1] at h0; exact h0), rfl, zo, rfl, zo, (by have h0 := (pY r rn cr zo zo); rw [hx4] at h0; exact h0), (by have h0 := (i9 m c cm cn zo zo zo zo (qD : MsW m)); rw [hx5] at h0; exact h0), (by have h0 := (pY s sn cz zo zo); rw [hx6] at h0; exact h0)⟩ ?_
      refine AW.ret ?_
      exact kA (.inr rfl) [] (P := ((eO k r rn m s sn (q : Int) cr cm cz) = true)) zk (by exact v35 (by exact v5k zo zo) (by assumption) (by assumption) (by assumption))
     ·refine kH (.no :: .no :: .no :: .call [] (bV true) [] 0 [] none :: qE 6 (.n q :: .i (eI (k / (((2 ^ q) : Nat) : Int))) :: .b true :: qE 7 (.call [] (bV true) [] 0 [] none :: qE 7 (.call [] (bV true) [] 0 [] none :: qE 6 [.call [] (bV false) [] 0 [] none, .no, .no])))) ((Fun 111 [uE q] (kF []) 0 (bV true) (kF []) 0) ∧ (kM (q : Int)) ∧ (q ≤ 64) ∧ (qF .and .i64 (k / (((2 ^ q) : Nat) : Int)) 1 = (eI (k / (((2 ^ q) : Nat) : Int)))) ∧ (((eI (k / (((2 ^ q) : Nat) : Int))) = 1)) ∧ (Fun 125 [.agg [.d (dl r rn)], iE cr] (kF []) 0 (bV true) (kF []) 0) ∧ (Fun 126 [.c (.d (D.sl (kI m) c)), .c (.d (dl cm cn))] (kF []) 0 (bV true) (kF []) 0) ∧ (Fun 125 [.agg [.d (dl s sn)], iE cz] (kF []) 0 (bV false) (kF []) 0)) [(4, bV false)] [] 2 ⟨(by have h0 := (i7 (q : Int)); rw [hx1] at h0; exact h0), rfl, zo, rfl, zo, (by have h0 := (pY r rn cr zo zo); rw [hx4] at h0; exact h0), (by have h0 := (i9 m c cm cn zo zo zo zo (qD : MsW m)); rw [hx5] at h0; exact h0), (by have h0 := (pY s sn cz zo zo); rw [hx6] at h0; exact h0)⟩ ?_
      refine AW.ret ?_
      exact kA (.inr rfl) [] (P := ((eO k r rn m s sn (q : Int) cr cm cz) = false)) zk (by exact v6j (by assumption))
    ·refine kH (.no :: .no :: .no :: .call [] (bV true) [] 0 [] none :: qE 6 (.n q :: .i (eI (k / (((2 ^ q) : Nat) : Int))) :: .b true :: qE 7 (.call [] (bV true) [] 0 [] none :: qE 7 (.call [] (bV false) [] 0 [] none :: qE 4 [])))) ((Fun 111 [uE q] (kF []) 0 (bV true) (kF []) 0) ∧ (kM (q : Int)) ∧ (q ≤ 64) ∧ (qF .and .i64 (k / (((2 ^ q) : Nat) : Int)) 1 = (eI (k / (((2 ^ q) : Nat) : Int)))) ∧ (((eI (k / (((2 ^ q) : Nat) : Int))) = 1)) ∧ (Fun 125 [.agg [.d (dl r rn)], iE cr] (kF []) 0 (bV true) (kF []) 0) ∧ (Fun 126 [.c (.d (D.sl (kI m) c)), .c (.d (dl cm cn))] (kF []) 0 (bV false) (kF []) 0)) [(4, bV false)] [] 2 ⟨(by have h0 := (i7 (q : Int)); rw [hx1] at h0; exact h0), rfl, zo, rfl, zo, (by have h0 := (pY r rn cr zo zo); rw [hx4] at h0; exact h0), (by have h0 := (i9 m c cm cn zo zo zo zo (qD : MsW m)); rw [hx5] at h0; exact h0)⟩ ?_
     refine AW.ret ?_
     exact kA (.inr rfl) [] (P := ((eO k r rn m s sn (q : Int) cr cm cz) = false)) zk (by exact v6l (by assumption))
   ·refine kH (.no :: .no :: .no :: .call [] (bV true) [] 0 [] none :: qE 6 (.n q :: .i (eI (k / (((2 ^ q) : Nat) : Int))) :: .b true :: qE 7 (.call [] (bV false) [] 0 [] none :: qE 6 []))) ((Fun 111 [uE q] (kF []) 0 (bV true) (kF []) 0) ∧ (kM (q : Int)) ∧ (q ≤ 64) ∧ (qF .and .i64 (k / (((2 ^ q) : Nat) : Int)) 1 = (eI (k / (((2 ^ q) : Nat) : Int)))) ∧ (((eI (k / (((2 ^ q) : Nat) : Int))) = 1)) ∧ (Fun 125 [.agg [.d (dl r rn)], iE cr] (kF []) 0 (bV false) (kF []) 0)) [(4, bV false)] [] 2 ⟨(by have h0 := (i7 (q : Int)); rw [hx1] at h0; exact h0), rfl, zo, rfl, zo, (by have h0 := (pY r rn cr zo zo); rw [hx4] at h0; exact h0)⟩ ?_
    refine AW.ret ?_
    exact kA (.inr rfl) [] (P := ((eO k r rn m s sn (q : Int) cr cm cz) = false)) zk (by exact v6k (by assumption))
  ·refine kH (.no :: .no :: .no :: .call [] (bV true) [] 0 [] none :: qE 6 (.n q :: .i (eI (k / (((2 ^ q) : Nat) : Int))) :: .b false :: qE 8 [])) ((Fun 111 [uE q] (kF []) 0 (bV true) (kF []) 0) ∧ (kM (q : Int)) ∧ (q ≤ 64) ∧ (qF .and .i64 (k / (((2 ^ q) : Nat) : Int)) 1 = (eI (k / (((2 ^ q) : Nat) : Int)))) ∧ (¬ ((eI (k / (((2 ^ q) : Nat) : Int))) = 1))) [(4, bV false)] [] 2 ⟨(by have h0 := (i7 (q : Int)); rw [hx1] at h0; exact h0), rfl, zo, rfl, zo⟩ ?_
   refine AW.ret ?_
   exact kA (.inr rfl) [] (P := ((eO k r rn m s sn (q : Int) cr cm cz) = false)) zk (by exact u8y (v5l zo))
 ·have hx7 : ¬ (((1 : Int) ≤ ((q : Nat) : Int)) ∧ (((q : Nat) : Int) ≤ 7)) := of_decide_eq_false hx1
  refine kH (.no :: .no :: .no :: .call [] (bV false) [] 0 [] none :: qE 9 []) (Fun 111 [uE q] (kF []) 0 (bV false) (kF []) 0) [(4, bV false)] [] 2 (by have h0 := (i7 (q : Int)); rw [hx1] at h0; exact h0) ?_
  refine AW.ret ?_
  exact kA (.inr rfl) [] (P := ((eO k r rn m s sn (q : Int) cr cm cz) = false)) zk (by exact u8y (v21 zo))
theorem v3r (k : Int) (r : List Int) (rn : Nat) (m : List (List Int)) (c : Nat) (s : List Int) (sn : Nat) (ck cr : Int) (cm : List Int) (cn : Nat) (cz : Int) (hr : ka0 r = rn * 2) (hs : ka0 s = sn * 2) (hc : ka0 m = c) (h1 : rn ≤ 1000000) (h2 : sn ≤ 1000000) (h3 : c ≤ 1000000) (hW : MsW m) (hm : ka0 cm = cn) (h4 : cn ≤ 1000000) (hq : ¬ (1 ≤ ck ∧ ck ≤ 7)) : Fun 86 [.agg [iC k, .d (D.sl (dI .i64 r) rn), .d (D.sl (kI m) c), .d (D.sl (dI .i64 s) sn)], .agg [iC ck, iC cr, .d (D.sl (dI .i64 cm) cn), iC cz]] (kF []) 0 (uW (D.lit (.bool (eO k r rn m s sn ck cr cm cz)))) (kF []) 0 := by
 refine Fun.mk (n := 42) Tryz.func86 rfl rfl (ka4 rfl) ?_
 intro cx hcx
 refine kH [.no, .no, .no] True [(2, rV 0 0), (3, rV 1 0)] [(0, some (63, .ds [iD k, dl r rn, D.sl (kI m) c, dl s sn])), (1, some (42, .ds [iD ck, iD cr, dl cm cn, iD cz]))] 2 trivial ?_
 refine kH (.no :: .no :: .no :: .call [] (bV false) [] 0 [] none :: qE 9 []) _ [(4, bV false)] [] 2 (Fun.y (i7 ck) (y' := bV false) (congrArg (fun b => LV (.bool b)) (decide_eq_false zo))) ?_
 refine AW.ret ?_
 exact kA (.inr rfl) [] (P := ((eO k r rn m s sn ck cr cm cz) = false)) zk (by exact u8y (v21 zo))
theorem v6r (k : Int) (r : List Int) (rn : Nat) (m : List (List Int)) (c : Nat) (s : List Int) (sn : Nat) (ck cr : Int) (cm : List Int) (cn : Nat) (cz : Int) (hr : ka0 r = rn * 2) (hs : ka0 s = sn * 2) (hc : ka0 m = c) (h1 : rn ≤ 1000000) (h2 : sn ≤ 1000000) (h3 : c ≤ 1000000) (hW : MsW m) (hm : ka0 cm = cn) (h4 : cn ≤ 1000000) : Fun 86 [.agg [iC k, .d (D.sl (dI .i64 r) rn), .d (D.sl (kI m) c), .d (D.sl (dI .i64 s) sn)], .agg [iC ck, iC cr, .d (D.sl (dI .i64 cm) cn), iC cz]] (kF []) 0 (uW (D.lit (.bool (eO k r rn m s sn ck cr cm cz)))) (kF []) 0 := by
 by_cases h9 : 1 ≤ ck ∧ ck ≤ 7
 ·obtain ⟨q, rfl⟩ : ∃ q : Nat, ck = (q : Int) := ⟨Int.toNat ck, by omega⟩
  exact v3s k r rn m c s sn q cr cm cn cz hr hs hc h1 h2 h3 hW hm h4 (by omega)
 ·exact v3r k r rn m c s sn ck cr cm cn cz hr hs hc h1 h2 h3 hW hm h4 h9
theorem k3f (k : Int) (r : List Int) (rn : Nat) (m : List (List Int)) (c : Nat) (s : List Int) (sn : Nat) (ck cr : Int) (cm : List Int) (cn : Nat) (cz : Int) (hr : ka0 r = rn * 2) (hs : ka0 s = sn * 2) (hc : ka0 m = c) (h1 : rn ≤ 1000000) (h2 : sn ≤ 1000000) (h3 : c ≤ 1000000) (hW : MsW m) (hm : ka0 cm = cn) (h4 : cn ≤ 1000000) : Fun 85 [.agg [iC k, .d (D.sl (dI .i64 r) rn), .d (D.sl (kI m) c), .d (D.sl (dI .i64 s) sn)], .c (.ptr 0 0)] (kF [(0, some (42, .ds [iD ck, iD cr, D.sl (dI .i64 cm) cn, iD cz]))]) 1 (uW (D.lit (.bool (eO k r rn m s sn ck cr cm cz)))) (kF [(0, some (42, .ds [iD ck, iD cr, D.sl (dI .i64 cm) cn, iD cz]))]) 1 := by
 refine Fun.mk (n := 7) Tryz.func85 rfl rfl (ka4 rfl) ?_
 intro cx hcx
 refine kH [.no, .no] True [(1, rV 0 0), (2, rV 1 0)] [(0, some (42, .ds [iD ck, iD cr, dl cm cn, iD cz])), (1, some (63, .ds [iD k, dl r rn, D.sl (kI m) c, dl s sn]))] 2 trivial ?_
 refine kH [.no, .no, .call [] (uW (D.lit (.bool (eO k r rn m s sn ck cr cm cz)))) [] 0 [] none, .no] _ [(3, uW (D.lit (.bool (eO k r rn m s sn ck cr cm cz))))] [(0, some (42, .ds [iD ck, iD cr, dl cm cn, iD cz]))] 2 (v6r k r rn m c s sn ck cr cm cn cz zo zo zo zo zo zo (qD : MsW m) zo zo) ?_
 refine AW.ret ?_
 exact kA (.inr rfl) [] (P := ((eO k r rn m s sn ck cr cm cz) = (eO k r rn m s sn ck cr cm cz)) ∧ (kJ [iD ck, iD cr, dl cm cn, iD cz])) zk ⟨rfl, rfl⟩
abbrev vH (ck : Int) (cr : Int) (cm : List Int) (cn : Nat) (cz : Int) : BC := .ds [iD ck, iD cr, D.sl (dI .i64 cm) cn, iD cz]
theorem u6m (bs : List Bx) (n : Nat) (ck cr : Int) (cm : List Int) (cn : Nat) (cz : Int) (hn : ka0 bs = n) (h1 : n ≤ 1000000) (hW : BsW bs) (hm : ka0 cm = cn) (h4 : cn ≤ 1000000) : Fun 124 [.c (.d (D.sl (kN bs) n)), .c (.fn 85 [(0, 0)])] (kF [(0, some (42, .ds [iD ck, iD cr, D.sl (dI .i64 cm) cn, iD cz]))]) 1 (iV (zQ bs ck cr cm cz n)) (kF [(0, some (42, .ds [iD ck, iD cr, D.sl (dI .i64 cm) cn, iD cz]))]) 1 := by
 refine Fun.mk (n := 19) Tryz.func124 rfl rfl (ka4 rfl) ?_
 intro cx hcx
 refine kH [.no] True [(0, .e (k9 bs n)), (1, .e (.c (.fn 85 [(0, 0)])))] [(0, some (42, (vH ck cr cm cn cz)))] 1 trivial ?_
 refine AW.seq ?_
 refine kS [.no, .no, .no] True [(0, .e (k9 bs n)), (1, .e (.c (.fn 85 [(0, 0)]))), (7, uV n), (8, iV 0)] trivial ?_
 refine AW.block ?_
 refine k8 1 hcx (fun (x : {x : Nat // match x with | k => (k ≤ n) ∧ (zQ bs ck cr cm cz k = -1)}) => match x with | ⟨k, _⟩ => (⟨[(0, .e (k9 bs n)), (1, .e (.c (.fn 85 [(0, 0)]))), (7, uV n), (8, uV k)], [(0, some (42, (vH ck cr cm cn cz)))], 1⟩ : ES)) (fun x => match x with | ⟨k, _⟩ => n - k) ⟨(0 : Nat), ⟨zo, rfl⟩⟩ [] (P := (kJ (kN bs)) ∧ (kG n) ∧ (kM (n : Int)) ∧ (kM 0) ∧ (kJ [iD ck, iD cr, dl cm cn, iD cz])) zk ⟨rfl, rfl, rfl, rfl, rfl⟩ ?_
 rintro ⟨k, hinv0⟩
 obtain ⟨hk, hi⟩ : (k ≤ n) ∧ (zQ bs ck cr cm cz k = -1) := hinv0
 refine qW (l := [(0, .e (k9 bs n)), (1, .e (.c (.fn 85 [(0, 0)]))), (7, uV n), (8, uV k)]) (g := [(0, some (42, (vH ck cr cm cn cz)))]) (nx := 1) rfl rfl rfl ?_
 by_cases hx1 : (((k : Nat) : Int) < ((n : Nat) : Int))
 ·refine kH [.b true] (((k : Int) < (n : Int))) [(0, .e (k9 bs n)), (1, .e (.c (.fn 85 [(0, 0)]))), (7, uV n), (8, uV k), (9, bV true)] [(0, some (42, (vH ck cr cm cn cz)))] 1 zo ?_
  refine AW.seq ?_
  refine vL ?_
  refine AW.seq ?_
  refine AW.block ?_
  refine kS [.no, .no] True [(0, .e (k9 bs n)), (1, .e (.c (.fn 85 [(0, 0)]))), (5, uV k), (7, uV n), (8, uV k)] trivial ?_
  rcases ka9 (eO (kQ bs k) (kY bs k) (kV bs k) (kT bs k) (kX bs k) (kU bs k) ck cr cm cz) with hx7 | hx7
  ·obtain ⟨hx8, hx9, hx10, hx11, hx12⟩ := BsW.at (qD : BsW bs) (k)
   refine kH [.no, .no, .no, .n k, .ds (yI bs k), .call [0] (bV true) [(0, some (42, (vH ck cr cm cn cz)))] 1 [] none] ((kM (k : Int)) ∧ (k < n) ∧ (ka5 4 (ka3 (k * 4) (kN bs)) = (yI bs k)) ∧ (((yI bs k) : List D).length = 4) ∧ (Fun 85 [(oA bs k), .c (.ptr 0 0)] (kF [(0, some (42, (vH ck cr cm cn cz)))]) 1 (bV true) (kF [(0, some (42, (vH ck cr cm cn cz)))]) 1)) [(0, .e (k9 bs n)), (1, .e (.c (.fn 85 [(0, 0)]))), (5, uV k), (7, uV n), (8, uV k), (16, bV true)] [(0, some (42, (vH ck cr cm cn cz)))] 1 ⟨rfl, zo, (vB zo), rfl, (by have h0 := (k3f (kQ bs k) (kY bs k) (kV bs k) (kT bs k) (ka0 (kT bs k)) (kX bs k) (kU bs k) ck cr cm cn cz zo zo rfl zo zo zo (BsW.ms (qD : BsW bs) _) zo zo); rw [hx7] at h0; exact h0)⟩ ?_
   refine zt ?_
   refine kS [.no, .no] True [(4, uV k)] trivial ?_
   refine AW.ret ?_
   exact kA (.inr rfl) [] (P := (((zQ bs ck cr cm cz n) : Int) = (k : Int)) ∧ (kJ [iD ck, iD cr, dl cm cn, iD cz])) zk ⟨(by exact v37 hi (by assumption) zo), rfl⟩
  ·obtain ⟨hx13, hx14, hx15, hx16, hx17⟩ := BsW.at (qD : BsW bs) (k)
   refine kH [.no, .no, .no, .n k, .ds (yI bs k), .call [0] (bV false) [(0, some (42, (vH ck cr cm cn cz)))] 1 [] none] ((kM (k : Int)) ∧ (k < n) ∧ (ka5 4 (ka3 (k * 4) (kN bs)) = (yI bs k)) ∧ (((yI bs k) : List D).length = 4) ∧ (Fun 85 [(oA bs k), .c (.ptr 0 0)] (kF [(0, some (42, (vH ck cr cm cn cz)))]) 1 (bV false) (kF [(0, some (42, (vH ck cr cm cn cz)))]) 1)) [(0, .e (k9 bs n)), (1, .e (.c (.fn 85 [(0, 0)]))), (5, uV k), (7, uV n), (8, uV k), (16, bV false)] [(0, some (42, (vH ck cr cm cn cz)))] 1 ⟨rfl, zo, (vB zo), rfl, (by have h0 := (k3f (kQ bs k) (kY bs k) (kV bs k) (kT bs k) (ka0 (kT bs k)) (kX bs k) (kU bs k) ck cr cm cn cz zo zo rfl zo zo zo (BsW.ms (qD : BsW bs) _) zo zo); rw [hx7] at h0; exact h0)⟩ ?_
   refine uO ?_
   refine yA [.w, .no] (u3 ((k : Int) + 1)) [(0, .e (k9 bs n)), (1, .e (.c (.fn 85 [(0, 0)]))), (7, uV n), (8, iV (↑k + 1))] ⟨by omega, by omega⟩ ?_
   exact kW ⟨((k + 1) : Nat), ⟨zo, (v36 hi (by assumption))⟩⟩ [] (P := (kJ (kN bs)) ∧ (kG n) ∧ (kM (n : Int)) ∧ (bU k) ∧ (kJ [iD ck, iD cr, dl cm cn, iD cz])) zk ⟨rfl, rfl, rfl, (by rfl), rfl⟩ (show n - (k + 1) < n - k from zo)
 ·refine kH [.b false] (¬ ((k : Int) < (n : Int))) [(0, .e (k9 bs n)), (1, .e (.c (.fn 85 [(0, 0)]))), (7, uV n), (8, uV k), (9, bV false)] [(0, some (42, (vH ck cr cm cn cz)))] 1 zo ?_
  refine AW.seq ?_
  refine zf ?_
  refine AW.exit ?_
  refine kH [.no] True [(4, iV (-1))] [(0, some (42, (vH ck cr cm cn cz)))] 1 trivial ?_
  refine AW.ret ?_
  exact kA (.inr rfl) [] (P := (((zQ bs ck cr cm cz n) : Int) = (-1)) ∧ (kJ [iD ck, iD cr, dl cm cn, iD cz])) zk ⟨(by (rw [show n = k by omega]; exact hi)), rfl⟩
theorem v3q (bs : List Bx) (n : Nat) (ck cr : Int) (cm : List Int) (cn : Nat) (cz : Int) (hn : ka0 bs = n) (h1 : n ≤ 1000000) (hW : BsW bs) (hm : ka0 cm = cn) (h4 : cn ≤ 1000000) : Fun 84 [.c (.d (D.sl (kN bs) n)), .c (.fn 85 [(0, 0)])] (kF [(0, some (42, .ds [iD ck, iD cr, D.sl (dI .i64 cm) cn, iD cz]))]) 1 (uW (D.lit (.bool (xH bs ck cr cm cz)))) (kF [(0, some (42, .ds [iD ck, iD cr, D.sl (dI .i64 cm) cn, iD cz]))]) 1 := by
 refine Fun.mk (n := 9) Tryz.func84 rfl rfl (ka4 rfl) ?_
 intro cx hcx
 refine kH [.no] True [(0, .e (k9 bs n)), (1, .e (.c (.fn 85 [(0, 0)])))] [(0, some (42, .ds [iD ck, iD cr, dl cm cn, iD cz]))] 1 trivial ?_
 by_cases hx1 : ((0 : Int) ≤ (zQ bs ck cr cm cz n))
 ·refine kS [.no, .no, .call [0] (iV (zQ bs ck cr cm cz n)) [(0, some (42, .ds [iD ck, iD cr, dl cm cn, iD cz]))] 1 [] none, .b true, .no] ((_) ∧ (((0 : Int) ≤ (zQ bs ck cr cm cz n)))) [(4, bV true)] ⟨(u6m bs n ck cr cm cn cz zo zo (qD : BsW bs) zo zo), zo⟩ ?_
  refine AW.ret ?_
  exact kA (.inr rfl) [] (P := ((xH bs ck cr cm cz) = true) ∧ (kJ [iD ck, iD cr, dl cm cn, iD cz])) zk ⟨(by exact v5u hn zo), rfl⟩
 ·refine kS [.no, .no, .call [0] (iV (zQ bs ck cr cm cz n)) [(0, some (42, .ds [iD ck, iD cr, dl cm cn, iD cz]))] 1 [] none, .b false, .no] ((_) ∧ (¬ ((0 : Int) ≤ (zQ bs ck cr cm cz n)))) [(4, bV false)] ⟨(u6m bs n ck cr cm cn cz zo zo (qD : BsW bs) zo zo), zo⟩ ?_
  refine AW.ret ?_
  exact kA (.inr rfl) [] (P := ((xH bs ck cr cm cz) = false) ∧ (kJ [iD ck, iD cr, dl cm cn, iD cz])) zk ⟨(by exact v5v hn zo), rfl⟩
theorem u6o (bs : List Bx) (n : Nat) (ck cr : Int) (cm : List Int) (cn : Nat) (cz : Int) (hn : ka0 bs = n) (h1 : n ≤ 1000000) (hW : BsW bs) (hm : ka0 cm = cn) (h4 : cn ≤ 1000000) : Fun 53 [.c (.d (D.sl (kN bs) n)), .agg [iC ck, iC cr, .d (D.sl (dI .i64 cm) cn), iC cz]] (kF []) 0 (uW (D.lit (.bool (xH (kK bs) ck cr cm cz)))) (kF []) 0 := by
 refine Fun.mk (n := 9) Tryz.func53 rfl rfl (ka4 rfl) ?_
 intro cx hcx
 refine kH [.no, .no] True [(0, .e (k9 bs n)), (3, rV 0 0)] [(0, some (42, .ds [iD ck, iD cr, dl cm cn, iD cz]))] 1 trivial ?_
 have hx1 : ((ka0 (kK bs)) ≤ n) := (by have h9 := j0 bs; omega)
 refine kH [.no, .call [] (.e (yL (kK bs))) [] 0 [] none, .no, .call [0] (uW (D.lit (.bool (xH (kK bs) ck cr cm cz)))) [(0, some (42, .ds [iD ck, iD cr, dl cm cn, iD cz]))] 1 [] none, .no] ((_) ∧ (_)) [(4, uW (D.lit (.bool (xH (kK bs) ck cr cm cz))))] [] 1 ⟨(jA bs n zo zo (qD : BsW bs)), (v3q (kK bs) (ka0 (kK bs)) ck cr cm cn cz rfl zo (dP (qD : BsW bs)) zo zo)⟩ ?_
 refine AW.ret ?_
 exact kA (.inr rfl) [] (P := ((xH (kK bs) ck cr cm cz) = (xH (kK bs) ck cr cm cz))) zk rfl
end Go.Proofs.YtbicifcgghmhaaaGreat
