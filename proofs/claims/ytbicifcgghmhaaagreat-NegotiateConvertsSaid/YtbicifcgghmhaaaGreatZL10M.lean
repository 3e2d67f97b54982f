/- Boxes of the code. No statement is proved here. -/
import Derived.Test.YtbicifcgghmhaaaGreatZL10D
namespace Go.Proofs.YtbicifcgghmhaaaGreat
open Go.ChangeShapes Go.WideShapes Go.ChangeAt Go.RowKit
open Bool renaming and_false → kc9, eq_false_or_eq_true → kb3, false_and → kh6
open List renaming drop → ka3, getD → ka1, length → ka0, length_append → ka6, length_cons → ka9, length_drop → kb2, length_nil → kb0, length_take → kb1, take → ka5
open Nat renaming le_of_ble_eq_true → ka4, lt_succ_self → kk5, not_lt_zero → ke5
set_option linter.unusedVariables false
set_option linter.unusedSimpArgs false
/-! chapter 10: the code's lists of boxes -/
set_option maxHeartbeats 4000000
set_option maxRecDepth 100000
def lZ (p : Nat → Bool) : Nat → Int
 | 0 => -1
 | k + 1 => if 0 ≤ lZ p k then lZ p k else if p k = true then (k : Int) else -1
theorem cD {p : Nat → Bool} {k : Nat} (h : lZ p k = -1) (h2 : p k = false) : lZ p (k + 1) = -1 := by
 show (if 0 ≤ lZ p k then _ else _) = _
 rw [if_neg (by omega), if_neg (by rw [h2]; decide)]
theorem eU {p : Nat → Bool} {k : Nat} (h : lZ p k = -1) (h2 : p k = true) : ∀ n, k < n → lZ p n = (k : Int)
 | 0, h3 => absurd h3 (ke5 k)
 | n + 1, h3 => by
  show (if 0 ≤ lZ p n then _ else _) = _
  by_cases e : k = n
  ·subst e; rw [if_neg (by omega), if_pos h2]
  ·have h4 := eU h h2 n (by omega)
   rw [if_pos (by omega), h4]
theorem gA (p : Nat → Bool) : ∀ n, (lZ p n = -1 ∧ ∀ j, j < n → p j = false) ∨ ∃ k, k < n ∧ lZ p n = (k : Int) ∧ p k = true
 | 0 => .inl ⟨rfl, fun j h => absurd h (ke5 j)⟩
 | n + 1 => by
  rcases gA p n with ⟨h1, h2⟩ | ⟨k, hk, h1, h2⟩
  ·cases e : p n with
   | false => exact .inl ⟨cD h1 e, fun j hj => (Nat.lt_succ_iff_lt_or_eq.1 hj).elim (h2 j) fun e9 => e9 ▸ e⟩
   | true => exact .inr ⟨n, kk5 n, eU h1 e _ (kk5 n), e⟩
  ·refine .inr ⟨k, by omega, ?_, h2⟩
   show (if 0 ≤ lZ p n then _ else _) = _
   rw [if_pos (by omega)]; exact h1
theorem pZ {p : Nat → Bool} {n : Nat} (h : 0 ≤ lZ p n) : ∃ k, k < n ∧ p k = true := by
 rcases gA p n with ⟨h1, _⟩ | ⟨k, hk, _, h2⟩
 ·omega
 ·exact ⟨k, hk, h2⟩
theorem lH {p : Nat → Bool} {n : Nat} (h : ¬ 0 ≤ lZ p n) : ∀ j, j < n → p j = false := by
 rcases gA p n with ⟨_, h2⟩ | ⟨k, hk, h1, _⟩
 ·exact h2
 ·omega
def hmK (ms : List (List Int)) (m : List Int) : Nat → Int := lZ fun j => bL (ka1 ms j []) m
theorem u4q {ms : List (List Int)} {m : List Int} {c : Nat} (hc : ms.length = c) (h : 0 ≤ hmK ms m c) : iJ ms m = true := by
 obtain ⟨k, hk, h1⟩ := pZ h
 exact v4i (k := k) (by omega) h1
theorem u4s {ms : List (List Int)} {m : List Int} {c : Nat} (hc : ms.length = c) (h : ¬ 0 ≤ hmK ms m c) : iJ ms m = false :=
 v4j fun j hj => lH h j (by omega)
def wR (bs : List Bx) : Nat → Int := lZ fun j => !(vbE bs j)
theorem u9h {bs : List Bx} {n : Nat} (hn : bs.length = n) (h : 0 ≤ wR bs n) : c8 bs = false := by
 obtain ⟨k, hk, h1⟩ := pZ h
 exact v3i (k := k) (by omega) (by simpa using h1)
theorem u9j {bs : List Bx} {n : Nat} (hn : bs.length = n) (h2 : n ≤ 64) (h : ¬ 0 ≤ wR bs n) : c8 bs = true :=
 u9g (by omega) fun j hj => by
  have h3 := lH h j (by omega)
  simpa using h3
def kjB (b q : Int) : Bool := decide (1 ≤ q ∧ q ≤ 7) && jR b q.toNat
theorem v4e {b q : Int} (h : ¬ (1 ≤ q ∧ q ≤ 7)) : kjB b q = false := by unfold kjB; rw [decide_eq_false h]; rfl
theorem u7f {b : Int} {q : Nat} : kjB b (q : Int) = jR b q := by
 unfold kjB
 rw [Int.toNat_natCast]
 by_cases h : 1 ≤ q ∧ q ≤ 7
 ·rw [decide_eq_true (by omega : 1 ≤ (q : Int) ∧ (q : Int) ≤ 7)]; rfl
 ·rw [decide_eq_false (by omega : ¬ (1 ≤ (q : Int) ∧ (q : Int) ≤ 7))]
  exact (decide_eq_false fun e => h ⟨e.1, e.2.1⟩).symm
def gF (k : Int) (r : List Int) (rn : Nat) (m : List (List Int)) (s : List Int) (sn : Nat) (ck cr : Int) (cm : List Int) (cz : Int) : Bool := kjB k ck && (bM (kB r rn) cr && (iJ m cm && bM (kB s sn) cz))
def biE (bs : List Bx) (ck cr : Int) (cm : List Int) (cz : Int) (i : Nat) : Bool := gF (kT bs i) (qE bs i) (k9 bs i) (kW bs i) (qD bs i) (k8 bs i) ck cr cm cz
def haB (bs : List Bx) (ck cr : Int) (cm : List Int) (cz : Int) : Bool := decide (∃ i, i < bs.length ∧ biE bs ck cr cm cz i = true)
def biK (bs : List Bx) (ck cr : Int) (cm : List Int) (cz : Int) : Nat → Int := lZ (biE bs ck cr cm cz)
theorem v1f {bs : List Bx} {ck cr : Int} {cm : List Int} {cz : Int} {n : Nat} (hn : bs.length = n) (h : 0 ≤ biK bs ck cr cm cz n) : haB bs ck cr cm cz = true := by
 obtain ⟨k, hk, h1⟩ := pZ h
 exact decide_eq_true ⟨k, by omega, h1⟩
theorem v1g {bs : List Bx} {ck cr : Int} {cm : List Int} {cz : Int} {n : Nat} (hn : bs.length = n) (h : ¬ 0 ≤ biK bs ck cr cm cz n) : haB bs ck cr cm cz = false :=
 decide_eq_false fun ⟨j, hj, e⟩ => by
  have := lH h j (by omega); rw [e] at this; cases this
theorem v2c {k : Int} {r : List Int} {rn : Nat} {m : List (List Int)} {s : List Int} {sn : Nat} {ck cr : Int} {cm : List Int} {cz : Int} (h1 : kjB k ck = true) (h2 : bM (kB r rn) cr = true) (h3 : iJ m cm = true) (h4 : bM (kB s sn) cz = true) : gF k r rn m s sn ck cr cm cz = true := by
 unfold gF; rw [h1, h2, h3, h4]; rfl
theorem v2d {k : Int} {r : List Int} {rn : Nat} {m : List (List Int)} {s : List Int} {sn : Nat} {ck cr : Int} {cm : List Int} {cz : Int} (h1 : kjB k ck = false) : gF k r rn m s sn ck cr cm cz = false := by
 unfold gF; rw [h1]; rfl
theorem v4u {k : Int} {r : List Int} {rn : Nat} {m : List (List Int)} {s : List Int} {sn : Nat} {ck cr : Int} {cm : List Int} {cz : Int} (h2 : bM (kB r rn) cr = false) : gF k r rn m s sn ck cr cm cz = false := by
 unfold gF; rw [h2, kh6, kc9]
theorem v4v {k : Int} {r : List Int} {rn : Nat} {m : List (List Int)} {s : List Int} {sn : Nat} {ck cr : Int} {cm : List Int} {cz : Int} (h3 : iJ m cm = false) : gF k r rn m s sn ck cr cm cz = false := by
 unfold gF; rw [h3, kh6, kc9, kc9]
theorem v4t {k : Int} {r : List Int} {rn : Nat} {m : List (List Int)} {s : List Int} {sn : Nat} {ck cr : Int} {cm : List Int} {cz : Int} (h4 : bM (kB s sn) cz = false) : gF k r rn m s sn ck cr cm cz = false := by
 unfold gF; rw [h4, kc9, kc9, kc9]
def u5 (a b : List (List Int)) : Nat → List (List Int)
 | 0 => []
 | i + 1 => if iJ b (ka1 a i []) = true then u5 a b i ++ [ka1 a i []] else u5 a b i
theorem u5a {a b o : List (List Int)} {i : Nat} (h : u5 a b i = o) (h1 : iJ b (ka1 a i []) = true) : u5 a b (i + 1) = o ++ [ka1 a i []] := by subst h; exact if_pos h1
theorem u5b {a b o : List (List Int)} {i : Nat} (h : u5 a b i = o) (h1 : iJ b (ka1 a i []) = false) : u5 a b (i + 1) = o := by subst h; exact if_neg (by rw [h1]; decide)
theorem p7 {a : List (List Int)} (h : MsW a) (b : List (List Int)) : ∀ i, MsW (u5 a b i)
 | 0 => MsW.nil
 | i + 1 => by
  rw [u5]; split
  ·exact (p7 h b i).snoc (h.at i)
  ·exact p7 h b i
theorem cW (a b : List (List Int)) : ∀ i, ka0 (u5 a b i) ≤ i
 | 0 => Nat.le_refl _
 | i + 1 => by
  have := cW a b i
  rw [u5]; split
  ·rw [ka6, List.length_singleton]; omega
  ·omega
theorem v1e {ms : List (List Int)} {m : List Int} {k : Nat} (h : hmK ms m k = -1) (h2 : bL (ka1 ms k []) m = false) : hmK ms m (k + 1) = -1 := cD h h2
theorem u4r {ms : List (List Int)} {m : List Int} {k : Nat} (h : hmK ms m k = -1) (h2 : bL (ka1 ms k []) m = true) {n : Nat} (hn : k < n) : hmK ms m n = (k : Int) := eU h h2 n hn
def nxB (k : Int) (r : List Int) (rn : Nat) (m : List (List Int)) (s : List Int) (sn : Nat) : Bool := !(gO k r rn m s sn)
theorem v0q {k : Int} {r : List Int} {rn : Nat} {m : List (List Int)} {s : List Int} {sn : Nat} (h : gO k r rn m s sn = false) : nxB k r rn m s sn = true := by unfold nxB; rw [h]; rfl
theorem v0r {k : Int} {r : List Int} {rn : Nat} {m : List (List Int)} {s : List Int} {sn : Nat} (h : gO k r rn m s sn = true) : nxB k r rn m s sn = false := by unfold nxB; rw [h]; rfl
theorem u9i {bs : List Bx} {k : Nat} (h : wR bs k = -1) (h2 : nxB (kT bs k) (qE bs k) (k9 bs k) (kW bs k) (qD bs k) (k8 bs k) = false) : wR bs (k + 1) = -1 := cD h h2
theorem u3x {bs : List Bx} {k : Nat} (h : wR bs k = -1) (h2 : nxB (kT bs k) (qE bs k) (k9 bs k) (kW bs k) (qD bs k) (k8 bs k) = true) {n : Nat} (hn : k < n) : wR bs n = (k : Int) := eU h h2 n hn
def naB (bs : List Bx) (n : Nat) : Bool := decide (0 ≤ wR bs n)
theorem u75 {bs : List Bx} {n : Nat} (hn : bs.length = n) (h : naB bs n = true) : c8 bs = false := u9h hn (of_decide_eq_true h)
theorem u74 {bs : List Bx} {n : Nat} (hn : bs.length = n) (h2 : n ≤ 64) (h : naB bs n = false) : c8 bs = true := u9j hn h2 (of_decide_eq_false h)
theorem v4c {b : Int} {q : Nat} (h1 : 1 ≤ q ∧ q ≤ 7) (h : e7 (b / ((2 ^ q : Nat) : Int)) = 1) : kjB b (q : Int) = true := by
 rw [u7f]; exact decide_eq_true ⟨h1.1, h1.2, h⟩
theorem v4d {b : Int} {q : Nat} (h : ¬ e7 (b / ((2 ^ q : Nat) : Int)) = 1) : kjB b (q : Int) = false := by
 rw [u7f]; exact decide_eq_false fun e => h e.2.2
theorem v2e {bs : List Bx} {ck cr : Int} {cm : List Int} {cz : Int} {k : Nat} (h : biK bs ck cr cm cz k = -1) (h2 : gF (kT bs k) (qE bs k) (k9 bs k) (kW bs k) (qD bs k) (k8 bs k) ck cr cm cz = false) : biK bs ck cr cm cz (k + 1) = -1 := cD h h2
theorem u5h {bs : List Bx} {ck cr : Int} {cm : List Int} {cz : Int} {k : Nat} (h : biK bs ck cr cm cz k = -1) (h2 : gF (kT bs k) (qE bs k) (k9 bs k) (kW bs k) (qD bs k) (k8 bs k) ck cr cm cz = true) {n : Nat} (hn : k < n) : biK bs ck cr cm cz n = (k : Int) := eU h h2 n hn
theorem u0z (w a : List Int) (o n : Nat) (ho : ka0 w = o) (hn : ka0 a = n) (h1 : o ≤ 1000000) (h2 : n ≤ 1000000) : Fun 154 [.c (.d (D.sl (dI .i64 a) n)), .c (.ptr 0 0)] (kF [(0, some (38, .ds [D.sl (dI .i64 w) o]))]) 1 (u1 (D.lit (.bool (bL a w)))) (kF [(0, some (38, .ds [D.sl (dI .i64 w) o]))]) 1 := by
 refine Fun.mk (n := 7) Tryz.func154 rfl rfl (ka4 rfl) ?_
 intro cx hcx
 refine kI [.no] True [(0, sV .i64 a n), (1, rV 0 0)] [(0, some (38, .ds [dl w o]))] 1 trivial ?_
 refine kS [.no, .no, .call [] (u1 (D.lit (.bool (bL a w)))) [] 0 [] none, .no] _ [(3, u1 (D.lit (.bool (bL a w))))] (t9 a w n o zo zo zo zo) ?_
 refine AW.ret ?_
 exact EndP.of (.inr rfl) [] (P := ((bL a w) = (bL a w)) ∧ (kM [dl w o])) zk ⟨rfl, rfl⟩
theorem fG {p : Prop} (h : p := by first | omega | assumption | simp) : p := h
theorem gX {p : Prop} (h : p := by first | omega | (simp only [kZ, kY, ka6, ka9, kb0, kb1, kb2] <;> omega)) : p := h
theorem uX {p : Prop} (h : p := by first | omega | with_reducible assumption | (simp only [kZ, kY, ka6, ka9, kb0, kb1, kb2, List.length_replicate, List.length_set] <;> omega) | rfl | assumption) : p := h
theorem rN {p : Prop} (h : p := by first | rfl | omega | assumption | (simp; done) | (simp; omega)) : p := h
theorem u62 (ms : List (List Int)) (c : Nat) (w : List Int) (o : Nat) (hc : ka0 ms = c) (ho : ka0 w = o) (h1 : c ≤ 1000000) (h2 : o ≤ 1000000) (hW : MsW ms) : Fun 159 [.c (.d (D.sl (kK ms) c)), .c (.fn 154 [(0, 0)])] (kF [(0, some (38, .ds [D.sl (dI .i64 w) o]))]) 1 (iV (hmK ms w c)) (kF [(0, some (38, .ds [D.sl (dI .i64 w) o]))]) 1 := by
 refine Fun.mk (n := 19) Tryz.func159 rfl rfl (ka4 rfl) ?_
 intro cx hcx
 refine kI [.no] True [(0, qK (kK ms) c), (1, .e (.c (.fn 154 [(0, 0)])))] [(0, some (38, .ds [dl w o]))] 1 trivial ?_
 refine AW.seq ?_
 refine kS [.no, .no, .no] True [(0, qK (kK ms) c), (1, .e (.c (.fn 154 [(0, 0)]))), (7, uV c), (8, iV 0)] trivial ?_
 refine AW.block ?_
 refine qF 1 hcx (fun (x : {x : Nat // match x with | k => (k ≤ c) ∧ (hmK ms w k = -1)}) => match x with | ⟨k, _⟩ => (⟨[(0, qK (kK ms) c), (1, .e (.c (.fn 154 [(0, 0)]))), (7, uV c), (8, uV k)], [(0, some (38, .ds [dl w o]))], 1⟩ : ES)) (fun x => match x with | ⟨k, _⟩ => c - k) ⟨(0 : Nat), ⟨fG, rfl⟩⟩ [] (P := (kM (kK ms)) ∧ (kH c) ∧ (kP (c : Int)) ∧ (kP 0) ∧ (kM [dl w o])) zk ⟨rfl, rfl, rfl, rfl, rfl⟩ ?_
 rintro ⟨k, hinv0⟩
 obtain ⟨hk, hi⟩ : (k ≤ c) ∧ (hmK ms w k = -1) := hinv0
 refine uG (l := [(0, qK (kK ms) c), (1, .e (.c (.fn 154 [(0, 0)]))), (7, uV c), (8, uV k)]) (g := [(0, some (38, .ds [dl w o]))]) (nx := 1) rfl rfl rfl ?_
 by_cases hx1 : (((k : Nat) : Int) < ((c : Nat) : Int))
 ·refine kI [.b true] (((k : Int) < (c : Int))) [(0, qK (kK ms) c), (1, .e (.c (.fn 154 [(0, 0)]))), (7, uV c), (8, uV k), (9, bV true)] [(0, some (38, .ds [dl w o]))] 1 zo ?_
  refine AW.seq ?_
  refine vO ?_
  refine AW.seq ?_
  refine AW.block ?_
  refine kS [.no, .no] True [(0, qK (kK ms) c), (1, .e (.c (.fn 154 [(0, 0)]))), (5, uV k), (7, uV c), (8, uV k)] trivial ?_
  rcases kb3 (bL (ka1 ms k ([] : List Int)) w) with hx3 | hx3
  ·have hx4 : ((ka0 (ka1 ms k ([] : List Int))) ≤ 1000000) := MsW.at (qJ : MsW ms) _
   refine kS [.no, .no, .no, .n k, .d (dl (ka1 ms k ([] : List Int)) (ka0 (ka1 ms k ([] : List Int)))), .call [0] (bV true) [(0, some (38, .ds [dl w o]))] 1 [] none] ((kP (k : Int)) ∧ (k < c) ∧ ((ka3 k (kK ms))[0]? = some (dl (ka1 ms k ([] : List Int)) (ka0 (ka1 ms k ([] : List Int))))) ∧ (Fun 154 [.c (.d (dl (ka1 ms k ([] : List Int)) (ka0 (ka1 ms k ([] : List Int))))), .c (.ptr 0 0)] (kF [(0, some (38, .ds [dl w o]))]) 1 (bV true) (kF [(0, some (38, .ds [dl w o]))]) 1)) [(0, qK (kK ms) c), (1, .e (.c (.fn 154 [(0, 0)]))), (5, uV k), (7, uV c), (8, uV k), (16, bV true)] ⟨rfl, zo, (bK _ _ gX), (by have h0 := (u0z w (ka1 ms k ([] : List Int)) o (ka0 (ka1 ms k ([] : List Int))) zo rfl zo uX); rw [hx3] at h0; exact h0)⟩ ?_
   refine zt ?_
   refine kS [.no, .no] True [(4, uV k)] trivial ?_
   refine AW.ret ?_
   exact EndP.of (.inr rfl) [] (P := (((hmK ms w c) : Int) = (k : Int)) ∧ (kM [dl w o])) zk ⟨(by first | rfl | exact u4r hi (by assumption) zo | (rw [show c = k by omega]; exact hi) | omega), rfl⟩
  ·have hx5 : ((ka0 (ka1 ms k ([] : List Int))) ≤ 1000000) := MsW.at (qJ : MsW ms) _
   refine kS [.no, .no, .no, .n k, .d (dl (ka1 ms k ([] : List Int)) (ka0 (ka1 ms k ([] : List Int)))), .call [0] (bV false) [(0, some (38, .ds [dl w o]))] 1 [] none] ((kP (k : Int)) ∧ (k < c) ∧ ((ka3 k (kK ms))[0]? = some (dl (ka1 ms k ([] : List Int)) (ka0 (ka1 ms k ([] : List Int))))) ∧ (Fun 154 [.c (.d (dl (ka1 ms k ([] : List Int)) (ka0 (ka1 ms k ([] : List Int))))), .c (.ptr 0 0)] (kF [(0, some (38, .ds [dl w o]))]) 1 (bV false) (kF [(0, some (38, .ds [dl w o]))]) 1)) [(0, qK (kK ms) c), (1, .e (.c (.fn 154 [(0, 0)]))), (5, uV k), (7, uV c), (8, uV k), (16, bV false)] ⟨rfl, zo, (bK _ _ gX), (by have h0 := (u0z w (ka1 ms k ([] : List Int)) o (ka0 (ka1 ms k ([] : List Int))) zo rfl zo uX); rw [hx3] at h0; exact h0)⟩ ?_
   refine u9 ?_
   refine yK [.w, .no] (yF ((k : Int) + 1)) [(0, qK (kK ms) c), (1, .e (.c (.fn 154 [(0, 0)]))), (7, uV c), (8, iV (↑k + 1))] ⟨by omega, by omega⟩ ?_
   exact Rd.of ⟨((k + 1) : Nat), ⟨fG, (v1e hi (by assumption))⟩⟩ [] (P := (kM (kK ms)) ∧ (kH c) ∧ (kP (c : Int)) ∧ (cU k) ∧ (kM [dl w o])) zk ⟨rfl, rfl, rfl, rN, rfl⟩ (show c - (k + 1) < c - k from (by first | omega | (show _ < _; simp; omega)))
 ·refine kI [.b false] (¬ ((k : Int) < (c : Int))) [(0, qK (kK ms) c), (1, .e (.c (.fn 154 [(0, 0)]))), (7, uV c), (8, uV k), (9, bV false)] [(0, some (38, .ds [dl w o]))] 1 zo ?_
  refine AW.seq ?_
  refine zf ?_
  refine AW.exit ?_
  refine kI [.no] True [(4, iV (-1))] [(0, some (38, .ds [dl w o]))] 1 trivial ?_
  refine AW.ret ?_
  exact EndP.of (.inr rfl) [] (P := (((hmK ms w c) : Int) = (-1)) ∧ (kM [dl w o])) zk ⟨(by first | rfl | exact u4r hi (by assumption) zo | (rw [show c = k by omega]; exact hi) | omega), rfl⟩
theorem v30 (ms : List (List Int)) (c : Nat) (w : List Int) (o : Nat) (hc : ka0 ms = c) (ho : ka0 w = o) (h1 : c ≤ 1000000) (h2 : o ≤ 1000000) (hW : MsW ms) : Fun 132 [.c (.d (D.sl (kK ms) c)), .c (.fn 154 [(0, 0)])] (kF [(0, some (38, .ds [D.sl (dI .i64 w) o]))]) 1 (u1 (D.lit (.bool (iJ ms w)))) (kF [(0, some (38, .ds [D.sl (dI .i64 w) o]))]) 1 := by
 refine Fun.mk (n := 9) Tryz.func132 rfl rfl (ka4 rfl) ?_
 intro cx hcx
 refine kI [.no] True [(0, qK (kK ms) c), (1, .e (.c (.fn 154 [(0, 0)])))] [(0, some (38, .ds [dl w o]))] 1 trivial ?_
 by_cases hx1 : ((0 : Int) ≤ (hmK ms w c))
 ·refine kS [.no, .no, .call [0] (iV (hmK ms w c)) [(0, some (38, .ds [dl w o]))] 1 [] none, .b true, .no] ((_) ∧ (((0 : Int) ≤ (hmK ms w c)))) [(4, bV true)] ⟨(u62 ms c w o zo zo zo zo (qJ : MsW ms)), zo⟩ ?_
  refine AW.ret ?_
  exact EndP.of (.inr rfl) [] (P := ((iJ ms w) = true) ∧ (kM [dl w o])) zk ⟨(by first | exact u4q hc zo | exact u4s hc zo), rfl⟩
 ·refine kS [.no, .no, .call [0] (iV (hmK ms w c)) [(0, some (38, .ds [dl w o]))] 1 [] none, .b false, .no] ((_) ∧ (¬ ((0 : Int) ≤ (hmK ms w c)))) [(4, bV false)] ⟨(u62 ms c w o zo zo zo zo (qJ : MsW ms)), zo⟩ ?_
  refine AW.ret ?_
  exact EndP.of (.inr rfl) [] (P := ((iJ ms w) = false) ∧ (kM [dl w o])) zk ⟨(by first | exact u4q hc zo | exact u4s hc zo), rfl⟩
theorem jM (ms : List (List Int)) (c : Nat) (w : List Int) (o : Nat) (hc : ka0 ms = c) (ho : ka0 w = o) (h1 : c ≤ 1000000) (h2 : o ≤ 1000000) (hW : MsW ms) : Fun 126 [.c (.d (D.sl (kK ms) c)), .c (.d (D.sl (dI .i64 w) o))] (kF []) 0 (u1 (D.lit (.bool (iJ ms w)))) (kF []) 0 := by
 refine Fun.mk (n := 8) Tryz.func126 rfl rfl (ka4 rfl) ?_
 intro cx hcx
 refine kI [.no, .no] True [(0, qK (kK ms) c), (3, rV 0 0)] [(0, some (38, .ds [dl w o]))] 1 trivial ?_
 refine kI [.no, .no, .call [0] (u1 (D.lit (.bool (iJ ms w)))) [(0, some (38, .ds [dl w o]))] 1 [] none, .no] _ [(4, u1 (D.lit (.bool (iJ ms w))))] [] 1 (v30 ms c w o zo zo zo zo (qJ : MsW ms)) ?_
 refine AW.ret ?_
 exact EndP.of (.inr rfl) [] (P := ((iJ ms w) = (iJ ms w))) zk rfl
theorem m5 {p : Prop} (h : p := by first | exact u9f (by assumption) | exact u9e (by assumption)) : p := h
theorem wB (m : List (List Int)) (c : Nat) (hc : ka0 m = c) (h1 : c ≤ 1000000) (hW : MsW m) : Fun 129 [.c (.d (D.sl (kK m) c))] (kF []) 0 (u1 (D.lit (.bool (nB m)))) (kF []) 0 := by
 refine Fun.mk (n := 31) Tryz.func129 rfl rfl (ka4 rfl) ?_
 intro cx hcx
 refine kI [.no] True [(0, qK (kK m) c)] [] 0 trivial ?_
 refine AW.seq ?_
 by_cases hx1 : (((c : Nat) : Int) < 1)
 ·refine kS [.no, .no, .b true, .no, .no] (((c : Int) < 1)) [(0, qK (kK m) c), (12, bV true)] zo ?_
  refine zt ?_
  refine kS [.no] True [(2, bV false)] trivial ?_
  refine AW.ret ?_
  exact EndP.of (.inr rfl) [] (P := ((nB m) = false)) zk (by first | exact k3w zo zo (fun j hj => ha j zo) | exact k5a zo | exact k5c (k := i) zo m5)
 ·by_cases hx2 : ((16 : Int) < ((c : Nat) : Int))
  ·refine kS [.no, .no, .b false, .no, .no, .no, .b true, .no] ((¬ ((c : Int) < 1)) ∧ (((16 : Int) < (c : Int)))) [(0, qK (kK m) c), (12, bV true)] ⟨zo, zo⟩ ?_
   refine zt ?_
   refine kS [.no] True [(2, bV false)] trivial ?_
   refine AW.ret ?_
   exact EndP.of (.inr rfl) [] (P := ((nB m) = false)) zk (by first | exact k3w zo zo (fun j hj => ha j zo) | exact k5a zo | exact k5c (k := i) zo m5)
  ·refine kS [.no, .no, .b false, .no, .no, .no, .b false, .no] ((¬ ((c : Int) < 1)) ∧ (¬ ((16 : Int) < (c : Int)))) [(0, qK (kK m) c), (12, bV false)] ⟨zo, zo⟩ ?_
   refine u9 ?_
   refine AW.seq ?_
   refine kS [.no, .no, .no] True [(0, qK (kK m) c), (13, qK (kK m) c), (14, uV c), (15, iV 0)] trivial ?_
   refine AW.block ?_
   refine qF 0 hcx (fun (x : {x : Nat // match x with | i => (i ≤ c) ∧ (∀ j, j < i → vmE m j = true)}) => match x with | ⟨i, _⟩ => (⟨[(0, qK (kK m) c), (13, qK (kK m) c), (14, uV c), (15, uV i)], [], 0⟩ : ES)) (fun x => match x with | ⟨i, _⟩ => c - i) ⟨(0 : Nat), ⟨fG, (fun j hj => absurd hj (ke5 j))⟩⟩ [] (P := (kM (kK m)) ∧ (kH c) ∧ (kM (kK m)) ∧ (kH c) ∧ (kP (c : Int)) ∧ (kP 0)) zk ⟨rfl, rfl, rfl, rfl, rfl, rfl⟩ ?_
   rintro ⟨i, hinv0⟩
   obtain ⟨hi, ha⟩ : (i ≤ c) ∧ (∀ j, j < i → vmE m j = true) := hinv0
   refine uG (l := [(0, qK (kK m) c), (13, qK (kK m) c), (14, uV c), (15, uV i)]) (g := []) (nx := 0) rfl rfl rfl ?_
   by_cases hx3 : (((i : Nat) : Int) < ((c : Nat) : Int))
   ·refine kI [.b true] (((i : Int) < (c : Int))) [(0, qK (kK m) c), (13, qK (kK m) c), (14, uV c), (15, uV i), (16, bV true)] [] 0 zo ?_
    refine AW.seq ?_
    refine vO ?_
    refine AW.seq ?_
    refine AW.block ?_
    have hx4 : ((ka0 (ka1 m i ([] : List Int))) ≤ 1000000) := MsW.at (qJ : MsW m) _
    refine kS [.no, .n i, .d (dl (ka1 m i ([] : List Int)) (ka0 (ka1 m i ([] : List Int)))), .no, .no] ((kP (i : Int)) ∧ (i < c) ∧ ((ka3 i (kK m))[0]? = some (dl (ka1 m i ([] : List Int)) (ka0 (ka1 m i ([] : List Int)))))) [(0, qK (kK m) c), (3, uV i), (4, sV .i64 (ka1 m i ([] : List Int)) (ka0 (ka1 m i ([] : List Int)))), (13, qK (kK m) c), (14, uV c), (15, uV i)] ⟨rfl, zo, (bK _ _ gX)⟩ ?_
    rcases kb3 (wK (ka1 m i ([] : List Int)) (ka0 (ka1 m i ([] : List Int)))) with hx5 | hx5
    ·rcases kb3 (iJ (ka5 i m) (ka1 m i ([] : List Int))) with hx6 | hx6
     ·refine kS (.no :: .call [] (bV true) [] 0 [] none :: qN 4 [.sls 0 i i (kK (ka5 i m)), .no, .call [] (bV true) [] 0 [] none, .no]) ((Fun 156 [.c (.d (dl (ka1 m i ([] : List Int)) (ka0 (ka1 m i ([] : List Int)))))] (kF []) 0 (bV true) (kF []) 0) ∧ (kH 0) ∧ (kP (i : Int)) ∧ ((0 : Nat) ≤ i) ∧ (i ≤ c) ∧ (i - 0 = i) ∧ (ka5 (i * 1) (ka3 (0 * 1) (kK m)) = (kK (ka5 i m))) ∧ (Fun 126 [.c (.d (D.sl (kK (ka5 i m)) i)), .c (.d (dl (ka1 m i ([] : List Int)) (ka0 (ka1 m i ([] : List Int)))))] (kF []) 0 (bV true) (kF []) 0)) [(0, qK (kK m) c), (13, qK (kK m) c), (14, uV c), (15, uV i), (29, bV true)] ⟨(by have h0 := (t8 (ka1 m i ([] : List Int)) (ka0 (ka1 m i ([] : List Int))) rfl uX); rw [hx5] at h0; exact h0), rfl, rfl, zo, zo, zo, (xK _ _), (by have h0 := (jM (ka5 i m) i (ka1 m i ([] : List Int)) (ka0 (ka1 m i ([] : List Int))) uX rfl zo uX (MsW.take (qJ : MsW m) _)); rw [hx6] at h0; exact h0)⟩ ?_
      refine zt ?_
      refine kS [.no] True [(2, bV false)] trivial ?_
      refine AW.ret ?_
      exact EndP.of (.inr rfl) [] (P := ((nB m) = false)) zk (by first | exact k3w zo zo (fun j hj => ha j zo) | exact k5a zo | exact k5c (k := i) zo m5)
     ·refine kS (.no :: .call [] (bV true) [] 0 [] none :: qN 4 [.sls 0 i i (kK (ka5 i m)), .no, .call [] (bV false) [] 0 [] none, .no]) ((Fun 156 [.c (.d (dl (ka1 m i ([] : List Int)) (ka0 (ka1 m i ([] : List Int)))))] (kF []) 0 (bV true) (kF []) 0) ∧ (kH 0) ∧ (kP (i : Int)) ∧ ((0 : Nat) ≤ i) ∧ (i ≤ c) ∧ (i - 0 = i) ∧ (ka5 (i * 1) (ka3 (0 * 1) (kK m)) = (kK (ka5 i m))) ∧ (Fun 126 [.c (.d (D.sl (kK (ka5 i m)) i)), .c (.d (dl (ka1 m i ([] : List Int)) (ka0 (ka1 m i ([] : List Int)))))] (kF []) 0 (bV false) (kF []) 0)) [(0, qK (kK m) c), (13, qK (kK m) c), (14, uV c), (15, uV i), (29, bV false)] ⟨(by have h0 := (t8 (ka1 m i ([] : List Int)) (ka0 (ka1 m i ([] : List Int))) rfl uX); rw [hx5] at h0; exact h0), rfl, rfl, zo, zo, zo, (xK _ _), (by have h0 := (jM (ka5 i m) i (ka1 m i ([] : List Int)) (ka0 (ka1 m i ([] : List Int))) uX rfl zo uX (MsW.take (qJ : MsW m) _)); rw [hx6] at h0; exact h0)⟩ ?_
      refine u9 ?_
      refine yK [.w, .no] (yF ((i : Int) + 1)) [(0, qK (kK m) c), (13, qK (kK m) c), (14, uV c), (15, iV (↑i + 1))] ⟨by omega, by omega⟩ ?_
      exact Rd.of ⟨((i + 1) : Nat), ⟨fG, (fun j hj => (Nat.lt_succ_iff_lt_or_eq.1 hj).elim (ha j) (fun e9 => by subst e9; exact u3w (by assumption) (by assumption)))⟩⟩ [] (P := (kM (kK m)) ∧ (kH c) ∧ (kM (kK m)) ∧ (kH c) ∧ (kP (c : Int)) ∧ (cU i)) zk ⟨rfl, rfl, rfl, rfl, rfl, rN⟩ (show c - (i + 1) < c - i from (by first | omega | (show _ < _; simp; omega)))
    ·refine kS [.no, .call [] (bV false) [] 0 [] none, .no, .no, .no] (Fun 156 [.c (.d (dl (ka1 m i ([] : List Int)) (ka0 (ka1 m i ([] : List Int)))))] (kF []) 0 (bV false) (kF []) 0) [(0, qK (kK m) c), (13, qK (kK m) c), (14, uV c), (15, uV i), (29, bV true)] (by have h0 := (t8 (ka1 m i ([] : List Int)) (ka0 (ka1 m i ([] : List Int))) rfl uX); rw [hx5] at h0; exact h0) ?_
     refine zt ?_
     refine kS [.no] True [(2, bV false)] trivial ?_
     refine AW.ret ?_
     exact EndP.of (.inr rfl) [] (P := ((nB m) = false)) zk (by first | exact k3w zo zo (fun j hj => ha j zo) | exact k5a zo | exact k5c (k := i) zo m5)
   ·refine kI [.b false] (¬ ((i : Int) < (c : Int))) [(0, qK (kK m) c), (13, qK (kK m) c), (14, uV c), (15, uV i), (16, bV false)] [] 0 zo ?_
    refine AW.seq ?_
    refine zf ?_
    refine AW.exit ?_
    refine kI [.no] True [(2, bV true)] [] 0 trivial ?_
    refine AW.ret ?_
    exact EndP.of (.inr rfl) [] (P := ((nB m) = true)) zk (by first | exact k3w zo zo (fun j hj => ha j zo) | exact k5a zo | exact k5c (k := i) zo m5)
theorem jV {p : Prop} (h : p := by first | exact u01 (by omega) (by assumption) (by assumption) (by assumption) | exact v4r (by omega) | exact v4q (by assumption) | exact v4p (by assumption) | exact v4o (by assumption)) : p := h
theorem lQ (k : Int) (r : List Int) (rn : Nat) (m : List (List Int)) (c : Nat) (s : List Int) (sn : Nat) (hr : ka0 r = rn * 2) (hs : ka0 s = sn * 2) (hc : ka0 m = c) (h1 : rn ≤ 1000000) (h2 : sn ≤ 1000000) (h3 : c ≤ 1000000) (hW : MsW m) : Fun 92 [.agg [iC k, .d (D.sl (dI .i64 r) rn), .d (D.sl (kK m) c), .d (D.sl (dI .i64 s) sn)]] (kF []) 0 (u1 (D.lit (.bool (gO k r rn m s sn)))) (kF []) 0 := by
 refine Fun.mk (n := 27) Tryz.func92 rfl rfl (ka4 rfl) ?_
 intro cx hcx
 refine kI [.no, .no] True [(1, rV 0 0)] [(0, some (63, .ds [iD k, dl r rn, D.sl (kK m) c, dl s sn]))] 1 trivial ?_
 by_cases hx1 : (k ≠ 0)
 ·by_cases hx2 : ((lN k) = 0)
  ·rcases kb3 (eZ r rn 1000 768000) with hx3 | hx3
   ·rcases kb3 (nB m) with hx4 | hx4
    ·rcases kb3 (eZ s sn 1 65536) with hx5 | hx5
     ·refine kI (.no :: .no :: .b true :: .no :: .no :: .no :: .i (lN k) :: .b true :: qN 4 (.call [] (bV true) [] 0 [] none :: qN 4 (.call [] (bV true) [] 0 [] none :: qN 4 [.call [] (bV true) [] 0 [] none, .no, .no]))) (((k ≠ 0)) ∧ (qM .andNot .i64 k 254 = (lN k)) ∧ (((lN k) = 0)) ∧ (Fun 128 [.agg [.d (dl r rn)], iE 1000, iE 768000] (kF []) 0 (bV true) (kF []) 0) ∧ (Fun 129 [.c (.d (D.sl (kK m) c))] (kF []) 0 (bV true) (kF []) 0) ∧ (Fun 128 [.agg [.d (dl s sn)], iE 1, iE 65536] (kF []) 0 (bV true) (kF []) 0)) [(2, bV true)] [] 1 ⟨zo, rfl, zo, (by have h0 := (lO r rn 1000 768000 zo zo); rw [hx3] at h0; exact h0), (by have h0 := (wB m c zo zo (qJ : MsW m)); rw [hx4] at h0; exact h0), (by have h0 := (lO s sn 1 65536 zo zo); rw [hx5] at h0; exact h0)⟩ ?_
      refine AW.ret ?_
      exact EndP.of (.inr rfl) [] (P := ((gO k r rn m s sn) = true)) zk jV
     ·refine kI (.no :: .no :: .b true :: .no :: .no :: .no :: .i (lN k) :: .b true :: qN 4 (.call [] (bV true) [] 0 [] none :: qN 4 (.call [] (bV true) [] 0 [] none :: qN 4 [.call [] (bV false) [] 0 [] none, .no, .no]))) (((k ≠ 0)) ∧ (qM .andNot .i64 k 254 = (lN k)) ∧ (((lN k) = 0)) ∧ (Fun 128 [.agg [.d (dl r rn)], iE 1000, iE 768000] (kF []) 0 (bV true) (kF []) 0) ∧ (Fun 129 [.c (.d (D.sl (kK m) c))] (kF []) 0 (bV true) (kF []) 0) ∧ (Fun 128 [.agg [.d (dl s sn)], iE 1, iE 65536] (kF []) 0 (bV false) (kF []) 0)) [(2, bV false)] [] 1 ⟨zo, rfl, zo, (by have h0 := (lO r rn 1000 768000 zo zo); rw [hx3] at h0; exact h0), (by have h0 := (wB m c zo zo (qJ : MsW m)); rw [hx4] at h0; exact h0), (by have h0 := (lO s sn 1 65536 zo zo); rw [hx5] at h0; exact h0)⟩ ?_
      refine AW.ret ?_
      exact EndP.of (.inr rfl) [] (P := ((gO k r rn m s sn) = false)) zk jV
    ·refine kI (.no :: .no :: .b true :: .no :: .no :: .no :: .i (lN k) :: .b true :: qN 4 (.call [] (bV true) [] 0 [] none :: qN 4 (.call [] (bV false) [] 0 [] none :: qN 4 []))) (((k ≠ 0)) ∧ (qM .andNot .i64 k 254 = (lN k)) ∧ (((lN k) = 0)) ∧ (Fun 128 [.agg [.d (dl r rn)], iE 1000, iE 768000] (kF []) 0 (bV true) (kF []) 0) ∧ (Fun 129 [.c (.d (D.sl (kK m) c))] (kF []) 0 (bV false) (kF []) 0)) [(2, bV false)] [] 1 ⟨zo, rfl, zo, (by have h0 := (lO r rn 1000 768000 zo zo); rw [hx3] at h0; exact h0), (by have h0 := (wB m c zo zo (qJ : MsW m)); rw [hx4] at h0; exact h0)⟩ ?_
     refine AW.ret ?_
     exact EndP.of (.inr rfl) [] (P := ((gO k r rn m s sn) = false)) zk jV
   ·refine kI (.no :: .no :: .b true :: .no :: .no :: .no :: .i (lN k) :: .b true :: qN 4 (.call [] (bV false) [] 0 [] none :: qN 6 [])) (((k ≠ 0)) ∧ (qM .andNot .i64 k 254 = (lN k)) ∧ (((lN k) = 0)) ∧ (Fun 128 [.agg [.d (dl r rn)], iE 1000, iE 768000] (kF []) 0 (bV false) (kF []) 0)) [(2, bV false)] [] 1 ⟨zo, rfl, zo, (by have h0 := (lO r rn 1000 768000 zo zo); rw [hx3] at h0; exact h0)⟩ ?_
    refine AW.ret ?_
    exact EndP.of (.inr rfl) [] (P := ((gO k r rn m s sn) = false)) zk jV
  ·refine kI (.no :: .no :: .b true :: .no :: .no :: .no :: .i (lN k) :: .b false :: qN 8 []) (((k ≠ 0)) ∧ (qM .andNot .i64 k 254 = (lN k)) ∧ (¬ ((lN k) = 0))) [(2, bV false)] [] 1 ⟨zo, rfl, zo⟩ ?_
   refine AW.ret ?_
   exact EndP.of (.inr rfl) [] (P := ((gO k r rn m s sn) = false)) zk jV
 ·refine kI (.no :: .no :: .b false :: qN 9 []) (¬ (k ≠ 0)) [(2, bV false)] [] 1 zo ?_
  refine AW.ret ?_
  exact EndP.of (.inr rfl) [] (P := ((gO k r rn m s sn) = false)) zk jV
theorem z9 (k : Int) (r : List Int) (rn : Nat) (m : List (List Int)) (c : Nat) (s : List Int) (sn : Nat) (hr : ka0 r = rn * 2) (hs : ka0 s = sn * 2) (hc : ka0 m = c) (h1 : rn ≤ 1000000) (h2 : sn ≤ 1000000) (h3 : c ≤ 1000000) (hW : MsW m) : Fun 91 [.agg [iC k, .d (D.sl (dI .i64 r) rn), .d (D.sl (kK m) c), .d (D.sl (dI .i64 s) sn)]] (kF []) 0 (u1 (D.lit (.bool (nxB k r rn m s sn)))) (kF []) 0 := by
 refine Fun.mk (n := 6) Tryz.func91 rfl rfl (ka4 rfl) ?_
 intro cx hcx
 refine kI [.no, .no] True [(1, rV 0 0)] [(0, some (63, .ds [iD k, dl r rn, D.sl (kK m) c, dl s sn]))] 1 trivial ?_
 rcases kb3 (gO k r rn m s sn) with hx1 | hx1
 ·refine kI [.no, .call [] (bV true) [] 0 [] none, .no, .no] (Fun 92 [.agg [iC k, .d (dl r rn), .d (D.sl (kK m) c), .d (dl s sn)]] (kF []) 0 (bV true) (kF []) 0) [(2, bV false)] [] 1 (by have h0 := (lQ k r rn m c s sn zo zo zo zo zo zo (qJ : MsW m)); rw [hx1] at h0; exact h0) ?_
  refine AW.ret ?_
  exact EndP.of (.inr rfl) [] (P := ((nxB k r rn m s sn) = false)) zk (by first | exact v0q (by assumption) | exact v0r (by assumption))
 ·refine kI [.no, .call [] (bV false) [] 0 [] none, .no, .no] (Fun 92 [.agg [iC k, .d (dl r rn), .d (D.sl (kK m) c), .d (dl s sn)]] (kF []) 0 (bV false) (kF []) 0) [(2, bV true)] [] 1 (by have h0 := (lQ k r rn m c s sn zo zo zo zo zo zo (qJ : MsW m)); rw [hx1] at h0; exact h0) ?_
  refine AW.ret ?_
  exact EndP.of (.inr rfl) [] (P := ((nxB k r rn m s sn) = true)) zk (by first | exact v0q (by assumption) | exact v0r (by assumption))
@[reducible] def yU (x : List Bx) (i : Nat) : List D := [iD (kT x i), dl (qE x i) (k9 x i), D.sl (kK (kW x i)) (ka0 (kW x i)), dl (qD x i) (k8 x i)]
@[reducible] def oT (x : List Bx) (i : Nat) : E1 := .agg [iC (kT x i), .d (dl (qE x i) (k9 x i)), .d (D.sl (kK (kW x i)) (ka0 (kW x i))), .d (dl (qD x i) (k8 x i))]
@[reducible] def qB (x : List Bx) (n : Nat) : E1 := (.c (.d (D.sl (kU x) n)))
theorem u61 (bs : List Bx) (n : Nat) (hn : ka0 bs = n) (h1 : n ≤ 1000000) (hW : BsW bs) : Fun 124 [.c (.d (D.sl (kU bs) n)), .c (.fn 91 [])] (kF []) 0 (iV (wR bs n)) (kF []) 0 := by
 refine Fun.mk (n := 19) Tryz.func124 rfl rfl (ka4 rfl) ?_
 intro cx hcx
 refine kI [.no] True [(0, .e (qB bs n)), (1, .e (.c (.fn 91 [])))] [] 0 trivial ?_
 refine AW.seq ?_
 refine kS [.no, .no, .no] True [(0, .e (qB bs n)), (1, .e (.c (.fn 91 []))), (7, uV n), (8, iV 0)] trivial ?_
 refine AW.block ?_
 refine qF 0 hcx (fun (x : {x : Nat // match x with | k => (k ≤ n) ∧ (wR bs k = -1)}) => match x with | ⟨k, _⟩ => (⟨[(0, .e (qB bs n)), (1, .e (.c (.fn 91 []))), (7, uV n), (8, uV k)], [], 0⟩ : ES)) (fun x => match x with | ⟨k, _⟩ => n - k) ⟨(0 : Nat), ⟨fG, rfl⟩⟩ [] (P := (kM (kU bs)) ∧ (kH n) ∧ (kP (n : Int)) ∧ (kP 0)) zk ⟨rfl, rfl, rfl, rfl⟩ ?_
 rintro ⟨k, hinv0⟩
 obtain ⟨hk, hi⟩ : (k ≤ n) ∧ (wR bs k = -1) := hinv0
 refine uG (l := [(0, .e (qB bs n)), (1, .e (.c (.fn 91 []))), (7, uV n), (8, uV k)]) (g := []) (nx := 0) rfl rfl rfl ?_
 by_cases hx1 : (((k : Nat) : Int) < ((n : Nat) : Int))
 ·refine kI [.b true] (((k : Int) < (n : Int))) [(0, .e (qB bs n)), (1, .e (.c (.fn 91 []))), (7, uV n), (8, uV k), (9, bV true)] [] 0 zo ?_
  refine AW.seq ?_
  refine vO ?_
  refine AW.seq ?_
  refine AW.block ?_
  refine kS [.no, .no] True [(0, .e (qB bs n)), (1, .e (.c (.fn 91 []))), (5, uV k), (7, uV n), (8, uV k)] trivial ?_
  rcases kb3 (nxB (kT bs k) (qE bs k) (k9 bs k) (kW bs k) (qD bs k) (k8 bs k)) with hx7 | hx7
  ·obtain ⟨hx8, hx9, hx10, hx11, hx12⟩ := BsW.at (qJ : BsW bs) (k)
   refine kI [.no, .no, .no, .n k, .ds (yU bs k), .call [] (bV true) [] 0 [] none] ((kP (k : Int)) ∧ (k < n) ∧ (ka5 4 (ka3 (k * 4) (kU bs)) = (yU bs k)) ∧ (((yU bs k) : List D).length = 4) ∧ (Fun 91 [(oT bs k)] (kF []) 0 (bV true) (kF []) 0)) [(0, .e (qB bs n)), (1, .e (.c (.fn 91 []))), (5, uV k), (7, uV n), (8, uV k), (16, bV true)] [] 0 ⟨rfl, zo, (vN gX), rfl, (by have h0 := (z9 (kT bs k) (qE bs k) (k9 bs k) (kW bs k) (ka0 (kW bs k)) (qD bs k) (k8 bs k) uX uX rfl uX uX uX (BsW.ms (qJ : BsW bs) _)); rw [hx7] at h0; exact h0)⟩ ?_
   refine zt ?_
   refine kS [.no, .no] True [(4, uV k)] trivial ?_
   refine AW.ret ?_
   exact EndP.of (.inr rfl) [] (P := (((wR bs n) : Int) = (k : Int))) zk (by first | rfl | exact u3x hi (by assumption) zo | (rw [show n = k by omega]; exact hi) | omega)
  ·obtain ⟨hx13, hx14, hx15, hx16, hx17⟩ := BsW.at (qJ : BsW bs) (k)
   refine kI [.no, .no, .no, .n k, .ds (yU bs k), .call [] (bV false) [] 0 [] none] ((kP (k : Int)) ∧ (k < n) ∧ (ka5 4 (ka3 (k * 4) (kU bs)) = (yU bs k)) ∧ (((yU bs k) : List D).length = 4) ∧ (Fun 91 [(oT bs k)] (kF []) 0 (bV false) (kF []) 0)) [(0, .e (qB bs n)), (1, .e (.c (.fn 91 []))), (5, uV k), (7, uV n), (8, uV k), (16, bV false)] [] 0 ⟨rfl, zo, (vN gX), rfl, (by have h0 := (z9 (kT bs k) (qE bs k) (k9 bs k) (kW bs k) (ka0 (kW bs k)) (qD bs k) (k8 bs k) uX uX rfl uX uX uX (BsW.ms (qJ : BsW bs) _)); rw [hx7] at h0; exact h0)⟩ ?_
   refine u9 ?_
   refine yK [.w, .no] (yF ((k : Int) + 1)) [(0, .e (qB bs n)), (1, .e (.c (.fn 91 []))), (7, uV n), (8, iV (↑k + 1))] ⟨by omega, by omega⟩ ?_
   exact Rd.of ⟨((k + 1) : Nat), ⟨fG, (u9i hi (by assumption))⟩⟩ [] (P := (kM (kU bs)) ∧ (kH n) ∧ (kP (n : Int)) ∧ (cU k)) zk ⟨rfl, rfl, rfl, rN⟩ (show n - (k + 1) < n - k from (by first | omega | (show _ < _; simp; omega)))
 ·refine kI [.b false] (¬ ((k : Int) < (n : Int))) [(0, .e (qB bs n)), (1, .e (.c (.fn 91 []))), (7, uV n), (8, uV k), (9, bV false)] [] 0 zo ?_
  refine AW.seq ?_
  refine zf ?_
  refine AW.exit ?_
  refine kI [.no] True [(4, iV (-1))] [] 0 trivial ?_
  refine AW.ret ?_
  exact EndP.of (.inr rfl) [] (P := (((wR bs n) : Int) = (-1))) zk (by first | rfl | exact u3x hi (by assumption) zo | (rw [show n = k by omega]; exact hi) | omega)
theorem u65 (bs : List Bx) (n : Nat) (hn : ka0 bs = n) (h1 : n ≤ 1000000) (hW : BsW bs) : Fun 84 [.c (.d (D.sl (kU bs) n)), .c (.fn 91 [])] (kF []) 0 (u1 (D.lit (.bool (naB bs n)))) (kF []) 0 := by
 refine Fun.mk (n := 9) Tryz.func84 rfl rfl (ka4 rfl) ?_
 intro cx hcx
 refine kI [.no] True [(0, .e (qB bs n)), (1, .e (.c (.fn 91 [])))] [] 0 trivial ?_
 by_cases hx1 : ((0 : Int) ≤ (wR bs n))
 ·refine kS [.no, .no, .call [] (iV (wR bs n)) [] 0 [] none, .b true, .no] ((_) ∧ (((0 : Int) ≤ (wR bs n)))) [(4, bV true)] ⟨(u61 bs n zo zo (qJ : BsW bs)), zo⟩ ?_
  refine AW.ret ?_
  exact EndP.of (.inr rfl) [] (P := ((naB bs n) = true)) zk (by first | exact decide_eq_true zo | exact decide_eq_false zo)
 ·refine kS [.no, .no, .call [] (iV (wR bs n)) [] 0 [] none, .b false, .no] ((_) ∧ (¬ ((0 : Int) ≤ (wR bs n)))) [(4, bV false)] ⟨(u61 bs n zo zo (qJ : BsW bs)), zo⟩ ?_
  refine AW.ret ?_
  exact EndP.of (.inr rfl) [] (P := ((naB bs n) = false)) zk (by first | exact decide_eq_true zo | exact decide_eq_false zo)
theorem v9 (bs : List Bx) (n : Nat) (hn : ka0 bs = n) (h1 : n ≤ 1000000) (hW : BsW bs) : Fun 60 [.c (.d (D.sl (kU bs) n))] (kF []) 0 (u1 (D.lit (.bool (c8 bs)))) (kF []) 0 := by
 refine Fun.mk (n := 11) Tryz.func60 rfl rfl (ka4 rfl) ?_
 intro cx hcx
 refine kI [.no] True [(0, .e (qB bs n))] [] 0 trivial ?_
 by_cases hx1 : (((n : Nat) : Int) ≤ 64)
 ·rcases kb3 (naB bs n) with hx2 | hx2
  ·refine kS [.no, .no, .b true, .no, .no, .call [] (bV true) [] 0 [] none, .no, .no, .no] ((((n : Int) ≤ 64)) ∧ (Fun 84 [.c (.d (D.sl (kU bs) n)), .c (.fn 91 [])] (kF []) 0 (bV true) (kF []) 0)) [(2, bV false)] ⟨zo, (by have h0 := (u65 bs n zo zo (qJ : BsW bs)); rw [hx2] at h0; exact h0)⟩ ?_
   refine AW.ret ?_
   exact EndP.of (.inr rfl) [] (P := ((c8 bs) = false)) zk (by first | exact u6c zo | exact u75 hn (by assumption) | exact u74 hn zo (by assumption))
  ·refine kS [.no, .no, .b true, .no, .no, .call [] (bV false) [] 0 [] none, .no, .no, .no] ((((n : Int) ≤ 64)) ∧ (Fun 84 [.c (.d (D.sl (kU bs) n)), .c (.fn 91 [])] (kF []) 0 (bV false) (kF []) 0)) [(2, bV true)] ⟨zo, (by have h0 := (u65 bs n zo zo (qJ : BsW bs)); rw [hx2] at h0; exact h0)⟩ ?_
   refine AW.ret ?_
   exact EndP.of (.inr rfl) [] (P := ((c8 bs) = true)) zk (by first | exact u6c zo | exact u75 hn (by assumption) | exact u74 hn zo (by assumption))
 ·refine kS [.no, .no, .b false, .no, .no, .no] (¬ ((n : Int) ≤ 64)) [(2, bV false)] zo ?_
  refine AW.ret ?_
  exact EndP.of (.inr rfl) [] (P := ((c8 bs) = false)) zk (by first | exact u6c zo | exact u75 hn (by assumption) | exact u74 hn zo (by assumption))
@[reducible] def y5 (x : List Bx) : E1 := (.c (.d (D.sl (kU x) (ka0 x))))
theorem jN (bs : List Bx) (n : Nat) (hn : ka0 bs = n) (h1 : n ≤ 1000000) (hW : BsW bs) : Fun 77 [.c (.d (D.sl (kU bs) n))] (kF []) 0 (.e (y5 (kL bs))) (kF []) 0 := by
 refine Fun.mk (n := 7) Tryz.func77 rfl rfl (ka4 rfl) ?_
 intro cx hcx
 refine kI [.no] True [(0, .e (qB bs n))] [] 0 trivial ?_
 refine AW.seq ?_
 rcases kb3 (c8 bs) with hx1 | hx1
 ·refine kS [.no, .call [] (bV true) [] 0 [] none, .no] (Fun 60 [.c (.d (D.sl (kU bs) n))] (kF []) 0 (bV true) (kF []) 0) [(0, .e (qB bs n)), (5, bV false)] (by have h0 := (v9 bs n zo zo (qJ : BsW bs)); rw [hx1] at h0; exact h0) ?_
  refine u9 ?_
  refine kS [.no, .no] True [(2, .e (qB bs n))] trivial ?_
  have hz1 : kL bs = bs := u02 hx1
  have hz2 : ka0 (kL bs) = n := by rw [hz1]; first | rfl | omega
  refine AW.ret ?_
  exact EndP.of (.inr rfl) [] (P := (((kU (kL bs)) : List D) = (kU bs)) ∧ (((ka0 (kL bs)) : Nat) = n)) zk ⟨(by first | (rw [hz1]; done) | (rw [hz1]; rfl)), (by first | omega | rfl | assumption | (simp; done) | (simp; omega))⟩
 ·refine kS [.no, .call [] (bV false) [] 0 [] none, .no] (Fun 60 [.c (.d (D.sl (kU bs) n))] (kF []) 0 (bV false) (kF []) 0) [(0, .e (qB bs n)), (5, bV true)] (by have h0 := (v9 bs n zo zo (qJ : BsW bs)); rw [hx1] at h0; exact h0) ?_
  refine zt ?_
  refine kS [.no] True [(2, nV)] trivial ?_
  have hz1 : kL bs = [] := u5e hx1
  have hz2 : ka0 (kL bs) = 0 := by rw [hz1]; first | rfl | omega
  refine vK (l' := [(2, qK ([] : List D) 0)]) (g' := []) (NlS.cons rfl (.e (.c .nil)) NlS.nil) NlG.nil ?_
  refine AW.ret ?_
  exact EndP.of (.inr rfl) [] (P := (((kU (kL bs)) : List D) = ([] : List D)) ∧ (((ka0 (kL bs)) : Nat) = 0)) zk ⟨(by first | (rw [hz1]; done) | (rw [hz1]; rfl)), (by first | omega | rfl | assumption | (simp; done) | (simp; omega))⟩
theorem k08 {p : Prop} (h : p := by first | rfl | assumption | exact decide_eq_true (by omega) | exact decide_eq_false (by omega) | (simp; omega)) : p := h
theorem jL (q : Int)  : Fun 111 [iE q] (kF []) 0 (u1 (D.lit (.bool (decide (1 ≤ q ∧ q ≤ 7))))) (kF []) 0 := by
 refine Fun.mk (n := 9) Tryz.func111 rfl rfl (ka4 rfl) ?_
 intro cx hcx
 refine kI [.no] True [(0, iV q)] [] 0 trivial ?_
 by_cases hx1 : ((1 : Int) ≤ q)
 ·by_cases hx2 : (q ≤ 7)
  ·refine kS [.no, .b true, .no, .no, .b true, .no, .no] ((((1 : Int) ≤ q)) ∧ ((q ≤ 7))) [(2, bV true)] ⟨zo, zo⟩ ?_
   refine AW.ret ?_
   exact EndP.of (.inr rfl) [] (P := ((decide (1 ≤ q ∧ q ≤ 7)) = true)) zk k08
  ·refine kS [.no, .b true, .no, .no, .b false, .no, .no] ((((1 : Int) ≤ q)) ∧ (¬ (q ≤ 7))) [(2, bV false)] ⟨zo, zo⟩ ?_
   refine AW.ret ?_
   exact EndP.of (.inr rfl) [] (P := ((decide (1 ≤ q ∧ q ≤ 7)) = false)) zk k08
 ·refine kS [.no, .b false, .no, .no, .no] (¬ ((1 : Int) ≤ q)) [(2, bV false)] zo ?_
  refine AW.ret ?_
  exact EndP.of (.inr rfl) [] (P := ((decide (1 ≤ q ∧ q ≤ 7)) = false)) zk k08
theorem gY {p : Prop} (h : p := by first | exact v2c (by first | assumption | exact v4c (by omega) (by omega)) (by assumption) (by assumption) (by assumption) | exact v4u (by assumption) | exact v4v (by assumption) | exact v4t (by assumption) | exact v2d (v4e (by omega)) | exact v2d (v4d (by omega))) : p := h
theorem v33 (k : Int) (r : List Int) (rn : Nat) (m : List (List Int)) (c : Nat) (s : List Int) (sn : Nat) (q : Nat) (cr : Int) (cm : List Int) (cn : Nat) (cz : Int) (hr : ka0 r = rn * 2) (hs : ka0 s = sn * 2) (hc : ka0 m = c) (h1 : rn ≤ 1000000) (h2 : sn ≤ 1000000) (h3 : c ≤ 1000000) (hW : MsW m) (hm : ka0 cm = cn) (h4 : cn ≤ 1000000) (hq : q ≤ 64) : Fun 86 [.agg [iC k, .d (D.sl (dI .i64 r) rn), .d (D.sl (kK m) c), .d (D.sl (dI .i64 s) sn)], .agg [iC ((q : Nat) : Int), iC cr, .d (D.sl (dI .i64 cm) cn), iC cz]] (kF []) 0 (u1 (D.lit (.bool (gF k r rn m s sn (q : Int) cr cm cz)))) (kF []) 0 := by
 refine Fun.mk (n := 42) Tryz.func86 rfl rfl (ka4 rfl) ?_
 intro cx hcx
 refine kI [.no, .no, .no] True [(2, rV 0 0), (3, rV 1 0)] [(0, some (63, .ds [iD k, dl r rn, D.sl (kK m) c, dl s sn])), (1, some (42, .ds [uD q, iD cr, dl cm cn, iD cz]))] 2 trivial ?_
 rcases kb3 (decide (1 ≤ ((q : Nat) : Int) ∧ ((q : Nat) : Int) ≤ 7)) with hx1 | hx1
 ·have hx2 : (((1 : Int) ≤ ((q : Nat) : Int)) ∧ (((q : Nat) : Int) ≤ 7)) := of_decide_eq_true hx1
  by_cases hx3 : ((e7 (k / (((2 ^ q) : Nat) : Int))) = 1)
  ·rcases kb3 (bM (kB r rn) cr) with hx4 | hx4
   ·rcases kb3 (iJ m cm) with hx5 | hx5
    ·rcases kb3 (bM (kB s sn) cz) with hx6 | hx6
     ·refine kI (.no :: .no :: .no :: .call [] (bV true) [] 0 [] none :: qN 6 (.n q :: .i (e7 (k / (((2 ^ q) : Nat) : Int))) :: .b true :: qN 7 (.call [] (bV true) [] 0 [] none :: qN 7 (.call [] (bV true) [] 0 [] none :: qN 6 [.call [] (bV true) [] 0 [] none, .no, .no])))) ((Fun 111 [uE q] (kF []) 0 (bV true) (kF []) 0) ∧ (kP (q : Int)) ∧ (q ≤ 64) ∧ (qM .and .i64 (k / (((2 ^ q) : Nat) : Int)) 1 = (e7 (k / (((2 ^ q) : Nat) : Int)))) ∧ (((e7 (k / (((2 ^ q) : Nat) : Int))) = 1)) ∧ (Fun 125 [.agg [.d (dl r rn)], iE cr] (kF []) 0 (bV true) (kF []) 0) ∧ (Fun 126 [.c (.d (D.sl (kK m) c)), .c (.d (dl cm cn))] (kF []) 0 (bV true) (kF []) 0) ∧ (Fun 125 [.agg [.d (dl s sn)], iE cz] (kF []) 0 (bV true) (kF []) 0)) [(4, bV true)] [] 2 ⟨(by have h0 := (jL (q : Int)); rw [hx1] at h0; exact h0), rfl, zo, rfl, zo, (by have h0 := (rD r rn cr zo zo); rw [hx4] at h0; exact h0), (by have h0 := (jM m c cm cn zo zo zo zo (qJ : MsW m)); rw [hx5] at h0; exact h0), (by have h0 := (rD s sn cz zo zo); rw [hx6] at h0; exact h0)⟩ ?_
      refine AW.ret ?_
      exact EndP.of (.inr rfl) [] (P := ((gF k r rn m s sn (q : Int) cr cm cz) = true)) zk gY
     ·refine kI (.no :: .no :: .no :: .call [] (bV true) [] 0 [] none :: qN 6 (.n q :: .i (e7 (k / (((2 ^ q) : Nat) : Int))) :: .b true :: qN 7 (.call [] (bV true) [] 0 [] none :: qN 7 (.call [] (bV true) [] 0 [] none :: qN 6 [.call [] (bV false) [] 0 [] none, .no, .no])))) ((Fun 111 [uE q] (kF []) 0 (bV true) (kF []) 0) ∧ (kP (q : Int)) ∧ (q ≤ 64) ∧ (qM .and .i64 (k / (((2 ^ q) : Nat) : Int)) 1 = (e7 (k / (((2 ^ q) : Nat) : Int)))) ∧ (((e7 (k / (((2 ^ q) : Nat) : Int))) = 1)) ∧ (Fun 125 [.agg [.d (dl r rn)], iE cr] (kF []) 0 (bV true) (kF []) 0) ∧ (Fun 126 [.c (.d (D.sl (kK m) c)), .c (.d (dl cm cn))] (kF []) 0 (bV true) (kF []) 0) ∧ (Fun 125 [.agg [.d (dl s sn)], iE cz] (kF []) 0 (bV false) (kF []) 0)) [(4, bV false)] [] 2 ⟨(by have h0 := (jL (q : Int)); rw [hx1] at h0; exact h0), rfl, zo, rfl, zo, (by have h0 := (rD r rn cr zo zo); rw [hx4] at h0; exact h0), (by have h0 := (jM m c cm cn zo zo zo zo (qJ : MsW m)); rw [hx5] at h0; exact h0), (by have h0 := (rD s sn cz zo zo); rw [hx6] at h0; exact h0)⟩ ?_
      refine AW.ret ?_
      exact EndP.of (.inr rfl) [] (P := ((gF k r rn m s sn (q : Int) cr cm cz) = false)) zk gY
    ·refine kI (.no :: .no :: .no :: .call [] (bV true) [] 0 [] none :: qN 6 (.n q :: .i (e7 (k / (((2 ^ q) : Nat) : Int))) :: .b true :: qN 7 (.call [] (bV true) [] 0 [] none :: qN 7 (.call [] (bV false) [] 0 [] none :: qN 4 [])))) ((Fun 111 [uE q] (kF []) 0 (bV true) (kF []) 0) ∧ (kP (q : Int)) ∧ (q ≤ 64) ∧ (qM .and .i64 (k / (((2 ^ q) : Nat) : Int)) 1 = (e7 (k / (((2 ^ q) : Nat) : Int)))) ∧ (((e7 (k / (((2 ^ q) : Nat) : Int))) = 1)) ∧ (Fun 125 [.agg [.d (dl r rn)], iE cr] (kF []) 0 (bV true) (kF []) 0) ∧ (Fun 126 [.c (.d (D.sl (kK m) c)), .c (.d (dl cm cn))] (kF []) 0 (bV false) (kF []) 0)) [(4, bV false)] [] 2 ⟨(by have h0 := (jL (q : Int)); rw [hx1] at h0; exact h0), rfl, zo, rfl, zo, (by have h0 := (rD r rn cr zo zo); rw [hx4] at h0; exact h0), (by have h0 := (jM m c cm cn zo zo zo zo (qJ : MsW m)); rw [hx5] at h0; exact h0)⟩ ?_
     refine AW.ret ?_
     exact EndP.of (.inr rfl) [] (P := ((gF k r rn m s sn (q : Int) cr cm cz) = false)) zk gY
   ·refine kI (.no :: .no :: .no :: .call [] (bV true) [] 0 [] none :: qN 6 (.n q :: .i (e7 (k / (((2 ^ q) : Nat) : Int))) :: .b true :: qN 7 (.call [] (bV false) [] 0 [] none :: qN 6 []))) ((Fun 111 [uE q] (kF []) 0 (bV true) (kF []) 0) ∧ (kP (q : Int)) ∧ (q ≤ 64) ∧ (qM .and .i64 (k / (((2 ^ q) : Nat) : Int)) 1 = (e7 (k / (((2 ^ q) : Nat) : Int)))) ∧ (((e7 (k / (((2 ^ q) : Nat) : Int))) = 1)) ∧ (Fun 125 [.agg [.d (dl r rn)], iE cr] (kF []) 0 (bV false) (kF []) 0)) [(4, bV false)] [] 2 ⟨(by have h0 := (jL (q : Int)); rw [hx1] at h0; exact h0), rfl, zo, rfl, zo, (by have h0 := (rD r rn cr zo zo); rw [hx4] at h0; exact h0)⟩ ?_
    refine AW.ret ?_
    exact EndP.of (.inr rfl) [] (P := ((gF k r rn m s sn (q : Int) cr cm cz) = false)) zk gY
  ·refine kI (.no :: .no :: .no :: .call [] (bV true) [] 0 [] none :: qN 6 (.n q :: .i (e7 (k / (((2 ^ q) : Nat) : Int))) :: .b false :: qN 8 [])) ((Fun 111 [uE q] (kF []) 0 (bV true) (kF []) 0) ∧ (kP (q : Int)) ∧ (q ≤ 64) ∧ (qM .and .i64 (k / (((2 ^ q) : Nat) : Int)) 1 = (e7 (k / (((2 ^ q) : Nat) : Int)))) ∧ (¬ ((e7 (k / (((2 ^ q) : Nat) : Int))) = 1))) [(4, bV false)] [] 2 ⟨(by have h0 := (jL (q : Int)); rw [hx1] at h0; exact h0), rfl, zo, rfl, zo⟩ ?_
   refine AW.ret ?_
   exact EndP.of (.inr rfl) [] (P := ((gF k r rn m s sn (q : Int) cr cm cz) = false)) zk gY
 ·have hx7 : ¬ (((1 : Int) ≤ ((q : Nat) : Int)) ∧ (((q : Nat) : Int) ≤ 7)) := of_decide_eq_false hx1
  refine kI (.no :: .no :: .no :: .call [] (bV false) [] 0 [] none :: qN 9 []) (Fun 111 [uE q] (kF []) 0 (bV false) (kF []) 0) [(4, bV false)] [] 2 (by have h0 := (jL (q : Int)); rw [hx1] at h0; exact h0) ?_
  refine AW.ret ?_
  exact EndP.of (.inr rfl) [] (P := ((gF k r rn m s sn (q : Int) cr cm cz) = false)) zk gY
theorem v32 (k : Int) (r : List Int) (rn : Nat) (m : List (List Int)) (c : Nat) (s : List Int) (sn : Nat) (ck cr : Int) (cm : List Int) (cn : Nat) (cz : Int) (hr : ka0 r = rn * 2) (hs : ka0 s = sn * 2) (hc : ka0 m = c) (h1 : rn ≤ 1000000) (h2 : sn ≤ 1000000) (h3 : c ≤ 1000000) (hW : MsW m) (hm : ka0 cm = cn) (h4 : cn ≤ 1000000) (hq : ¬ (1 ≤ ck ∧ ck ≤ 7)) : Fun 86 [.agg [iC k, .d (D.sl (dI .i64 r) rn), .d (D.sl (kK m) c), .d (D.sl (dI .i64 s) sn)], .agg [iC ck, iC cr, .d (D.sl (dI .i64 cm) cn), iC cz]] (kF []) 0 (u1 (D.lit (.bool (gF k r rn m s sn ck cr cm cz)))) (kF []) 0 := by
 refine Fun.mk (n := 42) Tryz.func86 rfl rfl (ka4 rfl) ?_
 intro cx hcx
 refine kI [.no, .no, .no] True [(2, rV 0 0), (3, rV 1 0)] [(0, some (63, .ds [iD k, dl r rn, D.sl (kK m) c, dl s sn])), (1, some (42, .ds [iD ck, iD cr, dl cm cn, iD cz]))] 2 trivial ?_
 refine kI (.no :: .no :: .no :: .call [] (bV false) [] 0 [] none :: qN 9 []) _ [(4, bV false)] [] 2 (Fun.y (jL ck) (y' := bV false) (congrArg (fun b => LV (.bool b)) (decide_eq_false zo))) ?_
 refine AW.ret ?_
 exact EndP.of (.inr rfl) [] (P := ((gF k r rn m s sn ck cr cm cz) = false)) zk gY
theorem v50 (k : Int) (r : List Int) (rn : Nat) (m : List (List Int)) (c : Nat) (s : List Int) (sn : Nat) (ck cr : Int) (cm : List Int) (cn : Nat) (cz : Int) (hr : ka0 r = rn * 2) (hs : ka0 s = sn * 2) (hc : ka0 m = c) (h1 : rn ≤ 1000000) (h2 : sn ≤ 1000000) (h3 : c ≤ 1000000) (hW : MsW m) (hm : ka0 cm = cn) (h4 : cn ≤ 1000000) : Fun 86 [.agg [iC k, .d (D.sl (dI .i64 r) rn), .d (D.sl (kK m) c), .d (D.sl (dI .i64 s) sn)], .agg [iC ck, iC cr, .d (D.sl (dI .i64 cm) cn), iC cz]] (kF []) 0 (u1 (D.lit (.bool (gF k r rn m s sn ck cr cm cz)))) (kF []) 0 := by
 by_cases h9 : 1 ≤ ck ∧ ck ≤ 7
 ·obtain ⟨q, rfl⟩ : ∃ q : Nat, ck = (q : Int) := ⟨Int.toNat ck, by omega⟩
  exact v33 k r rn m c s sn q cr cm cn cz hr hs hc h1 h2 h3 hW hm h4 (by omega)
 ·exact v32 k r rn m c s sn ck cr cm cn cz hr hs hc h1 h2 h3 hW hm h4 h9
theorem k3u (k : Int) (r : List Int) (rn : Nat) (m : List (List Int)) (c : Nat) (s : List Int) (sn : Nat) (ck cr : Int) (cm : List Int) (cn : Nat) (cz : Int) (hr : ka0 r = rn * 2) (hs : ka0 s = sn * 2) (hc : ka0 m = c) (h1 : rn ≤ 1000000) (h2 : sn ≤ 1000000) (h3 : c ≤ 1000000) (hW : MsW m) (hm : ka0 cm = cn) (h4 : cn ≤ 1000000) : Fun 85 [.agg [iC k, .d (D.sl (dI .i64 r) rn), .d (D.sl (kK m) c), .d (D.sl (dI .i64 s) sn)], .c (.ptr 0 0)] (kF [(0, some (42, .ds [iD ck, iD cr, D.sl (dI .i64 cm) cn, iD cz]))]) 1 (u1 (D.lit (.bool (gF k r rn m s sn ck cr cm cz)))) (kF [(0, some (42, .ds [iD ck, iD cr, D.sl (dI .i64 cm) cn, iD cz]))]) 1 := by
 refine Fun.mk (n := 7) Tryz.func85 rfl rfl (ka4 rfl) ?_
 intro cx hcx
 refine kI [.no, .no] True [(1, rV 0 0), (2, rV 1 0)] [(0, some (42, .ds [iD ck, iD cr, dl cm cn, iD cz])), (1, some (63, .ds [iD k, dl r rn, D.sl (kK m) c, dl s sn]))] 2 trivial ?_
 refine kI [.no, .no, .call [] (u1 (D.lit (.bool (gF k r rn m s sn ck cr cm cz)))) [] 0 [] none, .no] _ [(3, u1 (D.lit (.bool (gF k r rn m s sn ck cr cm cz))))] [(0, some (42, .ds [iD ck, iD cr, dl cm cn, iD cz]))] 2 (v50 k r rn m c s sn ck cr cm cn cz zo zo zo zo zo zo (qJ : MsW m) zo zo) ?_
 refine AW.ret ?_
 exact EndP.of (.inr rfl) [] (P := ((gF k r rn m s sn ck cr cm cz) = (gF k r rn m s sn ck cr cm cz)) ∧ (kM [iD ck, iD cr, dl cm cn, iD cz])) zk ⟨rfl, rfl⟩
abbrev vL (ck : Int) (cr : Int) (cm : List Int) (cn : Nat) (cz : Int) : BC := .ds [iD ck, iD cr, D.sl (dI .i64 cm) cn, iD cz]
theorem u63 (bs : List Bx) (n : Nat) (ck cr : Int) (cm : List Int) (cn : Nat) (cz : Int) (hn : ka0 bs = n) (h1 : n ≤ 1000000) (hW : BsW bs) (hm : ka0 cm = cn) (h4 : cn ≤ 1000000) : Fun 124 [.c (.d (D.sl (kU bs) n)), .c (.fn 85 [(0, 0)])] (kF [(0, some (42, .ds [iD ck, iD cr, D.sl (dI .i64 cm) cn, iD cz]))]) 1 (iV (biK bs ck cr cm cz n)) (kF [(0, some (42, .ds [iD ck, iD cr, D.sl (dI .i64 cm) cn, iD cz]))]) 1 := by
 refine Fun.mk (n := 19) Tryz.func124 rfl rfl (ka4 rfl) ?_
 intro cx hcx
 refine kI [.no] True [(0, .e (qB bs n)), (1, .e (.c (.fn 85 [(0, 0)])))] [(0, some (42, (vL ck cr cm cn cz)))] 1 trivial ?_
 refine AW.seq ?_
 refine kS [.no, .no, .no] True [(0, .e (qB bs n)), (1, .e (.c (.fn 85 [(0, 0)]))), (7, uV n), (8, iV 0)] trivial ?_
 refine AW.block ?_
 refine qF 1 hcx (fun (x : {x : Nat // match x with | k => (k ≤ n) ∧ (biK bs ck cr cm cz k = -1)}) => match x with | ⟨k, _⟩ => (⟨[(0, .e (qB bs n)), (1, .e (.c (.fn 85 [(0, 0)]))), (7, uV n), (8, uV k)], [(0, some (42, (vL ck cr cm cn cz)))], 1⟩ : ES)) (fun x => match x with | ⟨k, _⟩ => n - k) ⟨(0 : Nat), ⟨fG, rfl⟩⟩ [] (P := (kM (kU bs)) ∧ (kH n) ∧ (kP (n : Int)) ∧ (kP 0) ∧ (kM [iD ck, iD cr, dl cm cn, iD cz])) zk ⟨rfl, rfl, rfl, rfl, rfl⟩ ?_
 rintro ⟨k, hinv0⟩
 obtain ⟨hk, hi⟩ : (k ≤ n) ∧ (biK bs ck cr cm cz k = -1) := hinv0
 refine uG (l := [(0, .e (qB bs n)), (1, .e (.c (.fn 85 [(0, 0)]))), (7, uV n), (8, uV k)]) (g := [(0, some (42, (vL ck cr cm cn cz)))]) (nx := 1) rfl rfl rfl ?_
 by_cases hx1 : (((k : Nat) : Int) < ((n : Nat) : Int))
 ·refine kI [.b true] (((k : Int) < (n : Int))) [(0, .e (qB bs n)), (1, .e (.c (.fn 85 [(0, 0)]))), (7, uV n), (8, uV k), (9, bV true)] [(0, some (42, (vL ck cr cm cn cz)))] 1 zo ?_
  refine AW.seq ?_
  refine vO ?_
  refine AW.seq ?_
  refine AW.block ?_
  refine kS [.no, .no] True [(0, .e (qB bs n)), (1, .e (.c (.fn 85 [(0, 0)]))), (5, uV k), (7, uV n), (8, uV k)] trivial ?_
  rcases kb3 (gF (kT bs k) (qE bs k) (k9 bs k) (kW bs k) (qD bs k) (k8 bs k) ck cr cm cz) with hx7 | hx7
  ·obtain ⟨hx8, hx9, hx10, hx11, hx12⟩ := BsW.at (qJ : BsW bs) (k)
   refine kI [.no, .no, .no, .n k, .ds (yU bs k), .call [0] (bV true) [(0, some (42, (vL ck cr cm cn cz)))] 1 [] none] ((kP (k : Int)) ∧ (k < n) ∧ (ka5 4 (ka3 (k * 4) (kU bs)) = (yU bs k)) ∧ (((yU bs k) : List D).length = 4) ∧ (Fun 85 [(oT bs k), .c (.ptr 0 0)] (kF [(0, some (42, (vL ck cr cm cn cz)))]) 1 (bV true) (kF [(0, some (42, (vL ck cr cm cn cz)))]) 1)) [(0, .e (qB bs n)), (1, .e (.c (.fn 85 [(0, 0)]))), (5, uV k), (7, uV n), (8, uV k), (16, bV true)] [(0, some (42, (vL ck cr cm cn cz)))] 1 ⟨rfl, zo, (vN gX), rfl, (by have h0 := (k3u (kT bs k) (qE bs k) (k9 bs k) (kW bs k) (ka0 (kW bs k)) (qD bs k) (k8 bs k) ck cr cm cn cz uX uX rfl uX uX uX (BsW.ms (qJ : BsW bs) _) zo zo); rw [hx7] at h0; exact h0)⟩ ?_
   refine zt ?_
   refine kS [.no, .no] True [(4, uV k)] trivial ?_
   refine AW.ret ?_
   exact EndP.of (.inr rfl) [] (P := (((biK bs ck cr cm cz n) : Int) = (k : Int)) ∧ (kM [iD ck, iD cr, dl cm cn, iD cz])) zk ⟨(by first | rfl | exact u5h hi (by assumption) zo | (rw [show n = k by omega]; exact hi) | omega), rfl⟩
  ·obtain ⟨hx13, hx14, hx15, hx16, hx17⟩ := BsW.at (qJ : BsW bs) (k)
   refine kI [.no, .no, .no, .n k, .ds (yU bs k), .call [0] (bV false) [(0, some (42, (vL ck cr cm cn cz)))] 1 [] none] ((kP (k : Int)) ∧ (k < n) ∧ (ka5 4 (ka3 (k * 4) (kU bs)) = (yU bs k)) ∧ (((yU bs k) : List D).length = 4) ∧ (Fun 85 [(oT bs k), .c (.ptr 0 0)] (kF [(0, some (42, (vL ck cr cm cn cz)))]) 1 (bV false) (kF [(0, some (42, (vL ck cr cm cn cz)))]) 1)) [(0, .e (qB bs n)), (1, .e (.c (.fn 85 [(0, 0)]))), (5, uV k), (7, uV n), (8, uV k), (16, bV false)] [(0, some (42, (vL ck cr cm cn cz)))] 1 ⟨rfl, zo, (vN gX), rfl, (by have h0 := (k3u (kT bs k) (qE bs k) (k9 bs k) (kW bs k) (ka0 (kW bs k)) (qD bs k) (k8 bs k) ck cr cm cn cz uX uX rfl uX uX uX (BsW.ms (qJ : BsW bs) _) zo zo); rw [hx7] at h0; exact h0)⟩ ?_
   refine u9 ?_
   refine yK [.w, .no] (yF ((k : Int) + 1)) [(0, .e (qB bs n)), (1, .e (.c (.fn 85 [(0, 0)]))), (7, uV n), (8, iV (↑k + 1))] ⟨by omega, by omega⟩ ?_
   exact Rd.of ⟨((k + 1) : Nat), ⟨fG, (v2e hi (by assumption))⟩⟩ [] (P := (kM (kU bs)) ∧ (kH n) ∧ (kP (n : Int)) ∧ (cU k) ∧ (kM [iD ck, iD cr, dl cm cn, iD cz])) zk ⟨rfl, rfl, rfl, rN, rfl⟩ (show n - (k + 1) < n - k from (by first | omega | (show _ < _; simp; omega)))
 ·refine kI [.b false] (¬ ((k : Int) < (n : Int))) [(0, .e (qB bs n)), (1, .e (.c (.fn 85 [(0, 0)]))), (7, uV n), (8, uV k), (9, bV false)] [(0, some (42, (vL ck cr cm cn cz)))] 1 zo ?_
  refine AW.seq ?_
  refine zf ?_
  refine AW.exit ?_
  refine kI [.no] True [(4, iV (-1))] [(0, some (42, (vL ck cr cm cn cz)))] 1 trivial ?_
  refine AW.ret ?_
  exact EndP.of (.inr rfl) [] (P := (((biK bs ck cr cm cz n) : Int) = (-1)) ∧ (kM [iD ck, iD cr, dl cm cn, iD cz])) zk ⟨(by first | rfl | exact u5h hi (by assumption) zo | (rw [show n = k by omega]; exact hi) | omega), rfl⟩
theorem v31 (bs : List Bx) (n : Nat) (ck cr : Int) (cm : List Int) (cn : Nat) (cz : Int) (hn : ka0 bs = n) (h1 : n ≤ 1000000) (hW : BsW bs) (hm : ka0 cm = cn) (h4 : cn ≤ 1000000) : Fun 84 [.c (.d (D.sl (kU bs) n)), .c (.fn 85 [(0, 0)])] (kF [(0, some (42, .ds [iD ck, iD cr, D.sl (dI .i64 cm) cn, iD cz]))]) 1 (u1 (D.lit (.bool (haB bs ck cr cm cz)))) (kF [(0, some (42, .ds [iD ck, iD cr, D.sl (dI .i64 cm) cn, iD cz]))]) 1 := by
 refine Fun.mk (n := 9) Tryz.func84 rfl rfl (ka4 rfl) ?_
 intro cx hcx
 refine kI [.no] True [(0, .e (qB bs n)), (1, .e (.c (.fn 85 [(0, 0)])))] [(0, some (42, .ds [iD ck, iD cr, dl cm cn, iD cz]))] 1 trivial ?_
 by_cases hx1 : ((0 : Int) ≤ (biK bs ck cr cm cz n))
 ·refine kS [.no, .no, .call [0] (iV (biK bs ck cr cm cz n)) [(0, some (42, .ds [iD ck, iD cr, dl cm cn, iD cz]))] 1 [] none, .b true, .no] ((_) ∧ (((0 : Int) ≤ (biK bs ck cr cm cz n)))) [(4, bV true)] ⟨(u63 bs n ck cr cm cn cz zo zo (qJ : BsW bs) zo zo), zo⟩ ?_
  refine AW.ret ?_
  exact EndP.of (.inr rfl) [] (P := ((haB bs ck cr cm cz) = true) ∧ (kM [iD ck, iD cr, dl cm cn, iD cz])) zk ⟨(by first | exact v1f hn zo | exact v1g hn zo), rfl⟩
 ·refine kS [.no, .no, .call [0] (iV (biK bs ck cr cm cz n)) [(0, some (42, .ds [iD ck, iD cr, dl cm cn, iD cz]))] 1 [] none, .b false, .no] ((_) ∧ (¬ ((0 : Int) ≤ (biK bs ck cr cm cz n)))) [(4, bV false)] ⟨(u63 bs n ck cr cm cn cz zo zo (qJ : BsW bs) zo zo), zo⟩ ?_
  refine AW.ret ?_
  exact EndP.of (.inr rfl) [] (P := ((haB bs ck cr cm cz) = false) ∧ (kM [iD ck, iD cr, dl cm cn, iD cz])) zk ⟨(by first | exact v1f hn zo | exact v1g hn zo), rfl⟩
theorem u66 (bs : List Bx) (n : Nat) (ck cr : Int) (cm : List Int) (cn : Nat) (cz : Int) (hn : ka0 bs = n) (h1 : n ≤ 1000000) (hW : BsW bs) (hm : ka0 cm = cn) (h4 : cn ≤ 1000000) : Fun 53 [.c (.d (D.sl (kU bs) n)), .agg [iC ck, iC cr, .d (D.sl (dI .i64 cm) cn), iC cz]] (kF []) 0 (u1 (D.lit (.bool (haB (kL bs) ck cr cm cz)))) (kF []) 0 := by
 refine Fun.mk (n := 9) Tryz.func53 rfl rfl (ka4 rfl) ?_
 intro cx hcx
 refine kI [.no, .no] True [(0, .e (qB bs n)), (3, rV 0 0)] [(0, some (42, .ds [iD ck, iD cr, dl cm cn, iD cz]))] 1 trivial ?_
 have hx1 : ((ka0 (kL bs)) ≤ n) := (by have h9 := lM bs; omega)
 refine kI [.no, .call [] (.e (y5 (kL bs))) [] 0 [] none, .no, .call [0] (u1 (D.lit (.bool (haB (kL bs) ck cr cm cz)))) [(0, some (42, .ds [iD ck, iD cr, dl cm cn, iD cz]))] 1 [] none, .no] ((_) ∧ (_)) [(4, u1 (D.lit (.bool (haB (kL bs) ck cr cm cz))))] [] 1 ⟨(jN bs n zo zo (qJ : BsW bs)), (v31 (kL bs) (ka0 (kL bs)) ck cr cm cn cz rfl uX (eC (qJ : BsW bs)) zo zo)⟩ ?_
 refine AW.ret ?_
 exact EndP.of (.inr rfl) [] (P := ((haB (kL bs) ck cr cm cz) = (haB (kL bs) ck cr cm cz))) zk rfl
end Go.Proofs.YtbicifcgghmhaaaGreat
