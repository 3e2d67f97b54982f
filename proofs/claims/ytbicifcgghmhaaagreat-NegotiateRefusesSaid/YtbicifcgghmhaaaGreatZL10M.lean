/- Boxes of the code. No statement is proved here. -/
import Derived.Test.YtbicifcgghmhaaaGreatZL10D
namespace Go.Proofs.YtbicifcgghmhaaaGreat
open Go.ChangeShapes Go.WideShapes Go.ChangeAt Go.RowKit
open Bool renaming and_false → kd0, eq_false_or_eq_true → kb3, false_and → kh6
open List renaming drop → ka3, getD → ka1, length → ka0, length_append → ka6, length_cons → ka9, length_drop → kb2, length_nil → kb1, length_take → kb0, take → ka5
open Nat renaming le_of_ble_eq_true → ka4, lt_succ_self → kk4, not_lt_zero → ke5
set_option linter.unusedVariables false
set_option linter.unusedSimpArgs false
/-! chapter 10: the code's lists of boxes -/
set_option maxHeartbeats 4000000
set_option maxRecDepth 100000
def jD (p : Nat → Bool) : Nat → Int
 | 0 => -1
 | k + 1 => if 0 ≤ jD p k then jD p k else if p k = true then (k : Int) else -1
theorem cF {p : Nat → Bool} {k : Nat} (h : jD p k = -1) (h2 : p k = false) : jD p (k + 1) = -1 := by
 show (if 0 ≤ jD p k then _ else _) = _
 rw [if_neg (by omega), if_neg (by rw [h2]; decide)]
theorem eX {p : Nat → Bool} {k : Nat} (h : jD p k = -1) (h2 : p k = true) : ∀ n, k < n → jD p n = (k : Int)
 | 0, h3 => absurd h3 (ke5 k)
 | n + 1, h3 => by
  show (if 0 ≤ jD p n then _ else _) = _
  by_cases e : k = n
  ·subst e; rw [if_neg (by omega), if_pos h2]
  ·have h4 := eX h h2 n (by omega)
   rw [if_pos (by omega), h4]
theorem jC (p : Nat → Bool) : ∀ n, (jD p n = -1 ∧ ∀ j, j < n → p j = false) ∨ ∃ k, k < n ∧ jD p n = (k : Int) ∧ p k = true
 | 0 => .inl ⟨rfl, fun j h => absurd h (ke5 j)⟩
 | n + 1 => by
  rcases jC p n with ⟨h1, h2⟩ | ⟨k, hk, h1, h2⟩
  ·cases e : p n with
   | false => exact .inl ⟨cF h1 e, fun j hj => (Nat.lt_succ_iff_lt_or_eq.1 hj).elim (h2 j) fun e9 => e9 ▸ e⟩
   | true => exact .inr ⟨n, kk4 n, eX h1 e _ (kk4 n), e⟩
  ·refine .inr ⟨k, by omega, ?_, h2⟩
   show (if 0 ≤ jD p n then _ else _) = _
   rw [if_pos (by omega)]; exact h1
theorem rA {p : Nat → Bool} {n : Nat} (h : 0 ≤ jD p n) : ∃ k, k < n ∧ p k = true := by
 rcases jC p n with ⟨h1, _⟩ | ⟨k, hk, _, h2⟩
 ·omega
 ·exact ⟨k, hk, h2⟩
theorem lI {p : Nat → Bool} {n : Nat} (h : ¬ 0 ≤ jD p n) : ∀ j, j < n → p j = false := by
 rcases jC p n with ⟨_, h2⟩ | ⟨k, hk, h1, _⟩
 ·exact h2
 ·omega
def hmK (ms : List (List Int)) (m : List Int) : Nat → Int := jD fun j => bN (ka1 ms j []) m
theorem u4c {ms : List (List Int)} {m : List Int} {c : Nat} (hc : ms.length = c) (h : 0 ≤ hmK ms m c) : iK ms m = true := by
 obtain ⟨k, hk, h1⟩ := rA h
 exact v41 (k := k) (by omega) h1
theorem u4e {ms : List (List Int)} {m : List Int} {c : Nat} (hc : ms.length = c) (h : ¬ 0 ≤ hmK ms m c) : iK ms m = false :=
 v42 fun j hj => lI h j (by omega)
def wT (bs : List Bx) : Nat → Int := jD fun j => !(vbE bs j)
theorem u97 {bs : List Bx} {n : Nat} (hn : bs.length = n) (h : 0 ≤ wT bs n) : dA bs = false := by
 obtain ⟨k, hk, h1⟩ := rA h
 exact v33 (k := k) (by omega) (by simpa using h1)
theorem u99 {bs : List Bx} {n : Nat} (hn : bs.length = n) (h2 : n ≤ 64) (h : ¬ 0 ≤ wT bs n) : dA bs = true :=
 u96 (by omega) fun j hj => by
  have h3 := lI h j (by omega)
  simpa using h3
def kjB (b q : Int) : Bool := decide (1 ≤ q ∧ q ≤ 7) && n6 b q.toNat
theorem v3y {b q : Int} (h : ¬ (1 ≤ q ∧ q ≤ 7)) : kjB b q = false := by unfold kjB; rw [decide_eq_false h]; rfl
theorem u6y {b : Int} {q : Nat} : kjB b (q : Int) = n6 b q := by
 unfold kjB
 rw [Int.toNat_natCast]
 by_cases h : 1 ≤ q ∧ q ≤ 7
 ·rw [decide_eq_true (by omega : 1 ≤ (q : Int) ∧ (q : Int) ≤ 7)]; rfl
 ·rw [decide_eq_false (by omega : ¬ (1 ≤ (q : Int) ∧ (q : Int) ≤ 7))]
  exact (decide_eq_false fun e => h ⟨e.1, e.2.1⟩).symm
def gF (k : Int) (r : List Int) (rn : Nat) (m : List (List Int)) (s : List Int) (sn : Nat) (ck cr : Int) (cm : List Int) (cz : Int) : Bool := kjB k ck && (fE (kC r rn) cr && (iK m cm && fE (kC s sn) cz))
def biE (bs : List Bx) (ck cr : Int) (cm : List Int) (cz : Int) (i : Nat) : Bool := gF (kU bs i) (qG bs i) (qA bs i) (kX bs i) (qF bs i) (k9 bs i) ck cr cm cz
def haB (bs : List Bx) (ck cr : Int) (cm : List Int) (cz : Int) : Bool := decide (∃ i, i < bs.length ∧ biE bs ck cr cm cz i = true)
def biK (bs : List Bx) (ck cr : Int) (cm : List Int) (cz : Int) : Nat → Int := jD (biE bs ck cr cm cz)
theorem v13 {bs : List Bx} {ck cr : Int} {cm : List Int} {cz : Int} {n : Nat} (hn : bs.length = n) (h : 0 ≤ biK bs ck cr cm cz n) : haB bs ck cr cm cz = true := by
 obtain ⟨k, hk, h1⟩ := rA h
 exact decide_eq_true ⟨k, by omega, h1⟩
theorem v14 {bs : List Bx} {ck cr : Int} {cm : List Int} {cz : Int} {n : Nat} (hn : bs.length = n) (h : ¬ 0 ≤ biK bs ck cr cm cz n) : haB bs ck cr cm cz = false :=
 decide_eq_false fun ⟨j, hj, e⟩ => by
  have := lI h j (by omega); rw [e] at this; cases this
theorem v20 {k : Int} {r : List Int} {rn : Nat} {m : List (List Int)} {s : List Int} {sn : Nat} {ck cr : Int} {cm : List Int} {cz : Int} (h1 : kjB k ck = true) (h2 : fE (kC r rn) cr = true) (h3 : iK m cm = true) (h4 : fE (kC s sn) cz = true) : gF k r rn m s sn ck cr cm cz = true := by
 unfold gF; rw [h1, h2, h3, h4]; rfl
theorem v21 {k : Int} {r : List Int} {rn : Nat} {m : List (List Int)} {s : List Int} {sn : Nat} {ck cr : Int} {cm : List Int} {cz : Int} (h1 : kjB k ck = false) : gF k r rn m s sn ck cr cm cz = false := by
 unfold gF; rw [h1]; rfl
theorem v4e {k : Int} {r : List Int} {rn : Nat} {m : List (List Int)} {s : List Int} {sn : Nat} {ck cr : Int} {cm : List Int} {cz : Int} (h2 : fE (kC r rn) cr = false) : gF k r rn m s sn ck cr cm cz = false := by
 unfold gF; rw [h2, kh6, kd0]
theorem v4f {k : Int} {r : List Int} {rn : Nat} {m : List (List Int)} {s : List Int} {sn : Nat} {ck cr : Int} {cm : List Int} {cz : Int} (h3 : iK m cm = false) : gF k r rn m s sn ck cr cm cz = false := by
 unfold gF; rw [h3, kh6, kd0, kd0]
theorem v4d {k : Int} {r : List Int} {rn : Nat} {m : List (List Int)} {s : List Int} {sn : Nat} {ck cr : Int} {cm : List Int} {cz : Int} (h4 : fE (kC s sn) cz = false) : gF k r rn m s sn ck cr cm cz = false := by
 unfold gF; rw [h4, kd0, kd0, kd0]
def u9 (a b : List (List Int)) : Nat → List (List Int)
 | 0 => []
 | i + 1 => if iK b (ka1 a i []) = true then u9 a b i ++ [ka1 a i []] else u9 a b i
theorem u4u {a b o : List (List Int)} {i : Nat} (h : u9 a b i = o) (h1 : iK b (ka1 a i []) = true) : u9 a b (i + 1) = o ++ [ka1 a i []] := by subst h; exact if_pos h1
theorem u4v {a b o : List (List Int)} {i : Nat} (h : u9 a b i = o) (h1 : iK b (ka1 a i []) = false) : u9 a b (i + 1) = o := by subst h; exact if_neg (by rw [h1]; decide)
theorem rC {a : List (List Int)} (h : MsW a) (b : List (List Int)) : ∀ i, MsW (u9 a b i)
 | 0 => MsW.nil
 | i + 1 => by
  rw [u9]; split
  ·exact (rC h b i).snoc (h.at i)
  ·exact rC h b i
theorem cX (a b : List (List Int)) : ∀ i, ka0 (u9 a b i) ≤ i
 | 0 => Nat.le_refl _
 | i + 1 => by
  have := cX a b i
  rw [u9]; split
  ·rw [ka6, List.length_singleton]; omega
  ·omega
theorem v12 {ms : List (List Int)} {m : List Int} {k : Nat} (h : hmK ms m k = -1) (h2 : bN (ka1 ms k []) m = false) : hmK ms m (k + 1) = -1 := cF h h2
theorem u4d {ms : List (List Int)} {m : List Int} {k : Nat} (h : hmK ms m k = -1) (h2 : bN (ka1 ms k []) m = true) {n : Nat} (hn : k < n) : hmK ms m n = (k : Int) := eX h h2 n hn
def nxB (k : Int) (r : List Int) (rn : Nat) (m : List (List Int)) (s : List Int) (sn : Nat) : Bool := !(gO k r rn m s sn)
theorem v0e {k : Int} {r : List Int} {rn : Nat} {m : List (List Int)} {s : List Int} {sn : Nat} (h : gO k r rn m s sn = false) : nxB k r rn m s sn = true := by unfold nxB; rw [h]; rfl
theorem v0f {k : Int} {r : List Int} {rn : Nat} {m : List (List Int)} {s : List Int} {sn : Nat} (h : gO k r rn m s sn = true) : nxB k r rn m s sn = false := by unfold nxB; rw [h]; rfl
theorem u98 {bs : List Bx} {k : Nat} (h : wT bs k = -1) (h2 : nxB (kU bs k) (qG bs k) (qA bs k) (kX bs k) (qF bs k) (k9 bs k) = false) : wT bs (k + 1) = -1 := cF h h2
theorem u3i {bs : List Bx} {k : Nat} (h : wT bs k = -1) (h2 : nxB (kU bs k) (qG bs k) (qA bs k) (kX bs k) (qF bs k) (k9 bs k) = true) {n : Nat} (hn : k < n) : wT bs n = (k : Int) := eX h h2 n hn
def naB (bs : List Bx) (n : Nat) : Bool := decide (0 ≤ wT bs n)
theorem u6o {bs : List Bx} {n : Nat} (hn : bs.length = n) (h : naB bs n = true) : dA bs = false := u97 hn (of_decide_eq_true h)
theorem u6n {bs : List Bx} {n : Nat} (hn : bs.length = n) (h2 : n ≤ 64) (h : naB bs n = false) : dA bs = true := u99 hn h2 (of_decide_eq_false h)
theorem v3w {b : Int} {q : Nat} (h1 : 1 ≤ q ∧ q ≤ 7) (h : fB (b / ((2 ^ q : Nat) : Int)) = 1) : kjB b (q : Int) = true := by
 rw [u6y]; exact decide_eq_true ⟨h1.1, h1.2, h⟩
theorem v3x {b : Int} {q : Nat} (h : ¬ fB (b / ((2 ^ q : Nat) : Int)) = 1) : kjB b (q : Int) = false := by
 rw [u6y]; exact decide_eq_false fun e => h e.2.2
theorem v22 {bs : List Bx} {ck cr : Int} {cm : List Int} {cz : Int} {k : Nat} (h : biK bs ck cr cm cz k = -1) (h2 : gF (kU bs k) (qG bs k) (qA bs k) (kX bs k) (qF bs k) (k9 bs k) ck cr cm cz = false) : biK bs ck cr cm cz (k + 1) = -1 := cF h h2
theorem u50 {bs : List Bx} {ck cr : Int} {cm : List Int} {cz : Int} {k : Nat} (h : biK bs ck cr cm cz k = -1) (h2 : gF (kU bs k) (qG bs k) (qA bs k) (kX bs k) (qF bs k) (k9 bs k) ck cr cm cz = true) {n : Nat} (hn : k < n) : biK bs ck cr cm cz n = (k : Int) := eX h h2 n hn
theorem u0m (w a : List Int) (o n : Nat) (ho : ka0 w = o) (hn : ka0 a = n) (h1 : o ≤ 1000000) (h2 : n ≤ 1000000) : Fun 154 [.c (.d (D.sl (dI .i64 a) n)), .c (.ptr 0 0)] (kH [(0, some (38, .ds [D.sl (dI .i64 w) o]))]) 1 (yM (D.lit (.bool (bN a w)))) (kH [(0, some (38, .ds [D.sl (dI .i64 w) o]))]) 1 := by
 refine Fun.mk (n := 7) Tryz.func154 rfl rfl (ka4 rfl) ?_
 intro cx hcx
 refine kK [.no] True [(0, sV .i64 a n), (1, rV 0 0)] [(0, some (38, .ds [dl w o]))] 1 trivial ?_
 refine kT [.no, .no, .call [] (yM (D.lit (.bool (bN a w)))) [] 0 [] none, .no] _ [(3, yM (D.lit (.bool (bN a w))))] (wA a w n o zo zo zo zo) ?_
 refine AW.ret ?_
 exact kB (.inr rfl) [] (P := ((bN a w) = (bN a w)) ∧ (kN [dl w o])) zk ⟨rfl, rfl⟩
theorem fH {p : Prop} (h : p := by first | omega | assumption | simp) : p := h
theorem gX {p : Prop} (h : p := by first | omega | (simp only [k8, kZ, ka6, ka9, kb1, kb0, kb2] <;> omega)) : p := h
theorem uZ {p : Prop} (h : p := by first | omega | with_reducible assumption | (simp only [k8, kZ, ka6, ka9, kb1, kb0, kb2, List.length_replicate, List.length_set] <;> omega) | rfl | assumption) : p := h
theorem rS {p : Prop} (h : p := by first | rfl | omega | assumption | (simp; done) | (simp; omega)) : p := h
theorem u5l (ms : List (List Int)) (c : Nat) (w : List Int) (o : Nat) (hc : ka0 ms = c) (ho : ka0 w = o) (h1 : c ≤ 1000000) (h2 : o ≤ 1000000) (hW : MsW ms) : Fun 159 [.c (.d (D.sl (kL ms) c)), .c (.fn 154 [(0, 0)])] (kH [(0, some (38, .ds [D.sl (dI .i64 w) o]))]) 1 (iV (hmK ms w c)) (kH [(0, some (38, .ds [D.sl (dI .i64 w) o]))]) 1 := by
 refine Fun.mk (n := 19) Tryz.func159 rfl rfl (ka4 rfl) ?_
 intro cx hcx
 refine kK [.no] True [(0, qK (kL ms) c), (1, .e (.c (.fn 154 [(0, 0)])))] [(0, some (38, .ds [dl w o]))] 1 trivial ?_
 refine AW.seq ?_
 refine kT [.no, .no, .no] True [(0, qK (kL ms) c), (1, .e (.c (.fn 154 [(0, 0)]))), (7, uV c), (8, iV 0)] trivial ?_
 refine AW.block ?_
 refine qH 1 hcx (fun (x : {x : Nat // match x with | k => (k ≤ c) ∧ (hmK ms w k = -1)}) => match x with | ⟨k, _⟩ => (⟨[(0, qK (kL ms) c), (1, .e (.c (.fn 154 [(0, 0)]))), (7, uV c), (8, uV k)], [(0, some (38, .ds [dl w o]))], 1⟩ : ES)) (fun x => match x with | ⟨k, _⟩ => c - k) ⟨(0 : Nat), ⟨fH, rfl⟩⟩ [] (P := (kN (kL ms)) ∧ (kJ c) ∧ (kS (c : Int)) ∧ (kS 0) ∧ (kN [dl w o])) zk ⟨rfl, rfl, rfl, rfl, rfl⟩ ?_
 rintro ⟨k, hinv0⟩
 obtain ⟨hk, hi⟩ : (k ≤ c) ∧ (hmK ms w k = -1) := hinv0
 refine uL (l := [(0, qK (kL ms) c), (1, .e (.c (.fn 154 [(0, 0)]))), (7, uV c), (8, uV k)]) (g := [(0, some (38, .ds [dl w o]))]) (nx := 1) rfl rfl rfl ?_
 by_cases hx1 : (((k : Nat) : Int) < ((c : Nat) : Int))
 ·refine kK [.b true] (((k : Int) < (c : Int))) [(0, qK (kL ms) c), (1, .e (.c (.fn 154 [(0, 0)]))), (7, uV c), (8, uV k), (9, bV true)] [(0, some (38, .ds [dl w o]))] 1 zo ?_
  refine AW.seq ?_
  refine vR ?_
  refine AW.seq ?_
  refine AW.block ?_
  refine kT [.no, .no] True [(0, qK (kL ms) c), (1, .e (.c (.fn 154 [(0, 0)]))), (5, uV k), (7, uV c), (8, uV k)] trivial ?_
  rcases kb3 (bN (ka1 ms k ([] : List Int)) w) with hx3 | hx3
  ·have hx4 : ((ka0 (ka1 ms k ([] : List Int))) ≤ 1000000) := MsW.at (qJ : MsW ms) _
   refine kT [.no, .no, .no, .n k, .d (dl (ka1 ms k ([] : List Int)) (ka0 (ka1 ms k ([] : List Int)))), .call [0] (bV true) [(0, some (38, .ds [dl w o]))] 1 [] none] ((kS (k : Int)) ∧ (k < c) ∧ ((ka3 k (kL ms))[0]? = some (dl (ka1 ms k ([] : List Int)) (ka0 (ka1 ms k ([] : List Int))))) ∧ (Fun 154 [.c (.d (dl (ka1 ms k ([] : List Int)) (ka0 (ka1 ms k ([] : List Int))))), .c (.ptr 0 0)] (kH [(0, some (38, .ds [dl w o]))]) 1 (bV true) (kH [(0, some (38, .ds [dl w o]))]) 1)) [(0, qK (kL ms) c), (1, .e (.c (.fn 154 [(0, 0)]))), (5, uV k), (7, uV c), (8, uV k), (16, bV true)] ⟨rfl, zo, (bM _ _ gX), (by have h0 := (u0m w (ka1 ms k ([] : List Int)) o (ka0 (ka1 ms k ([] : List Int))) zo rfl zo uZ); rw [hx3] at h0; exact h0)⟩ ?_
   refine zt ?_
   refine kT [.no, .no] True [(4, uV k)] trivial ?_
   refine AW.ret ?_
   exact kB (.inr rfl) [] (P := (((hmK ms w c) : Int) = (k : Int)) ∧ (kN [dl w o])) zk ⟨(by first | rfl | exact u4d hi (by assumption) zo | (rw [show c = k by omega]; exact hi) | omega), rfl⟩
  ·have hx5 : ((ka0 (ka1 ms k ([] : List Int))) ≤ 1000000) := MsW.at (qJ : MsW ms) _
   refine kT [.no, .no, .no, .n k, .d (dl (ka1 ms k ([] : List Int)) (ka0 (ka1 ms k ([] : List Int)))), .call [0] (bV false) [(0, some (38, .ds [dl w o]))] 1 [] none] ((kS (k : Int)) ∧ (k < c) ∧ ((ka3 k (kL ms))[0]? = some (dl (ka1 ms k ([] : List Int)) (ka0 (ka1 ms k ([] : List Int))))) ∧ (Fun 154 [.c (.d (dl (ka1 ms k ([] : List Int)) (ka0 (ka1 ms k ([] : List Int))))), .c (.ptr 0 0)] (kH [(0, some (38, .ds [dl w o]))]) 1 (bV false) (kH [(0, some (38, .ds [dl w o]))]) 1)) [(0, qK (kL ms) c), (1, .e (.c (.fn 154 [(0, 0)]))), (5, uV k), (7, uV c), (8, uV k), (16, bV false)] ⟨rfl, zo, (bM _ _ gX), (by have h0 := (u0m w (ka1 ms k ([] : List Int)) o (ka0 (ka1 ms k ([] : List Int))) zo rfl zo uZ); rw [hx3] at h0; exact h0)⟩ ?_
   refine yA ?_
   refine yT [.w, .no] (yQ ((k : Int) + 1)) [(0, qK (kL ms) c), (1, .e (.c (.fn 154 [(0, 0)]))), (7, uV c), (8, iV (↑k + 1))] ⟨by omega, by omega⟩ ?_
   exact qE ⟨((k + 1) : Nat), ⟨fH, (v12 hi (by assumption))⟩⟩ [] (P := (kN (kL ms)) ∧ (kJ c) ∧ (kS (c : Int)) ∧ (c7 k) ∧ (kN [dl w o])) zk ⟨rfl, rfl, rfl, rS, rfl⟩ (show c - (k + 1) < c - k from (by first | omega | (show _ < _; simp; omega)))
 ·refine kK [.b false] (¬ ((k : Int) < (c : Int))) [(0, qK (kL ms) c), (1, .e (.c (.fn 154 [(0, 0)]))), (7, uV c), (8, uV k), (9, bV false)] [(0, some (38, .ds [dl w o]))] 1 zo ?_
  refine AW.seq ?_
  refine zf ?_
  refine AW.exit ?_
  refine kK [.no] True [(4, iV (-1))] [(0, some (38, .ds [dl w o]))] 1 trivial ?_
  refine AW.ret ?_
  exact kB (.inr rfl) [] (P := (((hmK ms w c) : Int) = (-1)) ∧ (kN [dl w o])) zk ⟨(by first | rfl | exact u4d hi (by assumption) zo | (rw [show c = k by omega]; exact hi) | omega), rfl⟩
theorem v2l (ms : List (List Int)) (c : Nat) (w : List Int) (o : Nat) (hc : ka0 ms = c) (ho : ka0 w = o) (h1 : c ≤ 1000000) (h2 : o ≤ 1000000) (hW : MsW ms) : Fun 132 [.c (.d (D.sl (kL ms) c)), .c (.fn 154 [(0, 0)])] (kH [(0, some (38, .ds [D.sl (dI .i64 w) o]))]) 1 (yM (D.lit (.bool (iK ms w)))) (kH [(0, some (38, .ds [D.sl (dI .i64 w) o]))]) 1 := by
 refine Fun.mk (n := 9) Tryz.func132 rfl rfl (ka4 rfl) ?_
 intro cx hcx
 refine kK [.no] True [(0, qK (kL ms) c), (1, .e (.c (.fn 154 [(0, 0)])))] [(0, some (38, .ds [dl w o]))] 1 trivial ?_
 by_cases hx1 : ((0 : Int) ≤ (hmK ms w c))
 ·refine kT [.no, .no, .call [0] (iV (hmK ms w c)) [(0, some (38, .ds [dl w o]))] 1 [] none, .b true, .no] ((_) ∧ (((0 : Int) ≤ (hmK ms w c)))) [(4, bV true)] ⟨(u5l ms c w o zo zo zo zo (qJ : MsW ms)), zo⟩ ?_
  refine AW.ret ?_
  exact kB (.inr rfl) [] (P := ((iK ms w) = true) ∧ (kN [dl w o])) zk ⟨(by first | exact u4c hc zo | exact u4e hc zo), rfl⟩
 ·refine kT [.no, .no, .call [0] (iV (hmK ms w c)) [(0, some (38, .ds [dl w o]))] 1 [] none, .b false, .no] ((_) ∧ (¬ ((0 : Int) ≤ (hmK ms w c)))) [(4, bV false)] ⟨(u5l ms c w o zo zo zo zo (qJ : MsW ms)), zo⟩ ?_
  refine AW.ret ?_
  exact kB (.inr rfl) [] (P := ((iK ms w) = false) ∧ (kN [dl w o])) zk ⟨(by first | exact u4c hc zo | exact u4e hc zo), rfl⟩
theorem jP (ms : List (List Int)) (c : Nat) (w : List Int) (o : Nat) (hc : ka0 ms = c) (ho : ka0 w = o) (h1 : c ≤ 1000000) (h2 : o ≤ 1000000) (hW : MsW ms) : Fun 126 [.c (.d (D.sl (kL ms) c)), .c (.d (D.sl (dI .i64 w) o))] (kH []) 0 (yM (D.lit (.bool (iK ms w)))) (kH []) 0 := by
 refine Fun.mk (n := 8) Tryz.func126 rfl rfl (ka4 rfl) ?_
 intro cx hcx
 refine kK [.no, .no] True [(0, qK (kL ms) c), (3, rV 0 0)] [(0, some (38, .ds [dl w o]))] 1 trivial ?_
 refine kK [.no, .no, .call [0] (yM (D.lit (.bool (iK ms w)))) [(0, some (38, .ds [dl w o]))] 1 [] none, .no] _ [(4, yM (D.lit (.bool (iK ms w))))] [] 1 (v2l ms c w o zo zo zo zo (qJ : MsW ms)) ?_
 refine AW.ret ?_
 exact kB (.inr rfl) [] (P := ((iK ms w) = (iK ms w))) zk rfl
theorem m6 {p : Prop} (h : p := by first | exact u95 (by assumption) | exact u94 (by assumption)) : p := h
theorem wD (m : List (List Int)) (c : Nat) (hc : ka0 m = c) (h1 : c ≤ 1000000) (hW : MsW m) : Fun 129 [.c (.d (D.sl (kL m) c))] (kH []) 0 (yM (D.lit (.bool (nC m)))) (kH []) 0 := by
 refine Fun.mk (n := 31) Tryz.func129 rfl rfl (ka4 rfl) ?_
 intro cx hcx
 refine kK [.no] True [(0, qK (kL m) c)] [] 0 trivial ?_
 refine AW.seq ?_
 by_cases hx1 : (((c : Nat) : Int) < 1)
 ·refine kT [.no, .no, .b true, .no, .no] (((c : Int) < 1)) [(0, qK (kL m) c), (12, bV true)] zo ?_
  refine zt ?_
  refine kT [.no] True [(2, bV false)] trivial ?_
  refine AW.ret ?_
  exact kB (.inr rfl) [] (P := ((nC m) = false)) zk (by first | exact k3s zo zo (fun j hj => ha j zo) | exact k55 zo | exact k57 (k := i) zo m6)
 ·by_cases hx2 : ((16 : Int) < ((c : Nat) : Int))
  ·refine kT [.no, .no, .b false, .no, .no, .no, .b true, .no] ((¬ ((c : Int) < 1)) ∧ (((16 : Int) < (c : Int)))) [(0, qK (kL m) c), (12, bV true)] ⟨zo, zo⟩ ?_
   refine zt ?_
   refine kT [.no] True [(2, bV false)] trivial ?_
   refine AW.ret ?_
   exact kB (.inr rfl) [] (P := ((nC m) = false)) zk (by first | exact k3s zo zo (fun j hj => ha j zo) | exact k55 zo | exact k57 (k := i) zo m6)
  ·refine kT [.no, .no, .b false, .no, .no, .no, .b false, .no] ((¬ ((c : Int) < 1)) ∧ (¬ ((16 : Int) < (c : Int)))) [(0, qK (kL m) c), (12, bV false)] ⟨zo, zo⟩ ?_
   refine yA ?_
   refine AW.seq ?_
   refine kT [.no, .no, .no] True [(0, qK (kL m) c), (13, qK (kL m) c), (14, uV c), (15, iV 0)] trivial ?_
   refine AW.block ?_
   refine qH 0 hcx (fun (x : {x : Nat // match x with | i => (i ≤ c) ∧ (∀ j, j < i → vmE m j = true)}) => match x with | ⟨i, _⟩ => (⟨[(0, qK (kL m) c), (13, qK (kL m) c), (14, uV c), (15, uV i)], [], 0⟩ : ES)) (fun x => match x with | ⟨i, _⟩ => c - i) ⟨(0 : Nat), ⟨fH, (fun j hj => absurd hj (ke5 j))⟩⟩ [] (P := (kN (kL m)) ∧ (kJ c) ∧ (kN (kL m)) ∧ (kJ c) ∧ (kS (c : Int)) ∧ (kS 0)) zk ⟨rfl, rfl, rfl, rfl, rfl, rfl⟩ ?_
   rintro ⟨i, hinv0⟩
   obtain ⟨hi, ha⟩ : (i ≤ c) ∧ (∀ j, j < i → vmE m j = true) := hinv0
   refine uL (l := [(0, qK (kL m) c), (13, qK (kL m) c), (14, uV c), (15, uV i)]) (g := []) (nx := 0) rfl rfl rfl ?_
   by_cases hx3 : (((i : Nat) : Int) < ((c : Nat) : Int))
   ·refine kK [.b true] (((i : Int) < (c : Int))) [(0, qK (kL m) c), (13, qK (kL m) c), (14, uV c), (15, uV i), (16, bV true)] [] 0 zo ?_
    refine AW.seq ?_
    refine vR ?_
    refine AW.seq ?_
    refine AW.block ?_
    have hx4 : ((ka0 (ka1 m i ([] : List Int))) ≤ 1000000) := MsW.at (qJ : MsW m) _
    refine kT [.no, .n i, .d (dl (ka1 m i ([] : List Int)) (ka0 (ka1 m i ([] : List Int)))), .no, .no] ((kS (i : Int)) ∧ (i < c) ∧ ((ka3 i (kL m))[0]? = some (dl (ka1 m i ([] : List Int)) (ka0 (ka1 m i ([] : List Int)))))) [(0, qK (kL m) c), (3, uV i), (4, sV .i64 (ka1 m i ([] : List Int)) (ka0 (ka1 m i ([] : List Int)))), (13, qK (kL m) c), (14, uV c), (15, uV i)] ⟨rfl, zo, (bM _ _ gX)⟩ ?_
    rcases kb3 (wM (ka1 m i ([] : List Int)) (ka0 (ka1 m i ([] : List Int)))) with hx5 | hx5
    ·rcases kb3 (iK (ka5 i m) (ka1 m i ([] : List Int))) with hx6 | hx6
     ·refine kT (.no :: .call [] (bV true) [] 0 [] none :: qN 4 [.sls 0 i i (kL (ka5 i m)), .no, .call [] (bV true) [] 0 [] none, .no]) ((Fun 156 [.c (.d (dl (ka1 m i ([] : List Int)) (ka0 (ka1 m i ([] : List Int)))))] (kH []) 0 (bV true) (kH []) 0) ∧ (kJ 0) ∧ (kS (i : Int)) ∧ ((0 : Nat) ≤ i) ∧ (i ≤ c) ∧ (i - 0 = i) ∧ (ka5 (i * 1) (ka3 (0 * 1) (kL m)) = (kL (ka5 i m))) ∧ (Fun 126 [.c (.d (D.sl (kL (ka5 i m)) i)), .c (.d (dl (ka1 m i ([] : List Int)) (ka0 (ka1 m i ([] : List Int)))))] (kH []) 0 (bV true) (kH []) 0)) [(0, qK (kL m) c), (13, qK (kL m) c), (14, uV c), (15, uV i), (29, bV true)] ⟨(by have h0 := (t9 (ka1 m i ([] : List Int)) (ka0 (ka1 m i ([] : List Int))) rfl uZ); rw [hx5] at h0; exact h0), rfl, rfl, zo, zo, zo, (xM _ _), (by have h0 := (jP (ka5 i m) i (ka1 m i ([] : List Int)) (ka0 (ka1 m i ([] : List Int))) uZ rfl zo uZ (MsW.take (qJ : MsW m) _)); rw [hx6] at h0; exact h0)⟩ ?_
      refine zt ?_
      refine kT [.no] True [(2, bV false)] trivial ?_
      refine AW.ret ?_
      exact kB (.inr rfl) [] (P := ((nC m) = false)) zk (by first | exact k3s zo zo (fun j hj => ha j zo) | exact k55 zo | exact k57 (k := i) zo m6)
     ·refine kT (.no :: .call [] (bV true) [] 0 [] none :: qN 4 [.sls 0 i i (kL (ka5 i m)), .no, .call [] (bV false) [] 0 [] none, .no]) ((Fun 156 [.c (.d (dl (ka1 m i ([] : List Int)) (ka0 (ka1 m i ([] : List Int)))))] (kH []) 0 (bV true) (kH []) 0) ∧ (kJ 0) ∧ (kS (i : Int)) ∧ ((0 : Nat) ≤ i) ∧ (i ≤ c) ∧ (i - 0 = i) ∧ (ka5 (i * 1) (ka3 (0 * 1) (kL m)) = (kL (ka5 i m))) ∧ (Fun 126 [.c (.d (D.sl (kL (ka5 i m)) i)), .c (.d (dl (ka1 m i ([] : List Int)) (ka0 (ka1 m i ([] : List Int)))))] (kH []) 0 (bV false) (kH []) 0)) [(0, qK (kL m) c), (13, qK (kL m) c), (14, uV c), (15, uV i), (29, bV false)] ⟨(by have h0 := (t9 (ka1 m i ([] : List Int)) (ka0 (ka1 m i ([] : List Int))) rfl uZ); rw [hx5] at h0; exact h0), rfl, rfl, zo, zo, zo, (xM _ _), (by have h0 := (jP (ka5 i m) i (ka1 m i ([] : List Int)) (ka0 (ka1 m i ([] : List Int))) uZ rfl zo uZ (MsW.take (qJ : MsW m) _)); rw [hx6] at h0; exact h0)⟩ ?_
      refine yA ?_
      refine yT [.w, .no] (yQ ((i : Int) + 1)) [(0, qK (kL m) c), (13, qK (kL m) c), (14, uV c), (15, iV (↑i + 1))] ⟨by omega, by omega⟩ ?_
      exact qE ⟨((i + 1) : Nat), ⟨fH, (fun j hj => (Nat.lt_succ_iff_lt_or_eq.1 hj).elim (ha j) (fun e9 => by subst e9; exact u3h (by assumption) (by assumption)))⟩⟩ [] (P := (kN (kL m)) ∧ (kJ c) ∧ (kN (kL m)) ∧ (kJ c) ∧ (kS (c : Int)) ∧ (c7 i)) zk ⟨rfl, rfl, rfl, rfl, rfl, rS⟩ (show c - (i + 1) < c - i from (by first | omega | (show _ < _; simp; omega)))
    ·refine kT [.no, .call [] (bV false) [] 0 [] none, .no, .no, .no] (Fun 156 [.c (.d (dl (ka1 m i ([] : List Int)) (ka0 (ka1 m i ([] : List Int)))))] (kH []) 0 (bV false) (kH []) 0) [(0, qK (kL m) c), (13, qK (kL m) c), (14, uV c), (15, uV i), (29, bV true)] (by have h0 := (t9 (ka1 m i ([] : List Int)) (ka0 (ka1 m i ([] : List Int))) rfl uZ); rw [hx5] at h0; exact h0) ?_
     refine zt ?_
     refine kT [.no] True [(2, bV false)] trivial ?_
     refine AW.ret ?_
     exact kB (.inr rfl) [] (P := ((nC m) = false)) zk (by first | exact k3s zo zo (fun j hj => ha j zo) | exact k55 zo | exact k57 (k := i) zo m6)
   ·refine kK [.b false] (¬ ((i : Int) < (c : Int))) [(0, qK (kL m) c), (13, qK (kL m) c), (14, uV c), (15, uV i), (16, bV false)] [] 0 zo ?_
    refine AW.seq ?_
    refine zf ?_
    refine AW.exit ?_
    refine kK [.no] True [(2, bV true)] [] 0 trivial ?_
    refine AW.ret ?_
    exact kB (.inr rfl) [] (P := ((nC m) = true)) zk (by first | exact k3s zo zo (fun j hj => ha j zo) | exact k55 zo | exact k57 (k := i) zo m6)
theorem jW {p : Prop} (h : p := by first | exact u2r (by omega) (by assumption) (by assumption) (by assumption) | exact v4b (by omega) | exact v4a (by assumption) | exact v49 (by assumption) | exact v48 (by assumption)) : p := h
theorem lR (k : Int) (r : List Int) (rn : Nat) (m : List (List Int)) (c : Nat) (s : List Int) (sn : Nat) (hr : ka0 r = rn * 2) (hs : ka0 s = sn * 2) (hc : ka0 m = c) (h1 : rn ≤ 1000000) (h2 : sn ≤ 1000000) (h3 : c ≤ 1000000) (hW : MsW m) : Fun 92 [.agg [iC k, .d (D.sl (dI .i64 r) rn), .d (D.sl (kL m) c), .d (D.sl (dI .i64 s) sn)]] (kH []) 0 (yM (D.lit (.bool (gO k r rn m s sn)))) (kH []) 0 := by
 refine Fun.mk (n := 27) Tryz.func92 rfl rfl (ka4 rfl) ?_
 intro cx hcx
 refine kK [.no, .no] True [(1, rV 0 0)] [(0, some (63, .ds [iD k, dl r rn, D.sl (kL m) c, dl s sn]))] 1 trivial ?_
 by_cases hx1 : (k ≠ 0)
 ·by_cases hx2 : ((lO k) = 0)
  ·rcases kb3 (fA r rn 1000 768000) with hx3 | hx3
   ·rcases kb3 (nC m) with hx4 | hx4
    ·rcases kb3 (fA s sn 1 65536) with hx5 | hx5
     ·refine kK (.no :: .no :: .b true :: .no :: .no :: .no :: .i (lO k) :: .b true :: qN 4 (.call [] (bV true) [] 0 [] none :: qN 4 (.call [] (bV true) [] 0 [] none :: qN 4 [.call [] (bV true) [] 0 [] none, .no, .no]))) (((k ≠ 0)) ∧ (qM .andNot .i64 k 254 = (lO k)) ∧ (((lO k) = 0)) ∧ (Fun 128 [.agg [.d (dl r rn)], iE 1000, iE 768000] (kH []) 0 (bV true) (kH []) 0) ∧ (Fun 129 [.c (.d (D.sl (kL m) c))] (kH []) 0 (bV true) (kH []) 0) ∧ (Fun 128 [.agg [.d (dl s sn)], iE 1, iE 65536] (kH []) 0 (bV true) (kH []) 0)) [(2, bV true)] [] 1 ⟨zo, rfl, zo, (by have h0 := (lP r rn 1000 768000 zo zo); rw [hx3] at h0; exact h0), (by have h0 := (wD m c zo zo (qJ : MsW m)); rw [hx4] at h0; exact h0), (by have h0 := (lP s sn 1 65536 zo zo); rw [hx5] at h0; exact h0)⟩ ?_
      refine AW.ret ?_
      exact kB (.inr rfl) [] (P := ((gO k r rn m s sn) = true)) zk jW
     ·refine kK (.no :: .no :: .b true :: .no :: .no :: .no :: .i (lO k) :: .b true :: qN 4 (.call [] (bV true) [] 0 [] none :: qN 4 (.call [] (bV true) [] 0 [] none :: qN 4 [.call [] (bV false) [] 0 [] none, .no, .no]))) (((k ≠ 0)) ∧ (qM .andNot .i64 k 254 = (lO k)) ∧ (((lO k) = 0)) ∧ (Fun 128 [.agg [.d (dl r rn)], iE 1000, iE 768000] (kH []) 0 (bV true) (kH []) 0) ∧ (Fun 129 [.c (.d (D.sl (kL m) c))] (kH []) 0 (bV true) (kH []) 0) ∧ (Fun 128 [.agg [.d (dl s sn)], iE 1, iE 65536] (kH []) 0 (bV false) (kH []) 0)) [(2, bV false)] [] 1 ⟨zo, rfl, zo, (by have h0 := (lP r rn 1000 768000 zo zo); rw [hx3] at h0; exact h0), (by have h0 := (wD m c zo zo (qJ : MsW m)); rw [hx4] at h0; exact h0), (by have h0 := (lP s sn 1 65536 zo zo); rw [hx5] at h0; exact h0)⟩ ?_
      refine AW.ret ?_
      exact kB (.inr rfl) [] (P := ((gO k r rn m s sn) = false)) zk jW
    ·refine kK (.no :: .no :: .b true :: .no :: .no :: .no :: .i (lO k) :: .b true :: qN 4 (.call [] (bV true) [] 0 [] none :: qN 4 (.call [] (bV false) [] 0 [] none :: qN 4 []))) (((k ≠ 0)) ∧ (qM .andNot .i64 k 254 = (lO k)) ∧ (((lO k) = 0)) ∧ (Fun 128 [.agg [.d (dl r rn)], iE 1000, iE 768000] (kH []) 0 (bV true) (kH []) 0) ∧ (Fun 129 [.c (.d (D.sl (kL m) c))] (kH []) 0 (bV false) (kH []) 0)) [(2, bV false)] [] 1 ⟨zo, rfl, zo, (by have h0 := (lP r rn 1000 768000 zo zo); rw [hx3] at h0; exact h0), (by have h0 := (wD m c zo zo (qJ : MsW m)); rw [hx4] at h0; exact h0)⟩ ?_
     refine AW.ret ?_
     exact kB (.inr rfl) [] (P := ((gO k r rn m s sn) = false)) zk jW
   ·refine kK (.no :: .no :: .b true :: .no :: .no :: .no :: .i (lO k) :: .b true :: qN 4 (.call [] (bV false) [] 0 [] none :: qN 6 [])) (((k ≠ 0)) ∧ (qM .andNot .i64 k 254 = (lO k)) ∧ (((lO k) = 0)) ∧ (Fun 128 [.agg [.d (dl r rn)], iE 1000, iE 768000] (kH []) 0 (bV false) (kH []) 0)) [(2, bV false)] [] 1 ⟨zo, rfl, zo, (by have h0 := (lP r rn 1000 768000 zo zo); rw [hx3] at h0; exact h0)⟩ ?_
    refine AW.ret ?_
    exact kB (.inr rfl) [] (P := ((gO k r rn m s sn) = false)) zk jW
  ·refine kK (.no :: .no :: .b true :: .no :: .no :: .no :: .i (lO k) :: .b false :: qN 8 []) (((k ≠ 0)) ∧ (qM .andNot .i64 k 254 = (lO k)) ∧ (¬ ((lO k) = 0))) [(2, bV false)] [] 1 ⟨zo, rfl, zo⟩ ?_
   refine AW.ret ?_
   exact kB (.inr rfl) [] (P := ((gO k r rn m s sn) = false)) zk jW
 ·refine kK (.no :: .no :: .b false :: qN 9 []) (¬ (k ≠ 0)) [(2, bV false)] [] 1 zo ?_
  refine AW.ret ?_
  exact kB (.inr rfl) [] (P := ((gO k r rn m s sn) = false)) zk jW
theorem z9 (k : Int) (r : List Int) (rn : Nat) (m : List (List Int)) (c : Nat) (s : List Int) (sn : Nat) (hr : ka0 r = rn * 2) (hs : ka0 s = sn * 2) (hc : ka0 m = c) (h1 : rn ≤ 1000000) (h2 : sn ≤ 1000000) (h3 : c ≤ 1000000) (hW : MsW m) : Fun 91 [.agg [iC k, .d (D.sl (dI .i64 r) rn), .d (D.sl (kL m) c), .d (D.sl (dI .i64 s) sn)]] (kH []) 0 (yM (D.lit (.bool (nxB k r rn m s sn)))) (kH []) 0 := by
 refine Fun.mk (n := 6) Tryz.func91 rfl rfl (ka4 rfl) ?_
 intro cx hcx
 refine kK [.no, .no] True [(1, rV 0 0)] [(0, some (63, .ds [iD k, dl r rn, D.sl (kL m) c, dl s sn]))] 1 trivial ?_
 rcases kb3 (gO k r rn m s sn) with hx1 | hx1
 ·refine kK [.no, .call [] (bV true) [] 0 [] none, .no, .no] (Fun 92 [.agg [iC k, .d (dl r rn), .d (D.sl (kL m) c), .d (dl s sn)]] (kH []) 0 (bV true) (kH []) 0) [(2, bV false)] [] 1 (by have h0 := (lR k r rn m c s sn zo zo zo zo zo zo (qJ : MsW m)); rw [hx1] at h0; exact h0) ?_
  refine AW.ret ?_
  exact kB (.inr rfl) [] (P := ((nxB k r rn m s sn) = false)) zk (by first | exact v0e (by assumption) | exact v0f (by assumption))
 ·refine kK [.no, .call [] (bV false) [] 0 [] none, .no, .no] (Fun 92 [.agg [iC k, .d (dl r rn), .d (D.sl (kL m) c), .d (dl s sn)]] (kH []) 0 (bV false) (kH []) 0) [(2, bV true)] [] 1 (by have h0 := (lR k r rn m c s sn zo zo zo zo zo zo (qJ : MsW m)); rw [hx1] at h0; exact h0) ?_
  refine AW.ret ?_
  exact kB (.inr rfl) [] (P := ((nxB k r rn m s sn) = true)) zk (by first | exact v0e (by assumption) | exact v0f (by assumption))
@[reducible] def y3 (x : List Bx) (i : Nat) : List D := [iD (kU x i), dl (qG x i) (qA x i), D.sl (kL (kX x i)) (ka0 (kX x i)), dl (qF x i) (k9 x i)]
@[reducible] def oW (x : List Bx) (i : Nat) : E1 := .agg [iC (kU x i), .d (dl (qG x i) (qA x i)), .d (D.sl (kL (kX x i)) (ka0 (kX x i))), .d (dl (qF x i) (k9 x i))]
@[reducible] def qC (x : List Bx) (n : Nat) : E1 := (.c (.d (D.sl (kV x) n)))
theorem u5k (bs : List Bx) (n : Nat) (hn : ka0 bs = n) (h1 : n ≤ 1000000) (hW : BsW bs) : Fun 124 [.c (.d (D.sl (kV bs) n)), .c (.fn 91 [])] (kH []) 0 (iV (wT bs n)) (kH []) 0 := by
 refine Fun.mk (n := 19) Tryz.func124 rfl rfl (ka4 rfl) ?_
 intro cx hcx
 refine kK [.no] True [(0, .e (qC bs n)), (1, .e (.c (.fn 91 [])))] [] 0 trivial ?_
 refine AW.seq ?_
 refine kT [.no, .no, .no] True [(0, .e (qC bs n)), (1, .e (.c (.fn 91 []))), (7, uV n), (8, iV 0)] trivial ?_
 refine AW.block ?_
 refine qH 0 hcx (fun (x : {x : Nat // match x with | k => (k ≤ n) ∧ (wT bs k = -1)}) => match x with | ⟨k, _⟩ => (⟨[(0, .e (qC bs n)), (1, .e (.c (.fn 91 []))), (7, uV n), (8, uV k)], [], 0⟩ : ES)) (fun x => match x with | ⟨k, _⟩ => n - k) ⟨(0 : Nat), ⟨fH, rfl⟩⟩ [] (P := (kN (kV bs)) ∧ (kJ n) ∧ (kS (n : Int)) ∧ (kS 0)) zk ⟨rfl, rfl, rfl, rfl⟩ ?_
 rintro ⟨k, hinv0⟩
 obtain ⟨hk, hi⟩ : (k ≤ n) ∧ (wT bs k = -1) := hinv0
 refine uL (l := [(0, .e (qC bs n)), (1, .e (.c (.fn 91 []))), (7, uV n), (8, uV k)]) (g := []) (nx := 0) rfl rfl rfl ?_
 by_cases hx1 : (((k : Nat) : Int) < ((n : Nat) : Int))
 ·refine kK [.b true] (((k : Int) < (n : Int))) [(0, .e (qC bs n)), (1, .e (.c (.fn 91 []))), (7, uV n), (8, uV k), (9, bV true)] [] 0 zo ?_
  refine AW.seq ?_
  refine vR ?_
  refine AW.seq ?_
  refine AW.block ?_
  refine kT [.no, .no] True [(0, .e (qC bs n)), (1, .e (.c (.fn 91 []))), (5, uV k), (7, uV n), (8, uV k)] trivial ?_
  rcases kb3 (nxB (kU bs k) (qG bs k) (qA bs k) (kX bs k) (qF bs k) (k9 bs k)) with hx7 | hx7
  ·obtain ⟨hx8, hx9, hx10, hx11, hx12⟩ := BsW.at (qJ : BsW bs) (k)
   refine kK [.no, .no, .no, .n k, .ds (y3 bs k), .call [] (bV true) [] 0 [] none] ((kS (k : Int)) ∧ (k < n) ∧ (ka5 4 (ka3 (k * 4) (kV bs)) = (y3 bs k)) ∧ (((y3 bs k) : List D).length = 4) ∧ (Fun 91 [(oW bs k)] (kH []) 0 (bV true) (kH []) 0)) [(0, .e (qC bs n)), (1, .e (.c (.fn 91 []))), (5, uV k), (7, uV n), (8, uV k), (16, bV true)] [] 0 ⟨rfl, zo, (vQ gX), rfl, (by have h0 := (z9 (kU bs k) (qG bs k) (qA bs k) (kX bs k) (ka0 (kX bs k)) (qF bs k) (k9 bs k) uZ uZ rfl uZ uZ uZ (BsW.ms (qJ : BsW bs) _)); rw [hx7] at h0; exact h0)⟩ ?_
   refine zt ?_
   refine kT [.no, .no] True [(4, uV k)] trivial ?_
   refine AW.ret ?_
   exact kB (.inr rfl) [] (P := (((wT bs n) : Int) = (k : Int))) zk (by first | rfl | exact u3i hi (by assumption) zo | (rw [show n = k by omega]; exact hi) | omega)
  ·obtain ⟨hx13, hx14, hx15, hx16, hx17⟩ := BsW.at (qJ : BsW bs) (k)
   refine kK [.no, .no, .no, .n k, .ds (y3 bs k), .call [] (bV false) [] 0 [] none] ((kS (k : Int)) ∧ (k < n) ∧ (ka5 4 (ka3 (k * 4) (kV bs)) = (y3 bs k)) ∧ (((y3 bs k) : List D).length = 4) ∧ (Fun 91 [(oW bs k)] (kH []) 0 (bV false) (kH []) 0)) [(0, .e (qC bs n)), (1, .e (.c (.fn 91 []))), (5, uV k), (7, uV n), (8, uV k), (16, bV false)] [] 0 ⟨rfl, zo, (vQ gX), rfl, (by have h0 := (z9 (kU bs k) (qG bs k) (qA bs k) (kX bs k) (ka0 (kX bs k)) (qF bs k) (k9 bs k) uZ uZ rfl uZ uZ uZ (BsW.ms (qJ : BsW bs) _)); rw [hx7] at h0; exact h0)⟩ ?_
   refine yA ?_
   refine yT [.w, .no] (yQ ((k : Int) + 1)) [(0, .e (qC bs n)), (1, .e (.c (.fn 91 []))), (7, uV n), (8, iV (↑k + 1))] ⟨by omega, by omega⟩ ?_
   exact qE ⟨((k + 1) : Nat), ⟨fH, (u98 hi (by assumption))⟩⟩ [] (P := (kN (kV bs)) ∧ (kJ n) ∧ (kS (n : Int)) ∧ (c7 k)) zk ⟨rfl, rfl, rfl, rS⟩ (show n - (k + 1) < n - k from (by first | omega | (show _ < _; simp; omega)))
 ·refine kK [.b false] (¬ ((k : Int) < (n : Int))) [(0, .e (qC bs n)), (1, .e (.c (.fn 91 []))), (7, uV n), (8, uV k), (9, bV false)] [] 0 zo ?_
  refine AW.seq ?_
  refine zf ?_
  refine AW.exit ?_
  refine kK [.no] True [(4, iV (-1))] [] 0 trivial ?_
  refine AW.ret ?_
  exact kB (.inr rfl) [] (P := (((wT bs n) : Int) = (-1))) zk (by first | rfl | exact u3i hi (by assumption) zo | (rw [show n = k by omega]; exact hi) | omega)
theorem u5n (bs : List Bx) (n : Nat) (hn : ka0 bs = n) (h1 : n ≤ 1000000) (hW : BsW bs) : Fun 84 [.c (.d (D.sl (kV bs) n)), .c (.fn 91 [])] (kH []) 0 (yM (D.lit (.bool (naB bs n)))) (kH []) 0 := by
 refine Fun.mk (n := 9) Tryz.func84 rfl rfl (ka4 rfl) ?_
 intro cx hcx
 refine kK [.no] True [(0, .e (qC bs n)), (1, .e (.c (.fn 91 [])))] [] 0 trivial ?_
 by_cases hx1 : ((0 : Int) ≤ (wT bs n))
 ·refine kT [.no, .no, .call [] (iV (wT bs n)) [] 0 [] none, .b true, .no] ((_) ∧ (((0 : Int) ≤ (wT bs n)))) [(4, bV true)] ⟨(u5k bs n zo zo (qJ : BsW bs)), zo⟩ ?_
  refine AW.ret ?_
  exact kB (.inr rfl) [] (P := ((naB bs n) = true)) zk (by first | exact decide_eq_true zo | exact decide_eq_false zo)
 ·refine kT [.no, .no, .call [] (iV (wT bs n)) [] 0 [] none, .b false, .no] ((_) ∧ (¬ ((0 : Int) ≤ (wT bs n)))) [(4, bV false)] ⟨(u5k bs n zo zo (qJ : BsW bs)), zo⟩ ?_
  refine AW.ret ?_
  exact kB (.inr rfl) [] (P := ((naB bs n) = false)) zk (by first | exact decide_eq_true zo | exact decide_eq_false zo)
theorem aC (bs : List Bx) (n : Nat) (hn : ka0 bs = n) (h1 : n ≤ 1000000) (hW : BsW bs) : Fun 60 [.c (.d (D.sl (kV bs) n))] (kH []) 0 (yM (D.lit (.bool (dA bs)))) (kH []) 0 := by
 refine Fun.mk (n := 11) Tryz.func60 rfl rfl (ka4 rfl) ?_
 intro cx hcx
 refine kK [.no] True [(0, .e (qC bs n))] [] 0 trivial ?_
 by_cases hx1 : (((n : Nat) : Int) ≤ 64)
 ·rcases kb3 (naB bs n) with hx2 | hx2
  ·refine kT [.no, .no, .b true, .no, .no, .call [] (bV true) [] 0 [] none, .no, .no, .no] ((((n : Int) ≤ 64)) ∧ (Fun 84 [.c (.d (D.sl (kV bs) n)), .c (.fn 91 [])] (kH []) 0 (bV true) (kH []) 0)) [(2, bV false)] ⟨zo, (by have h0 := (u5n bs n zo zo (qJ : BsW bs)); rw [hx2] at h0; exact h0)⟩ ?_
   refine AW.ret ?_
   exact kB (.inr rfl) [] (P := ((dA bs) = false)) zk (by first | exact u5u zo | exact u6o hn (by assumption) | exact u6n hn zo (by assumption))
  ·refine kT [.no, .no, .b true, .no, .no, .call [] (bV false) [] 0 [] none, .no, .no, .no] ((((n : Int) ≤ 64)) ∧ (Fun 84 [.c (.d (D.sl (kV bs) n)), .c (.fn 91 [])] (kH []) 0 (bV false) (kH []) 0)) [(2, bV true)] ⟨zo, (by have h0 := (u5n bs n zo zo (qJ : BsW bs)); rw [hx2] at h0; exact h0)⟩ ?_
   refine AW.ret ?_
   exact kB (.inr rfl) [] (P := ((dA bs) = true)) zk (by first | exact u5u zo | exact u6o hn (by assumption) | exact u6n hn zo (by assumption))
 ·refine kT [.no, .no, .b false, .no, .no, .no] (¬ ((n : Int) ≤ 64)) [(2, bV false)] zo ?_
  refine AW.ret ?_
  exact kB (.inr rfl) [] (P := ((dA bs) = false)) zk (by first | exact u5u zo | exact u6o hn (by assumption) | exact u6n hn zo (by assumption))
@[reducible] def vA (x : List Bx) : E1 := (.c (.d (D.sl (kV x) (ka0 x))))
theorem jQ (bs : List Bx) (n : Nat) (hn : ka0 bs = n) (h1 : n ≤ 1000000) (hW : BsW bs) : Fun 77 [.c (.d (D.sl (kV bs) n))] (kH []) 0 (.e (vA (kM bs))) (kH []) 0 := by
 refine Fun.mk (n := 7) Tryz.func77 rfl rfl (ka4 rfl) ?_
 intro cx hcx
 refine kK [.no] True [(0, .e (qC bs n))] [] 0 trivial ?_
 refine AW.seq ?_
 rcases kb3 (dA bs) with hx1 | hx1
 ·refine kT [.no, .call [] (bV true) [] 0 [] none, .no] (Fun 60 [.c (.d (D.sl (kV bs) n))] (kH []) 0 (bV true) (kH []) 0) [(0, .e (qC bs n)), (5, bV false)] (by have h0 := (aC bs n zo zo (qJ : BsW bs)); rw [hx1] at h0; exact h0) ?_
  refine yA ?_
  refine kT [.no, .no] True [(2, .e (qC bs n))] trivial ?_
  have hz1 : kM bs = bs := k9p hx1
  have hz2 : ka0 (kM bs) = n := by rw [hz1]; first | rfl | omega
  refine AW.ret ?_
  exact kB (.inr rfl) [] (P := (((kV (kM bs)) : List D) = (kV bs)) ∧ (((ka0 (kM bs)) : Nat) = n)) zk ⟨(by first | (rw [hz1]; done) | (rw [hz1]; rfl)), (by first | omega | rfl | assumption | (simp; done) | (simp; omega))⟩
 ·refine kT [.no, .call [] (bV false) [] 0 [] none, .no] (Fun 60 [.c (.d (D.sl (kV bs) n))] (kH []) 0 (bV false) (kH []) 0) [(0, .e (qC bs n)), (5, bV true)] (by have h0 := (aC bs n zo zo (qJ : BsW bs)); rw [hx1] at h0; exact h0) ?_
  refine zt ?_
  refine kT [.no] True [(2, nV)] trivial ?_
  have hz1 : kM bs = [] := u4x hx1
  have hz2 : ka0 (kM bs) = 0 := by rw [hz1]; first | rfl | omega
  refine vN (l' := [(2, qK ([] : List D) 0)]) (g' := []) (NlS.cons rfl (.e (.c .nil)) NlS.nil) NlG.nil ?_
  refine AW.ret ?_
  exact kB (.inr rfl) [] (P := (((kV (kM bs)) : List D) = ([] : List D)) ∧ (((ka0 (kM bs)) : Nat) = 0)) zk ⟨(by first | (rw [hz1]; done) | (rw [hz1]; rfl)), (by first | omega | rfl | assumption | (simp; done) | (simp; omega))⟩
theorem k08 {p : Prop} (h : p := by first | rfl | assumption | exact decide_eq_true (by omega) | exact decide_eq_false (by omega) | (simp; omega)) : p := h
theorem jO (q : Int)  : Fun 111 [iE q] (kH []) 0 (yM (D.lit (.bool (decide (1 ≤ q ∧ q ≤ 7))))) (kH []) 0 := by
 refine Fun.mk (n := 9) Tryz.func111 rfl rfl (ka4 rfl) ?_
 intro cx hcx
 refine kK [.no] True [(0, iV q)] [] 0 trivial ?_
 by_cases hx1 : ((1 : Int) ≤ q)
 ·by_cases hx2 : (q ≤ 7)
  ·refine kT [.no, .b true, .no, .no, .b true, .no, .no] ((((1 : Int) ≤ q)) ∧ ((q ≤ 7))) [(2, bV true)] ⟨zo, zo⟩ ?_
   refine AW.ret ?_
   exact kB (.inr rfl) [] (P := ((decide (1 ≤ q ∧ q ≤ 7)) = true)) zk k08
  ·refine kT [.no, .b true, .no, .no, .b false, .no, .no] ((((1 : Int) ≤ q)) ∧ (¬ (q ≤ 7))) [(2, bV false)] ⟨zo, zo⟩ ?_
   refine AW.ret ?_
   exact kB (.inr rfl) [] (P := ((decide (1 ≤ q ∧ q ≤ 7)) = false)) zk k08
 ·refine kT [.no, .b false, .no, .no, .no] (¬ ((1 : Int) ≤ q)) [(2, bV false)] zo ?_
  refine AW.ret ?_
  exact kB (.inr rfl) [] (P := ((decide (1 ≤ q ∧ q ≤ 7)) = false)) zk k08
theorem gY {p : Prop} (h : p := by first | exact v20 (by first | assumption | exact v3w (by omega) (by omega)) (by assumption) (by assumption) (by assumption) | exact v4e (by assumption) | exact v4f (by assumption) | exact v4d (by assumption) | exact v21 (v3y (by omega)) | exact v21 (v3x (by omega))) : p := h
theorem v2o (k : Int) (r : List Int) (rn : Nat) (m : List (List Int)) (c : Nat) (s : List Int) (sn : Nat) (q : Nat) (cr : Int) (cm : List Int) (cn : Nat) (cz : Int) (hr : ka0 r = rn * 2) (hs : ka0 s = sn * 2) (hc : ka0 m = c) (h1 : rn ≤ 1000000) (h2 : sn ≤ 1000000) (h3 : c ≤ 1000000) (hW : MsW m) (hm : ka0 cm = cn) (h4 : cn ≤ 1000000) (hq : q ≤ 64) : Fun 86 [.agg [iC k, .d (D.sl (dI .i64 r) rn), .d (D.sl (kL m) c), .d (D.sl (dI .i64 s) sn)], .agg [iC ((q : Nat) : Int), iC cr, .d (D.sl (dI .i64 cm) cn), iC cz]] (kH []) 0 (yM (D.lit (.bool (gF k r rn m s sn (q : Int) cr cm cz)))) (kH []) 0 := by
 refine Fun.mk (n := 42) Tryz.func86 rfl rfl (ka4 rfl) ?_
 intro cx hcx
 refine kK [.no, .no, .no] True [(2, rV 0 0), (3, rV 1 0)] [(0, some (63, .ds [iD k, dl r rn, D.sl (kL m) c, dl s sn])), (1, some (42, .ds [uD q, iD cr, dl cm cn, iD cz]))] 2 trivial ?_
 rcases kb3 (decide (1 ≤ ((q : Nat) : Int) ∧ ((q : Nat) : Int) ≤ 7)) with hx1 | hx1
 ·have hx2 : (((1 : Int) ≤ ((q : Nat) : Int)) ∧ (((q : Nat) : Int) ≤ 7)) := of_decide_eq_true hx1
  by_cases hx3 : ((fB (k / (((2 ^ q) : Nat) : Int))) = 1)
  ·rcases kb3 (fE (kC r rn) cr) with hx4 | hx4
   ·rcases kb3 (iK m cm) with hx5 | hx5
    ·rcases kb3 (fE (kC s sn) cz) with hx6 | hx6
     ·refine kK (.no :: .no :: .no :: .call [] (bV true) [] 0 [] none :: qN 6 (.n q :: .i (fB (k / (((2 ^ q) : Nat) : Int))) :: .b true :: qN 7 (.call [] (bV true) [] 0 [] none :: qN 7 (.call [] (bV true) [] 0 [] none :: qN 6 [.call [] (bV true) [] 0 [] none, .no, .no])))) ((Fun 111 [uE q] (kH []) 0 (bV true) (kH []) 0) ∧ (kS (q : Int)) ∧ (q ≤ 64) ∧ (qM .and .i64 (k / (((2 ^ q) : Nat) : Int)) 1 = (fB (k / (((2 ^ q) : Nat) : Int)))) ∧ (((fB (k / (((2 ^ q) : Nat) : Int))) = 1)) ∧ (Fun 125 [.agg [.d (dl r rn)], iE cr] (kH []) 0 (bV true) (kH []) 0) ∧ (Fun 126 [.c (.d (D.sl (kL m) c)), .c (.d (dl cm cn))] (kH []) 0 (bV true) (kH []) 0) ∧ (Fun 125 [.agg [.d (dl s sn)], iE cz] (kH []) 0 (bV true) (kH []) 0)) [(4, bV true)] [] 2 ⟨(by have h0 := (jO (q : Int)); rw [hx1] at h0; exact h0), rfl, zo, rfl, zo, (by have h0 := (rI r rn cr zo zo); rw [hx4] at h0; exact h0), (by have h0 := (jP m c cm cn zo zo zo zo (qJ : MsW m)); rw [hx5] at h0; exact h0), (by have h0 := (rI s sn cz zo zo); rw [hx6] at h0; exact h0)⟩ ?_
      refine AW.ret ?_
      exact kB (.inr rfl) [] (P := ((gF k r rn m s sn (q : Int) cr cm cz) = true)) zk gY
     ·refine kK (.no :: .no :: .no :: .call [] (bV true) [] 0 [] none :: qN 6 (.n q :: .i (fB (k / (((2 ^ q) : Nat) : Int))) :: .b true :: qN 7 (.call [] (bV true) [] 0 [] none :: qN 7 (.call [] (bV true) [] 0 [] none :: qN 6 [.call [] (bV false) [] 0 [] none, .no, .no])))) ((Fun 111 [uE q] (kH []) 0 (bV true) (kH []) 0) ∧ (kS (q : Int)) ∧ (q ≤ 64) ∧ (qM .and .i64 (k / (((2 ^ q) : Nat) : Int)) 1 = (fB (k / (((2 ^ q) : Nat) : Int)))) ∧ (((fB (k / (((2 ^ q) : Nat) : Int))) = 1)) ∧ (Fun 125 [.agg [.d (dl r rn)], iE cr] (kH []) 0 (bV true) (kH []) 0) ∧ (Fun 126 [.c (.d (D.sl (kL m) c)), .c (.d (dl cm cn))] (kH []) 0 (bV true) (kH []) 0) ∧ (Fun 125 [.agg [.d (dl s sn)], iE cz] (kH []) 0 (bV false) (kH []) 0)) [(4, bV false)] [] 2 ⟨(by have h0 := (jO (q : Int)); rw [hx1] at h0; exact h0), rfl, zo, rfl, zo, (by have h0 := (rI r rn cr zo zo); rw [hx4] at h0; exact h0), (by have h0 := (jP m c cm cn zo zo zo zo (qJ : MsW m)); rw [hx5] at h0; exact h0), (by have h0 := (rI s sn cz zo zo); rw [hx6] at h0; exact h0)⟩ ?_
      refine AW.ret ?_
      exact kB (.inr rfl) [] (P := ((gF k r rn m s sn (q : Int) cr cm cz) = false)) zk gY
    ·refine kK (.no :: .no :: .no :: .call [] (bV true) [] 0 [] none :: qN 6 (.n q :: .i (fB (k / (((2 ^ q) : Nat) : Int))) :: .b true :: qN 7 (.call [] (bV true) [] 0 [] none :: qN 7 (.call [] (bV false) [] 0 [] none :: qN 4 [])))) ((Fun 111 [uE q] (kH []) 0 (bV true) (kH []) 0) ∧ (kS (q : Int)) ∧ (q ≤ 64) ∧ (qM .and .i64 (k / (((2 ^ q) : Nat) : Int)) 1 = (fB (k / (((2 ^ q) : Nat) : Int)))) ∧ (((fB (k / (((2 ^ q) : Nat) : Int))) = 1)) ∧ (Fun 125 [.agg [.d (dl r rn)], iE cr] (kH []) 0 (bV true) (kH []) 0) ∧ (Fun 126 [.c (.d (D.sl (kL m) c)), .c (.d (dl cm cn))] (kH []) 0 (bV false) (kH []) 0)) [(4, bV false)] [] 2 ⟨(by have h0 := (jO (q : Int)); rw [hx1] at h0; exact h0), rfl, zo, rfl, zo, (by have h0 := (rI r rn cr zo zo); rw [hx4] at h0; exact h0), (by have h0 := (jP m c cm cn zo zo zo zo (qJ : MsW m)); rw [hx5] at h0; exact h0)⟩ ?_
     refine AW.ret ?_
     exact kB (.inr rfl) [] (P := ((gF k r rn m s sn (q : Int) cr cm cz) = false)) zk gY
   ·refine kK (.no :: .no :: .no :: .call [] (bV true) [] 0 [] none :: qN 6 (.n q :: .i (fB (k / (((2 ^ q) : Nat) : Int))) :: .b true :: qN 7 (.call [] (bV false) [] 0 [] none :: qN 6 []))) ((Fun 111 [uE q] (kH []) 0 (bV true) (kH []) 0) ∧ (kS (q : Int)) ∧ (q ≤ 64) ∧ (qM .and .i64 (k / (((2 ^ q) : Nat) : Int)) 1 = (fB (k / (((2 ^ q) : Nat) : Int)))) ∧ (((fB (k / (((2 ^ q) : Nat) : Int))) = 1)) ∧ (Fun 125 [.agg [.d (dl r rn)], iE cr] (kH []) 0 (bV false) (kH []) 0)) [(4, bV false)] [] 2 ⟨(by have h0 := (jO (q : Int)); rw [hx1] at h0; exact h0), rfl, zo, rfl, zo, (by have h0 := (rI r rn cr zo zo); rw [hx4] at h0; exact h0)⟩ ?_
    refine AW.ret ?_
    exact kB (.inr rfl) [] (P := ((gF k r rn m s sn (q : Int) cr cm cz) = false)) zk gY
  ·refine kK (.no :: .no :: .no :: .call [] (bV true) [] 0 [] none :: qN 6 (.n q :: .i (fB (k / (((2 ^ q) : Nat) : Int))) :: .b false :: qN 8 [])) ((Fun 111 [uE q] (kH []) 0 (bV true) (kH []) 0) ∧ (kS (q : Int)) ∧ (q ≤ 64) ∧ (qM .and .i64 (k / (((2 ^ q) : Nat) : Int)) 1 = (fB (k / (((2 ^ q) : Nat) : Int)))) ∧ (¬ ((fB (k / (((2 ^ q) : Nat) : Int))) = 1))) [(4, bV false)] [] 2 ⟨(by have h0 := (jO (q : Int)); rw [hx1] at h0; exact h0), rfl, zo, rfl, zo⟩ ?_
   refine AW.ret ?_
   exact kB (.inr rfl) [] (P := ((gF k r rn m s sn (q : Int) cr cm cz) = false)) zk gY
 ·have hx7 : ¬ (((1 : Int) ≤ ((q : Nat) : Int)) ∧ (((q : Nat) : Int) ≤ 7)) := of_decide_eq_false hx1
  refine kK (.no :: .no :: .no :: .call [] (bV false) [] 0 [] none :: qN 9 []) (Fun 111 [uE q] (kH []) 0 (bV false) (kH []) 0) [(4, bV false)] [] 2 (by have h0 := (jO (q : Int)); rw [hx1] at h0; exact h0) ?_
  refine AW.ret ?_
  exact kB (.inr rfl) [] (P := ((gF k r rn m s sn (q : Int) cr cm cz) = false)) zk gY
theorem v2n (k : Int) (r : List Int) (rn : Nat) (m : List (List Int)) (c : Nat) (s : List Int) (sn : Nat) (ck cr : Int) (cm : List Int) (cn : Nat) (cz : Int) (hr : ka0 r = rn * 2) (hs : ka0 s = sn * 2) (hc : ka0 m = c) (h1 : rn ≤ 1000000) (h2 : sn ≤ 1000000) (h3 : c ≤ 1000000) (hW : MsW m) (hm : ka0 cm = cn) (h4 : cn ≤ 1000000) (hq : ¬ (1 ≤ ck ∧ ck ≤ 7)) : Fun 86 [.agg [iC k, .d (D.sl (dI .i64 r) rn), .d (D.sl (kL m) c), .d (D.sl (dI .i64 s) sn)], .agg [iC ck, iC cr, .d (D.sl (dI .i64 cm) cn), iC cz]] (kH []) 0 (yM (D.lit (.bool (gF k r rn m s sn ck cr cm cz)))) (kH []) 0 := by
 refine Fun.mk (n := 42) Tryz.func86 rfl rfl (ka4 rfl) ?_
 intro cx hcx
 refine kK [.no, .no, .no] True [(2, rV 0 0), (3, rV 1 0)] [(0, some (63, .ds [iD k, dl r rn, D.sl (kL m) c, dl s sn])), (1, some (42, .ds [iD ck, iD cr, dl cm cn, iD cz]))] 2 trivial ?_
 refine kK (.no :: .no :: .no :: .call [] (bV false) [] 0 [] none :: qN 9 []) _ [(4, bV false)] [] 2 (Fun.y (jO ck) (y' := bV false) (congrArg (fun b => LV (.bool b)) (decide_eq_false zo))) ?_
 refine AW.ret ?_
 exact kB (.inr rfl) [] (P := ((gF k r rn m s sn ck cr cm cz) = false)) zk gY
theorem v4k (k : Int) (r : List Int) (rn : Nat) (m : List (List Int)) (c : Nat) (s : List Int) (sn : Nat) (ck cr : Int) (cm : List Int) (cn : Nat) (cz : Int) (hr : ka0 r = rn * 2) (hs : ka0 s = sn * 2) (hc : ka0 m = c) (h1 : rn ≤ 1000000) (h2 : sn ≤ 1000000) (h3 : c ≤ 1000000) (hW : MsW m) (hm : ka0 cm = cn) (h4 : cn ≤ 1000000) : Fun 86 [.agg [iC k, .d (D.sl (dI .i64 r) rn), .d (D.sl (kL m) c), .d (D.sl (dI .i64 s) sn)], .agg [iC ck, iC cr, .d (D.sl (dI .i64 cm) cn), iC cz]] (kH []) 0 (yM (D.lit (.bool (gF k r rn m s sn ck cr cm cz)))) (kH []) 0 := by
 by_cases h9 : 1 ≤ ck ∧ ck ≤ 7
 ·obtain ⟨q, rfl⟩ : ∃ q : Nat, ck = (q : Int) := ⟨Int.toNat ck, by omega⟩
  exact v2o k r rn m c s sn q cr cm cn cz hr hs hc h1 h2 h3 hW hm h4 (by omega)
 ·exact v2n k r rn m c s sn ck cr cm cn cz hr hs hc h1 h2 h3 hW hm h4 h9
theorem k3p (k : Int) (r : List Int) (rn : Nat) (m : List (List Int)) (c : Nat) (s : List Int) (sn : Nat) (ck cr : Int) (cm : List Int) (cn : Nat) (cz : Int) (hr : ka0 r = rn * 2) (hs : ka0 s = sn * 2) (hc : ka0 m = c) (h1 : rn ≤ 1000000) (h2 : sn ≤ 1000000) (h3 : c ≤ 1000000) (hW : MsW m) (hm : ka0 cm = cn) (h4 : cn ≤ 1000000) : Fun 85 [.agg [iC k, .d (D.sl (dI .i64 r) rn), .d (D.sl (kL m) c), .d (D.sl (dI .i64 s) sn)], .c (.ptr 0 0)] (kH [(0, some (42, .ds [iD ck, iD cr, D.sl (dI .i64 cm) cn, iD cz]))]) 1 (yM (D.lit (.bool (gF k r rn m s sn ck cr cm cz)))) (kH [(0, some (42, .ds [iD ck, iD cr, D.sl (dI .i64 cm) cn, iD cz]))]) 1 := by
 refine Fun.mk (n := 7) Tryz.func85 rfl rfl (ka4 rfl) ?_
 intro cx hcx
 refine kK [.no, .no] True [(1, rV 0 0), (2, rV 1 0)] [(0, some (42, .ds [iD ck, iD cr, dl cm cn, iD cz])), (1, some (63, .ds [iD k, dl r rn, D.sl (kL m) c, dl s sn]))] 2 trivial ?_
 refine kK [.no, .no, .call [] (yM (D.lit (.bool (gF k r rn m s sn ck cr cm cz)))) [] 0 [] none, .no] _ [(3, yM (D.lit (.bool (gF k r rn m s sn ck cr cm cz))))] [(0, some (42, .ds [iD ck, iD cr, dl cm cn, iD cz]))] 2 (v4k k r rn m c s sn ck cr cm cn cz zo zo zo zo zo zo (qJ : MsW m) zo zo) ?_
 refine AW.ret ?_
 exact kB (.inr rfl) [] (P := ((gF k r rn m s sn ck cr cm cz) = (gF k r rn m s sn ck cr cm cz)) ∧ (kN [iD ck, iD cr, dl cm cn, iD cz])) zk ⟨rfl, rfl⟩
abbrev vO (ck : Int) (cr : Int) (cm : List Int) (cn : Nat) (cz : Int) : BC := .ds [iD ck, iD cr, D.sl (dI .i64 cm) cn, iD cz]
theorem u5m (bs : List Bx) (n : Nat) (ck cr : Int) (cm : List Int) (cn : Nat) (cz : Int) (hn : ka0 bs = n) (h1 : n ≤ 1000000) (hW : BsW bs) (hm : ka0 cm = cn) (h4 : cn ≤ 1000000) : Fun 124 [.c (.d (D.sl (kV bs) n)), .c (.fn 85 [(0, 0)])] (kH [(0, some (42, .ds [iD ck, iD cr, D.sl (dI .i64 cm) cn, iD cz]))]) 1 (iV (biK bs ck cr cm cz n)) (kH [(0, some (42, .ds [iD ck, iD cr, D.sl (dI .i64 cm) cn, iD cz]))]) 1 := by
 refine Fun.mk (n := 19) Tryz.func124 rfl rfl (ka4 rfl) ?_
 intro cx hcx
 refine kK [.no] True [(0, .e (qC bs n)), (1, .e (.c (.fn 85 [(0, 0)])))] [(0, some (42, (vO ck cr cm cn cz)))] 1 trivial ?_
 refine AW.seq ?_
 refine kT [.no, .no, .no] True [(0, .e (qC bs n)), (1, .e (.c (.fn 85 [(0, 0)]))), (7, uV n), (8, iV 0)] trivial ?_
 refine AW.block ?_
 refine qH 1 hcx (fun (x : {x : Nat // match x with | k => (k ≤ n) ∧ (biK bs ck cr cm cz k = -1)}) => match x with | ⟨k, _⟩ => (⟨[(0, .e (qC bs n)), (1, .e (.c (.fn 85 [(0, 0)]))), (7, uV n), (8, uV k)], [(0, some (42, (vO ck cr cm cn cz)))], 1⟩ : ES)) (fun x => match x with | ⟨k, _⟩ => n - k) ⟨(0 : Nat), ⟨fH, rfl⟩⟩ [] (P := (kN (kV bs)) ∧ (kJ n) ∧ (kS (n : Int)) ∧ (kS 0) ∧ (kN [iD ck, iD cr, dl cm cn, iD cz])) zk ⟨rfl, rfl, rfl, rfl, rfl⟩ ?_
 rintro ⟨k, hinv0⟩
 obtain ⟨hk, hi⟩ : (k ≤ n) ∧ (biK bs ck cr cm cz k = -1) := hinv0
 refine uL (l := [(0, .e (qC bs n)), (1, .e (.c (.fn 85 [(0, 0)]))), (7, uV n), (8, uV k)]) (g := [(0, some (42, (vO ck cr cm cn cz)))]) (nx := 1) rfl rfl rfl ?_
 by_cases hx1 : (((k : Nat) : Int) < ((n : Nat) : Int))
 ·refine kK [.b true] (((k : Int) < (n : Int))) [(0, .e (qC bs n)), (1, .e (.c (.fn 85 [(0, 0)]))), (7, uV n), (8, uV k), (9, bV true)] [(0, some (42, (vO ck cr cm cn cz)))] 1 zo ?_
  refine AW.seq ?_
  refine vR ?_
  refine AW.seq ?_
  refine AW.block ?_
  refine kT [.no, .no] True [(0, .e (qC bs n)), (1, .e (.c (.fn 85 [(0, 0)]))), (5, uV k), (7, uV n), (8, uV k)] trivial ?_
  rcases kb3 (gF (kU bs k) (qG bs k) (qA bs k) (kX bs k) (qF bs k) (k9 bs k) ck cr cm cz) with hx7 | hx7
  ·obtain ⟨hx8, hx9, hx10, hx11, hx12⟩ := BsW.at (qJ : BsW bs) (k)
   refine kK [.no, .no, .no, .n k, .ds (y3 bs k), .call [0] (bV true) [(0, some (42, (vO ck cr cm cn cz)))] 1 [] none] ((kS (k : Int)) ∧ (k < n) ∧ (ka5 4 (ka3 (k * 4) (kV bs)) = (y3 bs k)) ∧ (((y3 bs k) : List D).length = 4) ∧ (Fun 85 [(oW bs k), .c (.ptr 0 0)] (kH [(0, some (42, (vO ck cr cm cn cz)))]) 1 (bV true) (kH [(0, some (42, (vO ck cr cm cn cz)))]) 1)) [(0, .e (qC bs n)), (1, .e (.c (.fn 85 [(0, 0)]))), (5, uV k), (7, uV n), (8, uV k), (16, bV true)] [(0, some (42, (vO ck cr cm cn cz)))] 1 ⟨rfl, zo, (vQ gX), rfl, (by have h0 := (k3p (kU bs k) (qG bs k) (qA bs k) (kX bs k) (ka0 (kX bs k)) (qF bs k) (k9 bs k) ck cr cm cn cz uZ uZ rfl uZ uZ uZ (BsW.ms (qJ : BsW bs) _) zo zo); rw [hx7] at h0; exact h0)⟩ ?_
   refine zt ?_
   refine kT [.no, .no] True [(4, uV k)] trivial ?_
   refine AW.ret ?_
   exact kB (.inr rfl) [] (P := (((biK bs ck cr cm cz n) : Int) = (k : Int)) ∧ (kN [iD ck, iD cr, dl cm cn, iD cz])) zk ⟨(by first | rfl | exact u50 hi (by assumption) zo | (rw [show n = k by omega]; exact hi) | omega), rfl⟩
  ·obtain ⟨hx13, hx14, hx15, hx16, hx17⟩ := BsW.at (qJ : BsW bs) (k)
   refine kK [.no, .no, .no, .n k, .ds (y3 bs k), .call [0] (bV false) [(0, some (42, (vO ck cr cm cn cz)))] 1 [] none] ((kS (k : Int)) ∧ (k < n) ∧ (ka5 4 (ka3 (k * 4) (kV bs)) = (y3 bs k)) ∧ (((y3 bs k) : List D).length = 4) ∧ (Fun 85 [(oW bs k), .c (.ptr 0 0)] (kH [(0, some (42, (vO ck cr cm cn cz)))]) 1 (bV false) (kH [(0, some (42, (vO ck cr cm cn cz)))]) 1)) [(0, .e (qC bs n)), (1, .e (.c (.fn 85 [(0, 0)]))), (5, uV k), (7, uV n), (8, uV k), (16, bV false)] [(0, some (42, (vO ck cr cm cn cz)))] 1 ⟨rfl, zo, (vQ gX), rfl, (by have h0 := (k3p (kU bs k) (qG bs k) (qA bs k) (kX bs k) (ka0 (kX bs k)) (qF bs k) (k9 bs k) ck cr cm cn cz uZ uZ rfl uZ uZ uZ (BsW.ms (qJ : BsW bs) _) zo zo); rw [hx7] at h0; exact h0)⟩ ?_
   refine yA ?_
   refine yT [.w, .no] (yQ ((k : Int) + 1)) [(0, .e (qC bs n)), (1, .e (.c (.fn 85 [(0, 0)]))), (7, uV n), (8, iV (↑k + 1))] ⟨by omega, by omega⟩ ?_
   exact qE ⟨((k + 1) : Nat), ⟨fH, (v22 hi (by assumption))⟩⟩ [] (P := (kN (kV bs)) ∧ (kJ n) ∧ (kS (n : Int)) ∧ (c7 k) ∧ (kN [iD ck, iD cr, dl cm cn, iD cz])) zk ⟨rfl, rfl, rfl, rS, rfl⟩ (show n - (k + 1) < n - k from (by first | omega | (show _ < _; simp; omega)))
 ·refine kK [.b false] (¬ ((k : Int) < (n : Int))) [(0, .e (qC bs n)), (1, .e (.c (.fn 85 [(0, 0)]))), (7, uV n), (8, uV k), (9, bV false)] [(0, some (42, (vO ck cr cm cn cz)))] 1 zo ?_
  refine AW.seq ?_
  refine zf ?_
  refine AW.exit ?_
  refine kK [.no] True [(4, iV (-1))] [(0, some (42, (vO ck cr cm cn cz)))] 1 trivial ?_
  refine AW.ret ?_
  exact kB (.inr rfl) [] (P := (((biK bs ck cr cm cz n) : Int) = (-1)) ∧ (kN [iD ck, iD cr, dl cm cn, iD cz])) zk ⟨(by first | rfl | exact u50 hi (by assumption) zo | (rw [show n = k by omega]; exact hi) | omega), rfl⟩
theorem v2m (bs : List Bx) (n : Nat) (ck cr : Int) (cm : List Int) (cn : Nat) (cz : Int) (hn : ka0 bs = n) (h1 : n ≤ 1000000) (hW : BsW bs) (hm : ka0 cm = cn) (h4 : cn ≤ 1000000) : Fun 84 [.c (.d (D.sl (kV bs) n)), .c (.fn 85 [(0, 0)])] (kH [(0, some (42, .ds [iD ck, iD cr, D.sl (dI .i64 cm) cn, iD cz]))]) 1 (yM (D.lit (.bool (haB bs ck cr cm cz)))) (kH [(0, some (42, .ds [iD ck, iD cr, D.sl (dI .i64 cm) cn, iD cz]))]) 1 := by
 refine Fun.mk (n := 9) Tryz.func84 rfl rfl (ka4 rfl) ?_
 intro cx hcx
 refine kK [.no] True [(0, .e (qC bs n)), (1, .e (.c (.fn 85 [(0, 0)])))] [(0, some (42, .ds [iD ck, iD cr, dl cm cn, iD cz]))] 1 trivial ?_
 by_cases hx1 : ((0 : Int) ≤ (biK bs ck cr cm cz n))
 ·refine kT [.no, .no, .call [0] (iV (biK bs ck cr cm cz n)) [(0, some (42, .ds [iD ck, iD cr, dl cm cn, iD cz]))] 1 [] none, .b true, .no] ((_) ∧ (((0 : Int) ≤ (biK bs ck cr cm cz n)))) [(4, bV true)] ⟨(u5m bs n ck cr cm cn cz zo zo (qJ : BsW bs) zo zo), zo⟩ ?_
  refine AW.ret ?_
  exact kB (.inr rfl) [] (P := ((haB bs ck cr cm cz) = true) ∧ (kN [iD ck, iD cr, dl cm cn, iD cz])) zk ⟨(by first | exact v13 hn zo | exact v14 hn zo), rfl⟩
 ·refine kT [.no, .no, .call [0] (iV (biK bs ck cr cm cz n)) [(0, some (42, .ds [iD ck, iD cr, dl cm cn, iD cz]))] 1 [] none, .b false, .no] ((_) ∧ (¬ ((0 : Int) ≤ (biK bs ck cr cm cz n)))) [(4, bV false)] ⟨(u5m bs n ck cr cm cn cz zo zo (qJ : BsW bs) zo zo), zo⟩ ?_
  refine AW.ret ?_
  exact kB (.inr rfl) [] (P := ((haB bs ck cr cm cz) = false) ∧ (kN [iD ck, iD cr, dl cm cn, iD cz])) zk ⟨(by first | exact v13 hn zo | exact v14 hn zo), rfl⟩
theorem u5o (bs : List Bx) (n : Nat) (ck cr : Int) (cm : List Int) (cn : Nat) (cz : Int) (hn : ka0 bs = n) (h1 : n ≤ 1000000) (hW : BsW bs) (hm : ka0 cm = cn) (h4 : cn ≤ 1000000) : Fun 53 [.c (.d (D.sl (kV bs) n)), .agg [iC ck, iC cr, .d (D.sl (dI .i64 cm) cn), iC cz]] (kH []) 0 (yM (D.lit (.bool (haB (kM bs) ck cr cm cz)))) (kH []) 0 := by
 refine Fun.mk (n := 9) Tryz.func53 rfl rfl (ka4 rfl) ?_
 intro cx hcx
 refine kK [.no, .no] True [(0, .e (qC bs n)), (3, rV 0 0)] [(0, some (42, .ds [iD ck, iD cr, dl cm cn, iD cz]))] 1 trivial ?_
 have hx1 : ((ka0 (kM bs)) ≤ n) := (by have h9 := lN bs; omega)
 refine kK [.no, .call [] (.e (vA (kM bs))) [] 0 [] none, .no, .call [0] (yM (D.lit (.bool (haB (kM bs) ck cr cm cz)))) [(0, some (42, .ds [iD ck, iD cr, dl cm cn, iD cz]))] 1 [] none, .no] ((_) ∧ (_)) [(4, yM (D.lit (.bool (haB (kM bs) ck cr cm cz))))] [] 1 ⟨(jQ bs n zo zo (qJ : BsW bs)), (v2m (kM bs) (ka0 (kM bs)) ck cr cm cn cz rfl uZ (eF (qJ : BsW bs)) zo zo)⟩ ?_
 refine AW.ret ?_
 exact kB (.inr rfl) [] (P := ((haB (kM bs) ck cr cm cz) = (haB (kM bs) ck cr cm cz))) zk rfl
end Go.Proofs.YtbicifcgghmhaaaGreat
