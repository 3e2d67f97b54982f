/- Boxes of the code. No statement is proved here. -/
import Derived.Test.YtcfmjpnffembpaaGreatZL10D
namespace Go.Proofs.YtcfmjpnffembpaaGreat
open Go.ChangeShapes Go.WideShapes Go.ChangeAt Go.RowKit
open Bool renaming and_false → kd7, eq_false_or_eq_true → kb2, false_and → kj2
open List renaming drop → ka4, getD → ka1, length → ka0, length_append → ka6, length_cons → ka8, length_drop → kb0, length_nil → kb3, length_take → ka9, take → ka3
open Nat renaming le_of_ble_eq_true → ka5, lt_succ_self → ki9, not_lt_zero → kd3
set_option linter.unusedVariables false
set_option linter.unusedSimpArgs false
/-! chapter 10: the code's lists of boxes -/
set_option maxHeartbeats 4000000
set_option maxRecDepth 100000
def wU (p : Nat → Bool) : Nat → Int
 | 0 => -1
 | k + 1 => if 0 ≤ wU p k then wU p k else if p k = true then (k : Int) else -1
theorem i6 {p : Nat → Bool} {k : Nat} (h : wU p k = -1) (h2 : p k = false) : wU p (k + 1) = -1 := by
 show (if 0 ≤ wU p k then _ else _) = _
 rw [if_neg (by omega), if_neg (by rw [h2]; decide)]
theorem lM {p : Nat → Bool} {k : Nat} (h : wU p k = -1) (h2 : p k = true) : ∀ n, k < n → wU p n = (k : Int)
 | 0, h3 => absurd h3 (kd3 k)
 | n + 1, h3 => by
  show (if 0 ≤ wU p n then _ else _) = _
  by_cases e : k = n
  ·subst e; rw [if_neg (by omega), if_pos h2]
  ·have h4 := lM h h2 n (by omega)
   rw [if_pos (by omega), h4]
theorem sM (p : Nat → Bool) : ∀ n, (wU p n = -1 ∧ ∀ j, j < n → p j = false) ∨ ∃ k, k < n ∧ wU p n = (k : Int) ∧ p k = true
 | 0 => .inl ⟨rfl, fun j h => absurd h (kd3 j)⟩
 | n + 1 => by
  rcases sM p n with ⟨h1, h2⟩ | ⟨k, hk, h1, h2⟩
  ·cases e : p n with
   | false => exact .inl ⟨i6 h1 e, fun j hj => (Nat.lt_succ_iff_lt_or_eq.1 hj).elim (h2 j) fun e9 => e9 ▸ e⟩
   | true => exact .inr ⟨n, ki9 n, lM h1 e _ (ki9 n), e⟩
  ·refine .inr ⟨k, by omega, ?_, h2⟩
   show (if 0 ≤ wU p n then _ else _) = _
   rw [if_pos (by omega)]; exact h1
theorem k1u {p : Nat → Bool} {n : Nat} (h : 0 ≤ wU p n) : ∃ k, k < n ∧ p k = true := by
 rcases sM p n with ⟨h1, _⟩ | ⟨k, hk, _, h2⟩
 ·omega
 ·exact ⟨k, hk, h2⟩
theorem sN {p : Nat → Bool} {n : Nat} (h : ¬ 0 ≤ wU p n) : ∀ j, j < n → p j = false := by
 rcases sM p n with ⟨_, h2⟩ | ⟨k, hk, h1, _⟩
 ·exact h2
 ·omega
def xT (ms : List (List Int)) (m : List Int) : Nat → Int := wU fun j => vQ (ka1 ms j []) m
theorem u0k {ms : List (List Int)} {m : List Int} {c : Nat} (hc : ms.length = c) (h : 0 ≤ xT ms m c) : iY ms m = true := by
 obtain ⟨k, hk, h1⟩ := k1u h
 exact u2g (k := k) (by omega) h1
theorem u0m {ms : List (List Int)} {m : List Int} {c : Nat} (hc : ms.length = c) (h : ¬ 0 ≤ xT ms m c) : iY ms m = false :=
 u2h fun j hj => sN h j (by omega)
def tO (bs : List Bx) : Nat → Int := wU fun j => !(vbE bs j)
theorem u3t {bs : List Bx} {n : Nat} (hn : bs.length = n) (h : 0 ≤ tO bs n) : hY bs = false := by
 obtain ⟨k, hk, h1⟩ := k1u h
 exact k7z (k := k) (by omega) (by simpa using h1)
theorem u3v {bs : List Bx} {n : Nat} (hn : bs.length = n) (h2 : n ≤ 64) (h : ¬ 0 ≤ tO bs n) : hY bs = true :=
 k3s (by omega) fun j hj => by
  have h3 := sN h j (by omega)
  simpa using h3
def kjB (b q : Int) : Bool := decide (1 ≤ q ∧ q ≤ 7) && xR b q.toNat
theorem u73 {b q : Int} (h : ¬ (1 ≤ q ∧ q ≤ 7)) : kjB b q = false := by unfold kjB; rw [decide_eq_false h]; rfl
theorem u4z {b : Int} {q : Nat} : kjB b (q : Int) = xR b q := by
 unfold kjB
 rw [Int.toNat_natCast]
 by_cases h : 1 ≤ q ∧ q ≤ 7
 ·rw [decide_eq_true (by omega : 1 ≤ (q : Int) ∧ (q : Int) ≤ 7)]; rfl
 ·rw [decide_eq_false (by omega : ¬ (1 ≤ (q : Int) ∧ (q : Int) ≤ 7))]
  exact (decide_eq_false fun e => h ⟨e.1, e.2.1⟩).symm
def jC (k : Int) (r : List Int) (rn : Nat) (m : List (List Int)) (s : List Int) (sn : Nat) (ck cr : Int) (cm : List Int) (cz : Int) : Bool := kjB k ck && (oE (kB r rn) cr && (iY m cm && oE (kB s sn) cz))
def biE (bs : List Bx) (ck cr : Int) (cm : List Int) (cz : Int) (i : Nat) : Bool := jC (qJ bs i) (qR bs i) (qM bs i) (kY bs i) (qS bs i) (qN bs i) ck cr cm cz
def haB (bs : List Bx) (ck cr : Int) (cm : List Int) (cz : Int) : Bool := decide (∃ i, i < bs.length ∧ biE bs ck cr cm cz i = true)
def xW (bs : List Bx) (ck cr : Int) (cm : List Int) (cz : Int) : Nat → Int := wU (biE bs ck cr cm cz)
theorem u57 {bs : List Bx} {ck cr : Int} {cm : List Int} {cz : Int} {n : Nat} (hn : bs.length = n) (h : 0 ≤ xW bs ck cr cm cz n) : haB bs ck cr cm cz = true := by
 obtain ⟨k, hk, h1⟩ := k1u h
 exact decide_eq_true ⟨k, by omega, h1⟩
theorem u58 {bs : List Bx} {ck cr : Int} {cm : List Int} {cz : Int} {n : Nat} (hn : bs.length = n) (h : ¬ 0 ≤ xW bs ck cr cm cz n) : haB bs ck cr cm cz = false :=
 decide_eq_false fun ⟨j, hj, e⟩ => by
  have := sN h j (by omega); rw [e] at this; cases this
theorem u76 {k : Int} {r : List Int} {rn : Nat} {m : List (List Int)} {s : List Int} {sn : Nat} {ck cr : Int} {cm : List Int} {cz : Int} (h1 : kjB k ck = true) (h2 : oE (kB r rn) cr = true) (h3 : iY m cm = true) (h4 : oE (kB s sn) cz = true) : jC k r rn m s sn ck cr cm cz = true := by
 unfold jC; rw [h1, h2, h3, h4]; rfl
theorem u5m {k : Int} {r : List Int} {rn : Nat} {m : List (List Int)} {s : List Int} {sn : Nat} {ck cr : Int} {cm : List Int} {cz : Int} (h1 : kjB k ck = false) : jC k r rn m s sn ck cr cm cz = false := by
 unfold jC; rw [h1]; rfl
theorem u78 {k : Int} {r : List Int} {rn : Nat} {m : List (List Int)} {s : List Int} {sn : Nat} {ck cr : Int} {cm : List Int} {cz : Int} (h2 : oE (kB r rn) cr = false) : jC k r rn m s sn ck cr cm cz = false := by
 unfold jC; rw [h2, kj2, kd7]
theorem u79 {k : Int} {r : List Int} {rn : Nat} {m : List (List Int)} {s : List Int} {sn : Nat} {ck cr : Int} {cm : List Int} {cz : Int} (h3 : iY m cm = false) : jC k r rn m s sn ck cr cm cz = false := by
 unfold jC; rw [h3, kj2, kd7, kd7]
theorem u77 {k : Int} {r : List Int} {rn : Nat} {m : List (List Int)} {s : List Int} {sn : Nat} {ck cr : Int} {cm : List Int} {cz : Int} (h4 : oE (kB s sn) cz = false) : jC k r rn m s sn ck cr cm cz = false := by
 unfold jC; rw [h4, kd7, kd7, kd7]
def uP (a b : List (List Int)) : Nat → List (List Int)
 | 0 => []
 | i + 1 => if iY b (ka1 a i []) = true then uP a b i ++ [ka1 a i []] else uP a b i
theorem k1z {a b o : List (List Int)} {i : Nat} (h : uP a b i = o) (h1 : iY b (ka1 a i []) = true) : uP a b (i + 1) = o ++ [ka1 a i []] := by subst h; exact if_pos h1
theorem k20 {a b o : List (List Int)} {i : Nat} (h : uP a b i = o) (h1 : iY b (ka1 a i []) = false) : uP a b (i + 1) = o := by subst h; exact if_neg (by rw [h1]; decide)
theorem k0c (a b : List (List Int)) : ∀ i, ka0 (uP a b i) ≤ i
 | 0 => Nat.le_refl _
 | i + 1 => by
  have := k0c a b i
  rw [uP]; split
  ·rw [ka6, List.length_singleton]; omega
  ·omega
theorem u56 {ms : List (List Int)} {m : List Int} {k : Nat} (h : xT ms m k = -1) (h2 : vQ (ka1 ms k []) m = false) : xT ms m (k + 1) = -1 := i6 h h2
theorem u0l {ms : List (List Int)} {m : List Int} {k : Nat} (h : xT ms m k = -1) (h2 : vQ (ka1 ms k []) m = true) {n : Nat} (hn : k < n) : xT ms m n = (k : Int) := lM h h2 n hn
def nxB (k : Int) (r : List Int) (rn : Nat) (m : List (List Int)) (s : List Int) (sn : Nat) : Bool := !(eK k r rn m s sn)
theorem u4k {k : Int} {r : List Int} {rn : Nat} {m : List (List Int)} {s : List Int} {sn : Nat} (h : eK k r rn m s sn = false) : nxB k r rn m s sn = true := by unfold nxB; rw [h]; rfl
theorem u4l {k : Int} {r : List Int} {rn : Nat} {m : List (List Int)} {s : List Int} {sn : Nat} (h : eK k r rn m s sn = true) : nxB k r rn m s sn = false := by unfold nxB; rw [h]; rfl
theorem u3u {bs : List Bx} {k : Nat} (h : tO bs k = -1) (h2 : nxB (qJ bs k) (qR bs k) (qM bs k) (kY bs k) (qS bs k) (qN bs k) = false) : tO bs (k + 1) = -1 := i6 h h2
theorem u0c {bs : List Bx} {k : Nat} (h : tO bs k = -1) (h2 : nxB (qJ bs k) (qR bs k) (qM bs k) (kY bs k) (qS bs k) (qN bs k) = true) {n : Nat} (hn : k < n) : tO bs n = (k : Int) := lM h h2 n hn
def naB (bs : List Bx) (n : Nat) : Bool := decide (0 ≤ tO bs n)
theorem u24 {bs : List Bx} {n : Nat} (hn : bs.length = n) (h : naB bs n = true) : hY bs = false := u3t hn (of_decide_eq_true h)
theorem u23 {bs : List Bx} {n : Nat} (hn : bs.length = n) (h2 : n ≤ 64) (h : naB bs n = false) : hY bs = true := u3v hn h2 (of_decide_eq_false h)
theorem u71 {b : Int} {q : Nat} (h1 : 1 ≤ q ∧ q ≤ 7) (h : uG (b / ((2 ^ q : Nat) : Int)) = 1) : kjB b (q : Int) = true := by
 rw [u4z]; exact decide_eq_true ⟨h1.1, h1.2, h⟩
theorem u72 {b : Int} {q : Nat} (h : ¬ uG (b / ((2 ^ q : Nat) : Int)) = 1) : kjB b (q : Int) = false := by
 rw [u4z]; exact decide_eq_false fun e => h e.2.2
theorem u5n {bs : List Bx} {ck cr : Int} {cm : List Int} {cz : Int} {k : Nat} (h : xW bs ck cr cm cz k = -1) (h2 : jC (qJ bs k) (qR bs k) (qM bs k) (kY bs k) (qS bs k) (qN bs k) ck cr cm cz = false) : xW bs ck cr cm cz (k + 1) = -1 := i6 h h2
theorem u12 {bs : List Bx} {ck cr : Int} {cm : List Int} {cz : Int} {k : Nat} (h : xW bs ck cr cm cz k = -1) (h2 : jC (qJ bs k) (qR bs k) (qM bs k) (kY bs k) (qS bs k) (qN bs k) ck cr cm cz = true) {n : Nat} (hn : k < n) : xW bs ck cr cm cz n = (k : Int) := lM h h2 n hn
theorem k7t (w a : List Int) (o n : Nat) (ho : ka0 w = o) (hn : ka0 a = n) (h1 : o ≤ 1000000) (h2 : n ≤ 1000000) : Fun 136 [.c (.d (D.sl (dI .i64 a) n)), .c (.ptr 0 0)] (kK [(0, some (23, .ds [D.sl (dI .i64 w) o]))]) 1 (qY (D.lit (.bool (vQ a w)))) (kK [(0, some (23, .ds [D.sl (dI .i64 w) o]))]) 1 := by
 refine Fun.mk (n := 7) Tryz.func136 rfl rfl (ka5 rfl) ?_
 intro cx hcx
 refine kL [.no] True [(0, sV .i64 a n), (1, rV 0 0)] [(0, some (23, .ds [dl w o]))] 1 trivial ?_
 refine kP [.no, .no, .call [] (qY (D.lit (.bool (vQ a w)))) [] 0 [] none, .no] _ [(3, qY (D.lit (.bool (vQ a w))))] (k0e a w n o zo zo zo zo) ?_
 refine AW.ret ?_
 exact kD (.inr rfl) [] (P := ((vQ a w) = (vQ a w)) ∧ (kM [dl w o])) zk ⟨rfl, rfl⟩
theorem eO {p : Prop} (h : p := by first | omega | assumption | simp) : p := h
theorem gQ {p : Prop} (h : p := by first | omega | (simp only [qC, qB, ka6, ka8, kb3, ka9, kb0] <;> omega)) : p := h
theorem uO {p : Prop} (h : p := by first | omega | with_reducible assumption | (simp only [qC, qB, ka6, ka8, kb3, ka9, kb0, List.length_replicate, List.length_set] <;> omega) | rfl | assumption) : p := h
theorem pZ {p : Prop} (h : p := by first | rfl | omega | assumption | (simp; done) | (simp; omega)) : p := h
theorem u1f (ms : List (List Int)) (c : Nat) (w : List Int) (o : Nat) (hc : ka0 ms = c) (ho : ka0 w = o) (h1 : c ≤ 1000000) (h2 : o ≤ 1000000) (hW : MsW ms) : Fun 146 [.c (.d (D.sl (kJ ms) c)), .c (.fn 136 [(0, 0)])] (kK [(0, some (23, .ds [D.sl (dI .i64 w) o]))]) 1 (iV (xT ms w c)) (kK [(0, some (23, .ds [D.sl (dI .i64 w) o]))]) 1 := by
 refine Fun.mk (n := 19) Tryz.func146 rfl rfl (ka5 rfl) ?_
 intro cx hcx
 refine kL [.no] True [(0, kI (kJ ms) c), (1, .e (.c (.fn 136 [(0, 0)])))] [(0, some (23, .ds [dl w o]))] 1 trivial ?_
 refine AW.seq ?_
 refine kP [.no, .no, .no] True [(0, kI (kJ ms) c), (1, .e (.c (.fn 136 [(0, 0)]))), (7, uV c), (8, iV 0)] trivial ?_
 refine AW.block ?_
 refine kZ 1 hcx (fun (x : {x : Nat // match x with | k => (k ≤ c) ∧ (xT ms w k = -1)}) => match x with | ⟨k, _⟩ => (⟨[(0, kI (kJ ms) c), (1, .e (.c (.fn 136 [(0, 0)]))), (7, uV c), (8, uV k)], [(0, some (23, .ds [dl w o]))], 1⟩ : ES)) (fun x => match x with | ⟨k, _⟩ => c - k) ⟨(0 : Nat), ⟨eO, rfl⟩⟩ [] (P := (kM (kJ ms)) ∧ (kH c) ∧ (kO (c : Int)) ∧ (kO 0) ∧ (kM [dl w o])) zk ⟨rfl, rfl, rfl, rfl, rfl⟩ ?_
 rintro ⟨k, hinv0⟩
 obtain ⟨hk, hi⟩ : (k ≤ c) ∧ (xT ms w k = -1) := hinv0
 refine qT (l := [(0, kI (kJ ms) c), (1, .e (.c (.fn 136 [(0, 0)]))), (7, uV c), (8, uV k)]) (g := [(0, some (23, .ds [dl w o]))]) (nx := 1) rfl rfl rfl ?_
 by_cases hx1 : (((k : Nat) : Int) < ((c : Nat) : Int))
 ·refine kL [.b true] (((k : Int) < (c : Int))) [(0, kI (kJ ms) c), (1, .e (.c (.fn 136 [(0, 0)]))), (7, uV c), (8, uV k), (9, bV true)] [(0, some (23, .ds [dl w o]))] 1 zo ?_
  refine AW.seq ?_
  refine vP ?_
  refine AW.seq ?_
  refine AW.block ?_
  refine kP [.no, .no] True [(0, kI (kJ ms) c), (1, .e (.c (.fn 136 [(0, 0)]))), (5, uV k), (7, uV c), (8, uV k)] trivial ?_
  rcases kb2 (vQ (ka1 ms k ([] : List Int)) w) with hx3 | hx3
  ·have hx4 : ((ka0 (ka1 ms k ([] : List Int))) ≤ 1000000) := MsW.at (qF : MsW ms) _
   refine kP [.no, .no, .no, .n k, .d (dl (ka1 ms k ([] : List Int)) (ka0 (ka1 ms k ([] : List Int)))), .call [0] (bV true) [(0, some (23, .ds [dl w o]))] 1 [] none] ((kO (k : Int)) ∧ (k < c) ∧ ((ka4 k (kJ ms))[0]? = some (dl (ka1 ms k ([] : List Int)) (ka0 (ka1 ms k ([] : List Int))))) ∧ (Fun 136 [.c (.d (dl (ka1 ms k ([] : List Int)) (ka0 (ka1 ms k ([] : List Int))))), .c (.ptr 0 0)] (kK [(0, some (23, .ds [dl w o]))]) 1 (bV true) (kK [(0, some (23, .ds [dl w o]))]) 1)) [(0, kI (kJ ms) c), (1, .e (.c (.fn 136 [(0, 0)]))), (5, uV k), (7, uV c), (8, uV k), (16, bV true)] ⟨rfl, zo, (aB _ _ gQ), (by have h0 := (k7t w (ka1 ms k ([] : List Int)) o (ka0 (ka1 ms k ([] : List Int))) zo rfl zo uO); rw [hx3] at h0; exact h0)⟩ ?_
   refine zt ?_
   refine kP [.no, .no] True [(4, uV k)] trivial ?_
   refine AW.ret ?_
   exact kD (.inr rfl) [] (P := (((xT ms w c) : Int) = (k : Int)) ∧ (kM [dl w o])) zk ⟨(by first | rfl | exact u0l hi (by assumption) zo | (rw [show c = k by omega]; exact hi) | omega), rfl⟩
  ·have hx5 : ((ka0 (ka1 ms k ([] : List Int))) ≤ 1000000) := MsW.at (qF : MsW ms) _
   refine kP [.no, .no, .no, .n k, .d (dl (ka1 ms k ([] : List Int)) (ka0 (ka1 ms k ([] : List Int)))), .call [0] (bV false) [(0, some (23, .ds [dl w o]))] 1 [] none] ((kO (k : Int)) ∧ (k < c) ∧ ((ka4 k (kJ ms))[0]? = some (dl (ka1 ms k ([] : List Int)) (ka0 (ka1 ms k ([] : List Int))))) ∧ (Fun 136 [.c (.d (dl (ka1 ms k ([] : List Int)) (ka0 (ka1 ms k ([] : List Int))))), .c (.ptr 0 0)] (kK [(0, some (23, .ds [dl w o]))]) 1 (bV false) (kK [(0, some (23, .ds [dl w o]))]) 1)) [(0, kI (kJ ms) c), (1, .e (.c (.fn 136 [(0, 0)]))), (5, uV k), (7, uV c), (8, uV k), (16, bV false)] ⟨rfl, zo, (aB _ _ gQ), (by have h0 := (k7t w (ka1 ms k ([] : List Int)) o (ka0 (ka1 ms k ([] : List Int))) zo rfl zo uO); rw [hx3] at h0; exact h0)⟩ ?_
   refine uB ?_
   refine uS [.w, .no] ((-9223372036854775808) ≤ ((k : Int) + 1) ∧ ((k : Int) + 1) ≤ 9223372036854775807) [(0, kI (kJ ms) c), (1, .e (.c (.fn 136 [(0, 0)]))), (7, uV c), (8, iV (↑k + 1))] ⟨by omega, by omega⟩ ?_
   exact kW ⟨((k + 1) : Nat), ⟨eO, (u56 hi (by assumption))⟩⟩ [] (P := (kM (kJ ms)) ∧ (kH c) ∧ (kO (c : Int)) ∧ (((((k + 1) : Nat) : Int) : Int) = ((k : Int) + 1)) ∧ (kM [dl w o])) zk ⟨rfl, rfl, rfl, pZ, rfl⟩ (show c - (k + 1) < c - k from (by first | omega | (show _ < _; simp; omega)))
 ·refine kL [.b false] (¬ ((k : Int) < (c : Int))) [(0, kI (kJ ms) c), (1, .e (.c (.fn 136 [(0, 0)]))), (7, uV c), (8, uV k), (9, bV false)] [(0, some (23, .ds [dl w o]))] 1 zo ?_
  refine AW.seq ?_
  refine zf ?_
  refine AW.exit ?_
  refine kL [.no] True [(4, iV (-1))] [(0, some (23, .ds [dl w o]))] 1 trivial ?_
  refine AW.ret ?_
  exact kD (.inr rfl) [] (P := (((xT ms w c) : Int) = (-1)) ∧ (kM [dl w o])) zk ⟨(by first | rfl | exact u0l hi (by assumption) zo | (rw [show c = k by omega]; exact hi) | omega), rfl⟩
theorem u61 (ms : List (List Int)) (c : Nat) (w : List Int) (o : Nat) (hc : ka0 ms = c) (ho : ka0 w = o) (h1 : c ≤ 1000000) (h2 : o ≤ 1000000) (hW : MsW ms) : Fun 126 [.c (.d (D.sl (kJ ms) c)), .c (.fn 136 [(0, 0)])] (kK [(0, some (23, .ds [D.sl (dI .i64 w) o]))]) 1 (qY (D.lit (.bool (iY ms w)))) (kK [(0, some (23, .ds [D.sl (dI .i64 w) o]))]) 1 := by
 refine Fun.mk (n := 9) Tryz.func126 rfl rfl (ka5 rfl) ?_
 intro cx hcx
 refine kL [.no] True [(0, kI (kJ ms) c), (1, .e (.c (.fn 136 [(0, 0)])))] [(0, some (23, .ds [dl w o]))] 1 trivial ?_
 by_cases hx1 : ((0 : Int) ≤ (xT ms w c))
 ·refine kP [.no, .no, .call [0] (iV (xT ms w c)) [(0, some (23, .ds [dl w o]))] 1 [] none, .b true, .no] ((_) ∧ (((0 : Int) ≤ (xT ms w c)))) [(4, bV true)] ⟨(u1f ms c w o zo zo zo zo (qF : MsW ms)), zo⟩ ?_
  refine AW.ret ?_
  exact kD (.inr rfl) [] (P := ((iY ms w) = true) ∧ (kM [dl w o])) zk ⟨(by first | exact u0k hc zo | exact u0m hc zo), rfl⟩
 ·refine kP [.no, .no, .call [0] (iV (xT ms w c)) [(0, some (23, .ds [dl w o]))] 1 [] none, .b false, .no] ((_) ∧ (¬ ((0 : Int) ≤ (xT ms w c)))) [(4, bV false)] ⟨(u1f ms c w o zo zo zo zo (qF : MsW ms)), zo⟩ ?_
  refine AW.ret ?_
  exact kD (.inr rfl) [] (P := ((iY ms w) = false) ∧ (kM [dl w o])) zk ⟨(by first | exact u0k hc zo | exact u0m hc zo), rfl⟩
theorem oC (ms : List (List Int)) (c : Nat) (w : List Int) (o : Nat) (hc : ka0 ms = c) (ho : ka0 w = o) (h1 : c ≤ 1000000) (h2 : o ≤ 1000000) (hW : MsW ms) : Fun 96 [.c (.d (D.sl (kJ ms) c)), .c (.d (D.sl (dI .i64 w) o))] (kK []) 0 (qY (D.lit (.bool (iY ms w)))) (kK []) 0 := by
 refine Fun.mk (n := 8) Tryz.func96 rfl rfl (ka5 rfl) ?_
 intro cx hcx
 refine kL [.no, .no] True [(0, kI (kJ ms) c), (3, rV 0 0)] [(0, some (23, .ds [dl w o]))] 1 trivial ?_
 refine kL [.no, .no, .call [0] (qY (D.lit (.bool (iY ms w)))) [(0, some (23, .ds [dl w o]))] 1 [] none, .no] _ [(4, qY (D.lit (.bool (iY ms w))))] [] 1 (u61 ms c w o zo zo zo zo (qF : MsW ms)) ?_
 refine AW.ret ?_
 exact kD (.inr rfl) [] (P := ((iY ms w) = (iY ms w))) zk rfl
theorem m5 {p : Prop} (h : p := by first | exact u0b (by assumption) | exact u0a (by assumption)) : p := h
theorem tB (m : List (List Int)) (c : Nat) (hc : ka0 m = c) (h1 : c ≤ 1000000) (hW : MsW m) : Fun 88 [.c (.d (D.sl (kJ m) c))] (kK []) 0 (qY (D.lit (.bool (xN m)))) (kK []) 0 := by
 refine Fun.mk (n := 31) Tryz.func88 rfl rfl (ka5 rfl) ?_
 intro cx hcx
 refine kL [.no] True [(0, kI (kJ m) c)] [] 0 trivial ?_
 refine AW.seq ?_
 by_cases hx1 : (((c : Nat) : Int) < 1)
 ·refine kP [.no, .no, .b true, .no, .no] (((c : Int) < 1)) [(0, kI (kJ m) c), (12, bV true)] zo ?_
  refine zt ?_
  refine kP [.no] True [(2, bV false)] trivial ?_
  refine AW.ret ?_
  exact kD (.inr rfl) [] (P := ((xN m) = false)) zk (by first | exact iI zo zo (fun j hj => ha j zo) | exact iJ zo | exact iK (k := i) zo m5)
 ·by_cases hx2 : ((16 : Int) < ((c : Nat) : Int))
  ·refine kP [.no, .no, .b false, .no, .no, .no, .b true, .no] ((¬ ((c : Int) < 1)) ∧ (((16 : Int) < (c : Int)))) [(0, kI (kJ m) c), (12, bV true)] ⟨zo, zo⟩ ?_
   refine zt ?_
   refine kP [.no] True [(2, bV false)] trivial ?_
   refine AW.ret ?_
   exact kD (.inr rfl) [] (P := ((xN m) = false)) zk (by first | exact iI zo zo (fun j hj => ha j zo) | exact iJ zo | exact iK (k := i) zo m5)
  ·refine kP [.no, .no, .b false, .no, .no, .no, .b false, .no] ((¬ ((c : Int) < 1)) ∧ (¬ ((16 : Int) < (c : Int)))) [(0, kI (kJ m) c), (12, bV false)] ⟨zo, zo⟩ ?_
   refine uB ?_
   refine AW.seq ?_
   refine kP [.no, .no, .no] True [(0, kI (kJ m) c), (13, kI (kJ m) c), (14, uV c), (15, iV 0)] trivial ?_
   refine AW.block ?_
   refine kZ 0 hcx (fun (x : {x : Nat // match x with | i => (i ≤ c) ∧ (∀ j, j < i → vmE m j = true)}) => match x with | ⟨i, _⟩ => (⟨[(0, kI (kJ m) c), (13, kI (kJ m) c), (14, uV c), (15, uV i)], [], 0⟩ : ES)) (fun x => match x with | ⟨i, _⟩ => c - i) ⟨(0 : Nat), ⟨eO, (fun j hj => absurd hj (kd3 j))⟩⟩ [] (P := (kM (kJ m)) ∧ (kH c) ∧ (kM (kJ m)) ∧ (kH c) ∧ (kO (c : Int)) ∧ (kO 0)) zk ⟨rfl, rfl, rfl, rfl, rfl, rfl⟩ ?_
   rintro ⟨i, hinv0⟩
   obtain ⟨hi, ha⟩ : (i ≤ c) ∧ (∀ j, j < i → vmE m j = true) := hinv0
   refine qT (l := [(0, kI (kJ m) c), (13, kI (kJ m) c), (14, uV c), (15, uV i)]) (g := []) (nx := 0) rfl rfl rfl ?_
   by_cases hx3 : (((i : Nat) : Int) < ((c : Nat) : Int))
   ·refine kL [.b true] (((i : Int) < (c : Int))) [(0, kI (kJ m) c), (13, kI (kJ m) c), (14, uV c), (15, uV i), (16, bV true)] [] 0 zo ?_
    refine AW.seq ?_
    refine vP ?_
    refine AW.seq ?_
    refine AW.block ?_
    have hx4 : ((ka0 (ka1 m i ([] : List Int))) ≤ 1000000) := MsW.at (qF : MsW m) _
    refine kP [.no, .n i, .d (dl (ka1 m i ([] : List Int)) (ka0 (ka1 m i ([] : List Int)))), .no, .no] ((kO (i : Int)) ∧ (i < c) ∧ ((ka4 i (kJ m))[0]? = some (dl (ka1 m i ([] : List Int)) (ka0 (ka1 m i ([] : List Int)))))) [(0, kI (kJ m) c), (3, uV i), (4, sV .i64 (ka1 m i ([] : List Int)) (ka0 (ka1 m i ([] : List Int)))), (13, kI (kJ m) c), (14, uV c), (15, uV i)] ⟨rfl, zo, (aB _ _ gQ)⟩ ?_
    rcases kb2 (mS (ka1 m i ([] : List Int)) (ka0 (ka1 m i ([] : List Int)))) with hx5 | hx5
    ·rcases kb2 (iY (ka3 i m) (ka1 m i ([] : List Int))) with hx6 | hx6
     ·refine kP (.no :: .call [] (bV true) [] 0 [] none :: qA 4 [.sls 0 i i (kJ (ka3 i m)), .no, .call [] (bV true) [] 0 [] none, .no]) ((Fun 131 [.c (.d (dl (ka1 m i ([] : List Int)) (ka0 (ka1 m i ([] : List Int)))))] (kK []) 0 (bV true) (kK []) 0) ∧ (kH 0) ∧ (kO (i : Int)) ∧ ((0 : Nat) ≤ i) ∧ (i ≤ c) ∧ (i - 0 = i) ∧ (ka3 (i * 1) (ka4 (0 * 1) (kJ m)) = (kJ (ka3 i m))) ∧ (Fun 96 [.c (.d (D.sl (kJ (ka3 i m)) i)), .c (.d (dl (ka1 m i ([] : List Int)) (ka0 (ka1 m i ([] : List Int)))))] (kK []) 0 (bV true) (kK []) 0)) [(0, kI (kJ m) c), (13, kI (kJ m) c), (14, uV c), (15, uV i), (29, bV true)] ⟨(by have h0 := (s7 (ka1 m i ([] : List Int)) (ka0 (ka1 m i ([] : List Int))) rfl uO); rw [hx5] at h0; exact h0), rfl, rfl, zo, zo, zo, (iU _ _), (by have h0 := (oC (ka3 i m) i (ka1 m i ([] : List Int)) (ka0 (ka1 m i ([] : List Int))) uO rfl zo uO (MsW.take (qF : MsW m) _)); rw [hx6] at h0; exact h0)⟩ ?_
      refine zt ?_
      refine kP [.no] True [(2, bV false)] trivial ?_
      refine AW.ret ?_
      exact kD (.inr rfl) [] (P := ((xN m) = false)) zk (by first | exact iI zo zo (fun j hj => ha j zo) | exact iJ zo | exact iK (k := i) zo m5)
     ·refine kP (.no :: .call [] (bV true) [] 0 [] none :: qA 4 [.sls 0 i i (kJ (ka3 i m)), .no, .call [] (bV false) [] 0 [] none, .no]) ((Fun 131 [.c (.d (dl (ka1 m i ([] : List Int)) (ka0 (ka1 m i ([] : List Int)))))] (kK []) 0 (bV true) (kK []) 0) ∧ (kH 0) ∧ (kO (i : Int)) ∧ ((0 : Nat) ≤ i) ∧ (i ≤ c) ∧ (i - 0 = i) ∧ (ka3 (i * 1) (ka4 (0 * 1) (kJ m)) = (kJ (ka3 i m))) ∧ (Fun 96 [.c (.d (D.sl (kJ (ka3 i m)) i)), .c (.d (dl (ka1 m i ([] : List Int)) (ka0 (ka1 m i ([] : List Int)))))] (kK []) 0 (bV false) (kK []) 0)) [(0, kI (kJ m) c), (13, kI (kJ m) c), (14, uV c), (15, uV i), (29, bV false)] ⟨(by have h0 := (s7 (ka1 m i ([] : List Int)) (ka0 (ka1 m i ([] : List Int))) rfl uO); rw [hx5] at h0; exact h0), rfl, rfl, zo, zo, zo, (iU _ _), (by have h0 := (oC (ka3 i m) i (ka1 m i ([] : List Int)) (ka0 (ka1 m i ([] : List Int))) uO rfl zo uO (MsW.take (qF : MsW m) _)); rw [hx6] at h0; exact h0)⟩ ?_
      refine uB ?_
      refine uS [.w, .no] ((-9223372036854775808) ≤ ((i : Int) + 1) ∧ ((i : Int) + 1) ≤ 9223372036854775807) [(0, kI (kJ m) c), (13, kI (kJ m) c), (14, uV c), (15, iV (↑i + 1))] ⟨by omega, by omega⟩ ?_
      exact kW ⟨((i + 1) : Nat), ⟨eO, (fun j hj => (Nat.lt_succ_iff_lt_or_eq.1 hj).elim (ha j) (fun e9 => by subst e9; exact u09 (by assumption) (by assumption)))⟩⟩ [] (P := (kM (kJ m)) ∧ (kH c) ∧ (kM (kJ m)) ∧ (kH c) ∧ (kO (c : Int)) ∧ (((((i + 1) : Nat) : Int) : Int) = ((i : Int) + 1))) zk ⟨rfl, rfl, rfl, rfl, rfl, pZ⟩ (show c - (i + 1) < c - i from (by first | omega | (show _ < _; simp; omega)))
    ·refine kP [.no, .call [] (bV false) [] 0 [] none, .no, .no, .no] (Fun 131 [.c (.d (dl (ka1 m i ([] : List Int)) (ka0 (ka1 m i ([] : List Int)))))] (kK []) 0 (bV false) (kK []) 0) [(0, kI (kJ m) c), (13, kI (kJ m) c), (14, uV c), (15, uV i), (29, bV true)] (by have h0 := (s7 (ka1 m i ([] : List Int)) (ka0 (ka1 m i ([] : List Int))) rfl uO); rw [hx5] at h0; exact h0) ?_
     refine zt ?_
     refine kP [.no] True [(2, bV false)] trivial ?_
     refine AW.ret ?_
     exact kD (.inr rfl) [] (P := ((xN m) = false)) zk (by first | exact iI zo zo (fun j hj => ha j zo) | exact iJ zo | exact iK (k := i) zo m5)
   ·refine kL [.b false] (¬ ((i : Int) < (c : Int))) [(0, kI (kJ m) c), (13, kI (kJ m) c), (14, uV c), (15, uV i), (16, bV false)] [] 0 zo ?_
    refine AW.seq ?_
    refine zf ?_
    refine AW.exit ?_
    refine kL [.no] True [(2, bV true)] [] 0 trivial ?_
    refine AW.ret ?_
    exact kD (.inr rfl) [] (P := ((xN m) = true)) zk (by first | exact iI zo zo (fun j hj => ha j zo) | exact iJ zo | exact iK (k := i) zo m5)
theorem jT {p : Prop} (h : p := by first | exact oQ (by omega) (by assumption) (by assumption) (by assumption) | exact oU (by omega) | exact eF (by assumption) | exact oT (by assumption) | exact oR (by assumption)) : p := h
theorem k7s (k : Int) (r : List Int) (rn : Nat) (m : List (List Int)) (c : Nat) (s : List Int) (sn : Nat) (hr : ka0 r = rn * 2) (hs : ka0 s = sn * 2) (hc : ka0 m = c) (h1 : rn ≤ 1000000) (h2 : sn ≤ 1000000) (h3 : c ≤ 1000000) (hW : MsW m) : Fun 43 [.agg [iC k, .d (D.sl (dI .i64 r) rn), .d (D.sl (kJ m) c), .d (D.sl (dI .i64 s) sn)]] (kK []) 0 (qY (D.lit (.bool (eK k r rn m s sn)))) (kK []) 0 := by
 refine Fun.mk (n := 27) Tryz.func43 rfl rfl (ka5 rfl) ?_
 intro cx hcx
 refine kL [.no, .no] True [(1, rV 0 0)] [(0, some (59, .ds [iD k, dl r rn, D.sl (kJ m) c, dl s sn]))] 1 trivial ?_
 by_cases hx1 : (k ≠ 0)
 ·by_cases hx2 : ((fN k) = 0)
  ·rcases kb2 (f9 r rn 1000 768000) with hx3 | hx3
   ·rcases kb2 (xN m) with hx4 | hx4
    ·rcases kb2 (f9 s sn 1 65536) with hx5 | hx5
     ·refine kL (.no :: .no :: .b true :: .no :: .no :: .no :: .i (fN k) :: .b true :: qA 4 (.call [] (bV true) [] 0 [] none :: qA 4 (.call [] (bV true) [] 0 [] none :: qA 4 [.call [] (bV true) [] 0 [] none, .no, .no]))) (((k ≠ 0)) ∧ (qG .andNot .i64 k 254 = (fN k)) ∧ (((fN k) = 0)) ∧ (Fun 87 [.agg [.d (dl r rn)], iE 1000, iE 768000] (kK []) 0 (bV true) (kK []) 0) ∧ (Fun 88 [.c (.d (D.sl (kJ m) c))] (kK []) 0 (bV true) (kK []) 0) ∧ (Fun 87 [.agg [.d (dl s sn)], iE 1, iE 65536] (kK []) 0 (bV true) (kK []) 0)) [(2, bV true)] [] 1 ⟨zo, rfl, zo, (by have h0 := (lR r rn 1000 768000 zo zo); rw [hx3] at h0; exact h0), (by have h0 := (tB m c zo zo (qF : MsW m)); rw [hx4] at h0; exact h0), (by have h0 := (lR s sn 1 65536 zo zo); rw [hx5] at h0; exact h0)⟩ ?_
      refine AW.ret ?_
      exact kD (.inr rfl) [] (P := ((eK k r rn m s sn) = true)) zk jT
     ·refine kL (.no :: .no :: .b true :: .no :: .no :: .no :: .i (fN k) :: .b true :: qA 4 (.call [] (bV true) [] 0 [] none :: qA 4 (.call [] (bV true) [] 0 [] none :: qA 4 [.call [] (bV false) [] 0 [] none, .no, .no]))) (((k ≠ 0)) ∧ (qG .andNot .i64 k 254 = (fN k)) ∧ (((fN k) = 0)) ∧ (Fun 87 [.agg [.d (dl r rn)], iE 1000, iE 768000] (kK []) 0 (bV true) (kK []) 0) ∧ (Fun 88 [.c (.d (D.sl (kJ m) c))] (kK []) 0 (bV true) (kK []) 0) ∧ (Fun 87 [.agg [.d (dl s sn)], iE 1, iE 65536] (kK []) 0 (bV false) (kK []) 0)) [(2, bV false)] [] 1 ⟨zo, rfl, zo, (by have h0 := (lR r rn 1000 768000 zo zo); rw [hx3] at h0; exact h0), (by have h0 := (tB m c zo zo (qF : MsW m)); rw [hx4] at h0; exact h0), (by have h0 := (lR s sn 1 65536 zo zo); rw [hx5] at h0; exact h0)⟩ ?_
      refine AW.ret ?_
      exact kD (.inr rfl) [] (P := ((eK k r rn m s sn) = false)) zk jT
    ·refine kL (.no :: .no :: .b true :: .no :: .no :: .no :: .i (fN k) :: .b true :: qA 4 (.call [] (bV true) [] 0 [] none :: qA 4 (.call [] (bV false) [] 0 [] none :: qA 4 []))) (((k ≠ 0)) ∧ (qG .andNot .i64 k 254 = (fN k)) ∧ (((fN k) = 0)) ∧ (Fun 87 [.agg [.d (dl r rn)], iE 1000, iE 768000] (kK []) 0 (bV true) (kK []) 0) ∧ (Fun 88 [.c (.d (D.sl (kJ m) c))] (kK []) 0 (bV false) (kK []) 0)) [(2, bV false)] [] 1 ⟨zo, rfl, zo, (by have h0 := (lR r rn 1000 768000 zo zo); rw [hx3] at h0; exact h0), (by have h0 := (tB m c zo zo (qF : MsW m)); rw [hx4] at h0; exact h0)⟩ ?_
     refine AW.ret ?_
     exact kD (.inr rfl) [] (P := ((eK k r rn m s sn) = false)) zk jT
   ·refine kL (.no :: .no :: .b true :: .no :: .no :: .no :: .i (fN k) :: .b true :: qA 4 (.call [] (bV false) [] 0 [] none :: qA 6 [])) (((k ≠ 0)) ∧ (qG .andNot .i64 k 254 = (fN k)) ∧ (((fN k) = 0)) ∧ (Fun 87 [.agg [.d (dl r rn)], iE 1000, iE 768000] (kK []) 0 (bV false) (kK []) 0)) [(2, bV false)] [] 1 ⟨zo, rfl, zo, (by have h0 := (lR r rn 1000 768000 zo zo); rw [hx3] at h0; exact h0)⟩ ?_
    refine AW.ret ?_
    exact kD (.inr rfl) [] (P := ((eK k r rn m s sn) = false)) zk jT
  ·refine kL (.no :: .no :: .b true :: .no :: .no :: .no :: .i (fN k) :: .b false :: qA 8 []) (((k ≠ 0)) ∧ (qG .andNot .i64 k 254 = (fN k)) ∧ (¬ ((fN k) = 0))) [(2, bV false)] [] 1 ⟨zo, rfl, zo⟩ ?_
   refine AW.ret ?_
   exact kD (.inr rfl) [] (P := ((eK k r rn m s sn) = false)) zk jT
 ·refine kL (.no :: .no :: .b false :: qA 9 []) (¬ (k ≠ 0)) [(2, bV false)] [] 1 zo ?_
  refine AW.ret ?_
  exact kD (.inr rfl) [] (P := ((eK k r rn m s sn) = false)) zk jT
theorem xM (k : Int) (r : List Int) (rn : Nat) (m : List (List Int)) (c : Nat) (s : List Int) (sn : Nat) (hr : ka0 r = rn * 2) (hs : ka0 s = sn * 2) (hc : ka0 m = c) (h1 : rn ≤ 1000000) (h2 : sn ≤ 1000000) (h3 : c ≤ 1000000) (hW : MsW m) : Fun 46 [.agg [iC k, .d (D.sl (dI .i64 r) rn), .d (D.sl (kJ m) c), .d (D.sl (dI .i64 s) sn)]] (kK []) 0 (qY (D.lit (.bool (nxB k r rn m s sn)))) (kK []) 0 := by
 refine Fun.mk (n := 6) Tryz.func46 rfl rfl (ka5 rfl) ?_
 intro cx hcx
 refine kL [.no, .no] True [(1, rV 0 0)] [(0, some (59, .ds [iD k, dl r rn, D.sl (kJ m) c, dl s sn]))] 1 trivial ?_
 rcases kb2 (eK k r rn m s sn) with hx1 | hx1
 ·refine kL [.no, .call [] (bV true) [] 0 [] none, .no, .no] (Fun 43 [.agg [iC k, .d (dl r rn), .d (D.sl (kJ m) c), .d (dl s sn)]] (kK []) 0 (bV true) (kK []) 0) [(2, bV false)] [] 1 (by have h0 := (k7s k r rn m c s sn zo zo zo zo zo zo (qF : MsW m)); rw [hx1] at h0; exact h0) ?_
  refine AW.ret ?_
  exact kD (.inr rfl) [] (P := ((nxB k r rn m s sn) = false)) zk (by first | exact u4k (by assumption) | exact u4l (by assumption))
 ·refine kL [.no, .call [] (bV false) [] 0 [] none, .no, .no] (Fun 43 [.agg [iC k, .d (dl r rn), .d (D.sl (kJ m) c), .d (dl s sn)]] (kK []) 0 (bV false) (kK []) 0) [(2, bV true)] [] 1 (by have h0 := (k7s k r rn m c s sn zo zo zo zo zo zo (qF : MsW m)); rw [hx1] at h0; exact h0) ?_
  refine AW.ret ?_
  exact kD (.inr rfl) [] (P := ((nxB k r rn m s sn) = true)) zk (by first | exact u4k (by assumption) | exact u4l (by assumption))
theorem u1e (bs : List Bx) (n : Nat) (hn : ka0 bs = n) (h1 : n ≤ 1000000) (hW : BsW bs) : Fun 90 [.c (.d (D.sl (kF bs) n)), .c (.fn 46 [])] (kK []) 0 (iV (tO bs n)) (kK []) 0 := by
 refine Fun.mk (n := 19) Tryz.func90 rfl rfl (ka5 rfl) ?_
 intro cx hcx
 refine kL [.no] True [(0, kI (kF bs) n), (1, .e (.c (.fn 46 [])))] [] 0 trivial ?_
 refine AW.seq ?_
 refine kP [.no, .no, .no] True [(0, kI (kF bs) n), (1, .e (.c (.fn 46 []))), (7, uV n), (8, iV 0)] trivial ?_
 refine AW.block ?_
 refine kZ 0 hcx (fun (x : {x : Nat // match x with | k => (k ≤ n) ∧ (tO bs k = -1)}) => match x with | ⟨k, _⟩ => (⟨[(0, kI (kF bs) n), (1, .e (.c (.fn 46 []))), (7, uV n), (8, uV k)], [], 0⟩ : ES)) (fun x => match x with | ⟨k, _⟩ => n - k) ⟨(0 : Nat), ⟨eO, rfl⟩⟩ [] (P := (kM (kF bs)) ∧ (kH n) ∧ (kO (n : Int)) ∧ (kO 0)) zk ⟨rfl, rfl, rfl, rfl⟩ ?_
 rintro ⟨k, hinv0⟩
 obtain ⟨hk, hi⟩ : (k ≤ n) ∧ (tO bs k = -1) := hinv0
 refine qT (l := [(0, kI (kF bs) n), (1, .e (.c (.fn 46 []))), (7, uV n), (8, uV k)]) (g := []) (nx := 0) rfl rfl rfl ?_
 by_cases hx1 : (((k : Nat) : Int) < ((n : Nat) : Int))
 ·refine kL [.b true] (((k : Int) < (n : Int))) [(0, kI (kF bs) n), (1, .e (.c (.fn 46 []))), (7, uV n), (8, uV k), (9, bV true)] [] 0 zo ?_
  refine AW.seq ?_
  refine vP ?_
  refine AW.seq ?_
  refine AW.block ?_
  refine kP [.no, .no] True [(0, kI (kF bs) n), (1, .e (.c (.fn 46 []))), (5, uV k), (7, uV n), (8, uV k)] trivial ?_
  rcases kb2 (nxB (qJ bs k) (qR bs k) (qM bs k) (kY bs k) (qS bs k) (qN bs k)) with hx7 | hx7
  ·obtain ⟨hx8, hx9, hx10, hx11, hx12⟩ := BsW.at (qF : BsW bs) (k)
   refine kL [.no, .no, .no, .n k, .ds [iD (qJ bs k), dl (qR bs k) (qM bs k), D.sl (kJ (kY bs k)) (ka0 (kY bs k)), dl (qS bs k) (qN bs k)], .call [] (bV true) [] 0 [] none] ((kO (k : Int)) ∧ (k < n) ∧ (ka3 4 (ka4 (k * 4) (kF bs)) = [iD (qJ bs k), dl (qR bs k) (qM bs k), D.sl (kJ (kY bs k)) (ka0 (kY bs k)), dl (qS bs k) (qN bs k)]) ∧ (([iD (qJ bs k), dl (qR bs k) (qM bs k), D.sl (kJ (kY bs k)) (ka0 (kY bs k)), dl (qS bs k) (qN bs k)] : List D).length = 4) ∧ (Fun 46 [.agg [iC (qJ bs k), .d (dl (qR bs k) (qM bs k)), .d (D.sl (kJ (kY bs k)) (ka0 (kY bs k))), .d (dl (qS bs k) (qN bs k))]] (kK []) 0 (bV true) (kK []) 0)) [(0, kI (kF bs) n), (1, .e (.c (.fn 46 []))), (5, uV k), (7, uV n), (8, uV k), (16, bV true)] [] 0 ⟨rfl, zo, (cN gQ), rfl, (by have h0 := (xM (qJ bs k) (qR bs k) (qM bs k) (kY bs k) (ka0 (kY bs k)) (qS bs k) (qN bs k) uO uO rfl uO uO uO (vM (qF : BsW bs) _)); rw [hx7] at h0; exact h0)⟩ ?_
   refine zt ?_
   refine kP [.no, .no] True [(4, uV k)] trivial ?_
   refine AW.ret ?_
   exact kD (.inr rfl) [] (P := (((tO bs n) : Int) = (k : Int))) zk (by first | rfl | exact u0c hi (by assumption) zo | (rw [show n = k by omega]; exact hi) | omega)
  ·obtain ⟨hx13, hx14, hx15, hx16, hx17⟩ := BsW.at (qF : BsW bs) (k)
   refine kL [.no, .no, .no, .n k, .ds [iD (qJ bs k), dl (qR bs k) (qM bs k), D.sl (kJ (kY bs k)) (ka0 (kY bs k)), dl (qS bs k) (qN bs k)], .call [] (bV false) [] 0 [] none] ((kO (k : Int)) ∧ (k < n) ∧ (ka3 4 (ka4 (k * 4) (kF bs)) = [iD (qJ bs k), dl (qR bs k) (qM bs k), D.sl (kJ (kY bs k)) (ka0 (kY bs k)), dl (qS bs k) (qN bs k)]) ∧ (([iD (qJ bs k), dl (qR bs k) (qM bs k), D.sl (kJ (kY bs k)) (ka0 (kY bs k)), dl (qS bs k) (qN bs k)] : List D).length = 4) ∧ (Fun 46 [.agg [iC (qJ bs k), .d (dl (qR bs k) (qM bs k)), .d (D.sl (kJ (kY bs k)) (ka0 (kY bs k))), .d (dl (qS bs k) (qN bs k))]] (kK []) 0 (bV false) (kK []) 0)) [(0, kI (kF bs) n), (1, .e (.c (.fn 46 []))), (5, uV k), (7, uV n), (8, uV k), (16, bV false)] [] 0 ⟨rfl, zo, (cN gQ), rfl, (by have h0 := (xM (qJ bs k) (qR bs k) (qM bs k) (kY bs k) (ka0 (kY bs k)) (qS bs k) (qN bs k) uO uO rfl uO uO uO (vM (qF : BsW bs) _)); rw [hx7] at h0; exact h0)⟩ ?_
   refine uB ?_
   refine uS [.w, .no] ((-9223372036854775808) ≤ ((k : Int) + 1) ∧ ((k : Int) + 1) ≤ 9223372036854775807) [(0, kI (kF bs) n), (1, .e (.c (.fn 46 []))), (7, uV n), (8, iV (↑k + 1))] ⟨by omega, by omega⟩ ?_
   exact kW ⟨((k + 1) : Nat), ⟨eO, (u3u hi (by assumption))⟩⟩ [] (P := (kM (kF bs)) ∧ (kH n) ∧ (kO (n : Int)) ∧ (((((k + 1) : Nat) : Int) : Int) = ((k : Int) + 1))) zk ⟨rfl, rfl, rfl, pZ⟩ (show n - (k + 1) < n - k from (by first | omega | (show _ < _; simp; omega)))
 ·refine kL [.b false] (¬ ((k : Int) < (n : Int))) [(0, kI (kF bs) n), (1, .e (.c (.fn 46 []))), (7, uV n), (8, uV k), (9, bV false)] [] 0 zo ?_
  refine AW.seq ?_
  refine zf ?_
  refine AW.exit ?_
  refine kL [.no] True [(4, iV (-1))] [] 0 trivial ?_
  refine AW.ret ?_
  exact kD (.inr rfl) [] (P := (((tO bs n) : Int) = (-1))) zk (by first | rfl | exact u0c hi (by assumption) zo | (rw [show n = k by omega]; exact hi) | omega)
theorem u1h (bs : List Bx) (n : Nat) (hn : ka0 bs = n) (h1 : n ≤ 1000000) (hW : BsW bs) : Fun 45 [.c (.d (D.sl (kF bs) n)), .c (.fn 46 [])] (kK []) 0 (qY (D.lit (.bool (naB bs n)))) (kK []) 0 := by
 refine Fun.mk (n := 9) Tryz.func45 rfl rfl (ka5 rfl) ?_
 intro cx hcx
 refine kL [.no] True [(0, kI (kF bs) n), (1, .e (.c (.fn 46 [])))] [] 0 trivial ?_
 by_cases hx1 : ((0 : Int) ≤ (tO bs n))
 ·refine kP [.no, .no, .call [] (iV (tO bs n)) [] 0 [] none, .b true, .no] ((_) ∧ (((0 : Int) ≤ (tO bs n)))) [(4, bV true)] ⟨(u1e bs n zo zo (qF : BsW bs)), zo⟩ ?_
  refine AW.ret ?_
  exact kD (.inr rfl) [] (P := ((naB bs n) = true)) zk (by first | exact decide_eq_true zo | exact decide_eq_false zo)
 ·refine kP [.no, .no, .call [] (iV (tO bs n)) [] 0 [] none, .b false, .no] ((_) ∧ (¬ ((0 : Int) ≤ (tO bs n)))) [(4, bV false)] ⟨(u1e bs n zo zo (qF : BsW bs)), zo⟩ ?_
  refine AW.ret ?_
  exact kD (.inr rfl) [] (P := ((naB bs n) = false)) zk (by first | exact decide_eq_true zo | exact decide_eq_false zo)
theorem tC (bs : List Bx) (n : Nat) (hn : ka0 bs = n) (h1 : n ≤ 1000000) (hW : BsW bs) : Fun 18 [.c (.d (D.sl (kF bs) n))] (kK []) 0 (qY (D.lit (.bool (hY bs)))) (kK []) 0 := by
 refine Fun.mk (n := 11) Tryz.func18 rfl rfl (ka5 rfl) ?_
 intro cx hcx
 refine kL [.no] True [(0, kI (kF bs) n)] [] 0 trivial ?_
 by_cases hx1 : (((n : Nat) : Int) ≤ 64)
 ·rcases kb2 (naB bs n) with hx2 | hx2
  ·refine kP [.no, .no, .b true, .no, .no, .call [] (bV true) [] 0 [] none, .no, .no, .no] ((((n : Int) ≤ 64)) ∧ (Fun 45 [.c (.d (D.sl (kF bs) n)), .c (.fn 46 [])] (kK []) 0 (bV true) (kK []) 0)) [(2, bV false)] ⟨zo, (by have h0 := (u1h bs n zo zo (qF : BsW bs)); rw [hx2] at h0; exact h0)⟩ ?_
   refine AW.ret ?_
   exact kD (.inr rfl) [] (P := ((hY bs) = false)) zk (by first | exact k2l zo | exact u24 hn (by assumption) | exact u23 hn zo (by assumption))
  ·refine kP [.no, .no, .b true, .no, .no, .call [] (bV false) [] 0 [] none, .no, .no, .no] ((((n : Int) ≤ 64)) ∧ (Fun 45 [.c (.d (D.sl (kF bs) n)), .c (.fn 46 [])] (kK []) 0 (bV false) (kK []) 0)) [(2, bV true)] ⟨zo, (by have h0 := (u1h bs n zo zo (qF : BsW bs)); rw [hx2] at h0; exact h0)⟩ ?_
   refine AW.ret ?_
   exact kD (.inr rfl) [] (P := ((hY bs) = true)) zk (by first | exact k2l zo | exact u24 hn (by assumption) | exact u23 hn zo (by assumption))
 ·refine kP [.no, .no, .b false, .no, .no, .no] (¬ ((n : Int) ≤ 64)) [(2, bV false)] zo ?_
  refine AW.ret ?_
  exact kD (.inr rfl) [] (P := ((hY bs) = false)) zk (by first | exact k2l zo | exact u24 hn (by assumption) | exact u23 hn zo (by assumption))
theorem jL (bs : List Bx) (n : Nat) (hn : ka0 bs = n) (h1 : n ≤ 1000000) (hW : BsW bs) : Fun 49 [.c (.d (D.sl (kF bs) n))] (kK []) 0 (kI (kF (kE bs)) (ka0 (kE bs))) (kK []) 0 := by
 refine Fun.mk (n := 7) Tryz.func49 rfl rfl (ka5 rfl) ?_
 intro cx hcx
 refine kL [.no] True [(0, kI (kF bs) n)] [] 0 trivial ?_
 refine AW.seq ?_
 rcases kb2 (hY bs) with hx1 | hx1
 ·refine kP [.no, .call [] (bV true) [] 0 [] none, .no] (Fun 18 [.c (.d (D.sl (kF bs) n))] (kK []) 0 (bV true) (kK []) 0) [(0, kI (kF bs) n), (5, bV false)] (by have h0 := (tC bs n zo zo (qF : BsW bs)); rw [hx1] at h0; exact h0) ?_
  refine uB ?_
  refine kP [.no, .no] True [(2, kI (kF bs) n)] trivial ?_
  have hz1 : kE bs = bs := w7 hx1
  have hz2 : ka0 (kE bs) = n := by rw [hz1]; first | rfl | omega
  refine AW.ret ?_
  exact kD (.inr rfl) [] (P := (((kF (kE bs)) : List D) = (kF bs)) ∧ (((ka0 (kE bs)) : Nat) = n)) zk ⟨(by first | (rw [hz1]; done) | (rw [hz1]; rfl)), (by first | omega | rfl | assumption | (simp; done) | (simp; omega))⟩
 ·refine kP [.no, .call [] (bV false) [] 0 [] none, .no] (Fun 18 [.c (.d (D.sl (kF bs) n))] (kK []) 0 (bV false) (kK []) 0) [(0, kI (kF bs) n), (5, bV true)] (by have h0 := (tC bs n zo zo (qF : BsW bs)); rw [hx1] at h0; exact h0) ?_
  refine zt ?_
  refine kP [.no] True [(2, nV)] trivial ?_
  have hz1 : kE bs = [] := k22 hx1
  have hz2 : ka0 (kE bs) = 0 := by rw [hz1]; first | rfl | omega
  refine eH (l' := [(2, kI ([] : List D) 0)]) (g' := []) (NlS.cons rfl (.e (.c .nil)) NlS.nil) NlG.nil ?_
  refine AW.ret ?_
  exact kD (.inr rfl) [] (P := (((kF (kE bs)) : List D) = ([] : List D)) ∧ (((ka0 (kE bs)) : Nat) = 0)) zk ⟨(by first | (rw [hz1]; done) | (rw [hz1]; rfl)), (by first | omega | rfl | assumption | (simp; done) | (simp; omega))⟩
theorem x8 {p : Prop} (h : p := by first | rfl | assumption | exact decide_eq_true (by omega) | exact decide_eq_false (by omega) | (simp; omega)) : p := h
theorem oB (q : Int)  : Fun 54 [iE q] (kK []) 0 (qY (D.lit (.bool (decide (1 ≤ q ∧ q ≤ 7))))) (kK []) 0 := by
 refine Fun.mk (n := 9) Tryz.func54 rfl rfl (ka5 rfl) ?_
 intro cx hcx
 refine kL [.no] True [(0, iV q)] [] 0 trivial ?_
 by_cases hx1 : ((1 : Int) ≤ q)
 ·by_cases hx2 : (q ≤ 7)
  ·refine kP [.no, .b true, .no, .no, .b true, .no, .no] ((((1 : Int) ≤ q)) ∧ ((q ≤ 7))) [(2, bV true)] ⟨zo, zo⟩ ?_
   refine AW.ret ?_
   exact kD (.inr rfl) [] (P := ((decide (1 ≤ q ∧ q ≤ 7)) = true)) zk x8
  ·refine kP [.no, .b true, .no, .no, .b false, .no, .no] ((((1 : Int) ≤ q)) ∧ (¬ (q ≤ 7))) [(2, bV false)] ⟨zo, zo⟩ ?_
   refine AW.ret ?_
   exact kD (.inr rfl) [] (P := ((decide (1 ≤ q ∧ q ≤ 7)) = false)) zk x8
 ·refine kP [.no, .b false, .no, .no, .no] (¬ ((1 : Int) ≤ q)) [(2, bV false)] zo ?_
  refine AW.ret ?_
  exact kD (.inr rfl) [] (P := ((decide (1 ≤ q ∧ q ≤ 7)) = false)) zk x8
theorem gR {p : Prop} (h : p := by first | exact u76 (by first | assumption | exact u71 (by omega) (by omega)) (by assumption) (by assumption) (by assumption) | exact u78 (by assumption) | exact u79 (by assumption) | exact u77 (by assumption) | exact u5m (u73 (by omega)) | exact u5m (u72 (by omega))) : p := h
theorem u65 (k : Int) (r : List Int) (rn : Nat) (m : List (List Int)) (c : Nat) (s : List Int) (sn : Nat) (q : Nat) (cr : Int) (cm : List Int) (cn : Nat) (cz : Int) (hr : ka0 r = rn * 2) (hs : ka0 s = sn * 2) (hc : ka0 m = c) (h1 : rn ≤ 1000000) (h2 : sn ≤ 1000000) (h3 : c ≤ 1000000) (hW : MsW m) (hm : ka0 cm = cn) (h4 : cn ≤ 1000000) (hq : q ≤ 64) : Fun 51 [.agg [iC k, .d (D.sl (dI .i64 r) rn), .d (D.sl (kJ m) c), .d (D.sl (dI .i64 s) sn)], .agg [iC ((q : Nat) : Int), iC cr, .d (D.sl (dI .i64 cm) cn), iC cz]] (kK []) 0 (qY (D.lit (.bool (jC k r rn m s sn (q : Int) cr cm cz)))) (kK []) 0 := by
 refine Fun.mk (n := 42) Tryz.func51 rfl rfl (ka5 rfl) ?_
 intro cx hcx
 refine kL [.no, .no, .no] True [(2, rV 0 0), (3, rV 1 0)] [(0, some (59, .ds [iD k, dl r rn, D.sl (kJ m) c, dl s sn])), (1, some (27, .ds [uD q, iD cr, dl cm cn, iD cz]))] 2 trivial ?_
 rcases kb2 (decide (1 ≤ ((q : Nat) : Int) ∧ ((q : Nat) : Int) ≤ 7)) with hx1 | hx1
 ·have hx2 : (((1 : Int) ≤ ((q : Nat) : Int)) ∧ (((q : Nat) : Int) ≤ 7)) := of_decide_eq_true hx1
  by_cases hx3 : ((uG (k / (((2 ^ q) : Nat) : Int))) = 1)
  ·rcases kb2 (oE (kB r rn) cr) with hx4 | hx4
   ·rcases kb2 (iY m cm) with hx5 | hx5
    ·rcases kb2 (oE (kB s sn) cz) with hx6 | hx6
     ·refine kL (.no :: .no :: .no :: .call [] (bV true) [] 0 [] none :: qA 6 (.n q :: .i (uG (k / (((2 ^ q) : Nat) : Int))) :: .b true :: qA 7 (.call [] (bV true) [] 0 [] none :: qA 7 (.call [] (bV true) [] 0 [] none :: qA 6 [.call [] (bV true) [] 0 [] none, .no, .no])))) ((Fun 54 [uE q] (kK []) 0 (bV true) (kK []) 0) ∧ (kO (q : Int)) ∧ (q ≤ 64) ∧ (qG .and .i64 (k / (((2 ^ q) : Nat) : Int)) 1 = (uG (k / (((2 ^ q) : Nat) : Int)))) ∧ (((uG (k / (((2 ^ q) : Nat) : Int))) = 1)) ∧ (Fun 95 [.agg [.d (dl r rn)], iE cr] (kK []) 0 (bV true) (kK []) 0) ∧ (Fun 96 [.c (.d (D.sl (kJ m) c)), .c (.d (dl cm cn))] (kK []) 0 (bV true) (kK []) 0) ∧ (Fun 95 [.agg [.d (dl s sn)], iE cz] (kK []) 0 (bV true) (kK []) 0)) [(4, bV true)] [] 2 ⟨(by have h0 := (oB (q : Int)); rw [hx1] at h0; exact h0), rfl, zo, rfl, zo, (by have h0 := (pU r rn cr zo zo); rw [hx4] at h0; exact h0), (by have h0 := (oC m c cm cn zo zo zo zo (qF : MsW m)); rw [hx5] at h0; exact h0), (by have h0 := (pU s sn cz zo zo); rw [hx6] at h0; exact h0)⟩ ?_
      refine AW.ret ?_
      exact kD (.inr rfl) [] (P := ((jC k r rn m s sn (q : Int) cr cm cz) = true)) zk gR
     ·refine kL (.no :: .no :: .no :: .call [] (bV true) [] 0 [] none :: qA 6 (.n q :: .i (uG (k / (((2 ^ q) : Nat) : Int))) :: .b true :: qA 7 (.call [] (bV true) [] 0 [] none :: qA 7 (.call [] (bV true) [] 0 [] none :: qA 6 [.call [] (bV false) [] 0 [] none, .no, .no])))) ((Fun 54 [uE q] (kK []) 0 (bV true) (kK []) 0) ∧ (kO (q : Int)) ∧ (q ≤ 64) ∧ (qG .and .i64 (k / (((2 ^ q) : Nat) : Int)) 1 = (uG (k / (((2 ^ q) : Nat) : Int)))) ∧ (((uG (k / (((2 ^ q) : Nat) : Int))) = 1)) ∧ (Fun 95 [.agg [.d (dl r rn)], iE cr] (kK []) 0 (bV true) (kK []) 0) ∧ (Fun 96 [.c (.d (D.sl (kJ m) c)), .c (.d (dl cm cn))] (kK []) 0 (bV true) (kK []) 0) ∧ (Fun 95 [.agg [.d (dl s sn)], iE cz] (kK []) 0 (bV false) (kK []) 0)) [(4, bV false)] [] 2 ⟨(by have h0 := (oB (q : Int)); rw [hx1] at h0; exact h0), rfl, zo, rfl, zo, (by have h0 := (pU r rn cr zo zo); rw [hx4] at h0; exact h0), (by have h0 := (oC m c cm cn zo zo zo zo (qF : MsW m)); rw [hx5] at h0; exact h0), (by have h0 := (pU s sn cz zo zo); rw [hx6] at h0; exact h0)⟩ ?_
      refine AW.ret ?_
      exact kD (.inr rfl) [] (P := ((jC k r rn m s sn (q : Int) cr cm cz) = false)) zk gR
    ·refine kL (.no :: .no :: .no :: .call [] (bV true) [] 0 [] none :: qA 6 (.n q :: .i (uG (k / (((2 ^ q) : Nat) : Int))) :: .b true :: qA 7 (.call [] (bV true) [] 0 [] none :: qA 7 (.call [] (bV false) [] 0 [] none :: qA 4 [])))) ((Fun 54 [uE q] (kK []) 0 (bV true) (kK []) 0) ∧ (kO (q : Int)) ∧ (q ≤ 64) ∧ (qG .and .i64 (k / (((2 ^ q) : Nat) : Int)) 1 = (uG (k / (((2 ^ q) : Nat) : Int)))) ∧ (((uG (k / (((2 ^ q) : Nat) : Int))) = 1)) ∧ (Fun 95 [.agg [.d (dl r rn)], iE cr] (kK []) 0 (bV true) (kK []) 0) ∧ (Fun 96 [.c (.d (D.sl (kJ m) c)), .c (.d (dl cm cn))] (kK []) 0 (bV false) (kK []) 0)) [(4, bV false)] [] 2 ⟨(by have h0 := (oB (q : Int)); rw [hx1] at h0; exact h0), rfl, zo, rfl, zo, (by have h0 := (pU r rn cr zo zo); rw [hx4] at h0; exact h0), (by have h0 := (oC m c cm cn zo zo zo zo (qF : MsW m)); rw [hx5] at h0; exact h0)⟩ ?_
     refine AW.ret ?_
     exact kD (.inr rfl) [] (P := ((jC k r rn m s sn (q : Int) cr cm cz) = false)) zk gR
   ·refine kL (.no :: .no :: .no :: .call [] (bV true) [] 0 [] none :: qA 6 (.n q :: .i (uG (k / (((2 ^ q) : Nat) : Int))) :: .b true :: qA 7 (.call [] (bV false) [] 0 [] none :: qA 6 []))) ((Fun 54 [uE q] (kK []) 0 (bV true) (kK []) 0) ∧ (kO (q : Int)) ∧ (q ≤ 64) ∧ (qG .and .i64 (k / (((2 ^ q) : Nat) : Int)) 1 = (uG (k / (((2 ^ q) : Nat) : Int)))) ∧ (((uG (k / (((2 ^ q) : Nat) : Int))) = 1)) ∧ (Fun 95 [.agg [.d (dl r rn)], iE cr] (kK []) 0 (bV false) (kK []) 0)) [(4, bV false)] [] 2 ⟨(by have h0 := (oB (q : Int)); rw [hx1] at h0; exact h0), rfl, zo, rfl, zo, (by have h0 := (pU r rn cr zo zo); rw [hx4] at h0; exact h0)⟩ ?_
    refine AW.ret ?_
    exact kD (.inr rfl) [] (P := ((jC k r rn m s sn (q : Int) cr cm cz) = false)) zk gR
  ·refine kL (.no :: .no :: .no :: .call [] (bV true) [] 0 [] none :: qA 6 (.n q :: .i (uG (k / (((2 ^ q) : Nat) : Int))) :: .b false :: qA 8 [])) ((Fun 54 [uE q] (kK []) 0 (bV true) (kK []) 0) ∧ (kO (q : Int)) ∧ (q ≤ 64) ∧ (qG .and .i64 (k / (((2 ^ q) : Nat) : Int)) 1 = (uG (k / (((2 ^ q) : Nat) : Int)))) ∧ (¬ ((uG (k / (((2 ^ q) : Nat) : Int))) = 1))) [(4, bV false)] [] 2 ⟨(by have h0 := (oB (q : Int)); rw [hx1] at h0; exact h0), rfl, zo, rfl, zo⟩ ?_
   refine AW.ret ?_
   exact kD (.inr rfl) [] (P := ((jC k r rn m s sn (q : Int) cr cm cz) = false)) zk gR
 ·have hx7 : ¬ (((1 : Int) ≤ ((q : Nat) : Int)) ∧ (((q : Nat) : Int) ≤ 7)) := of_decide_eq_false hx1
  refine kL (.no :: .no :: .no :: .call [] (bV false) [] 0 [] none :: qA 9 []) (Fun 54 [uE q] (kK []) 0 (bV false) (kK []) 0) [(4, bV false)] [] 2 (by have h0 := (oB (q : Int)); rw [hx1] at h0; exact h0) ?_
  refine AW.ret ?_
  exact kD (.inr rfl) [] (P := ((jC k r rn m s sn (q : Int) cr cm cz) = false)) zk gR
theorem u63 (k : Int) (r : List Int) (rn : Nat) (m : List (List Int)) (c : Nat) (s : List Int) (sn : Nat) (ck cr : Int) (cm : List Int) (cn : Nat) (cz : Int) (hr : ka0 r = rn * 2) (hs : ka0 s = sn * 2) (hc : ka0 m = c) (h1 : rn ≤ 1000000) (h2 : sn ≤ 1000000) (h3 : c ≤ 1000000) (hW : MsW m) (hm : ka0 cm = cn) (h4 : cn ≤ 1000000) (hq : ¬ (1 ≤ ck ∧ ck ≤ 7)) : Fun 51 [.agg [iC k, .d (D.sl (dI .i64 r) rn), .d (D.sl (kJ m) c), .d (D.sl (dI .i64 s) sn)], .agg [iC ck, iC cr, .d (D.sl (dI .i64 cm) cn), iC cz]] (kK []) 0 (qY (D.lit (.bool (jC k r rn m s sn ck cr cm cz)))) (kK []) 0 := by
 refine Fun.mk (n := 42) Tryz.func51 rfl rfl (ka5 rfl) ?_
 intro cx hcx
 refine kL [.no, .no, .no] True [(2, rV 0 0), (3, rV 1 0)] [(0, some (59, .ds [iD k, dl r rn, D.sl (kJ m) c, dl s sn])), (1, some (27, .ds [iD ck, iD cr, dl cm cn, iD cz]))] 2 trivial ?_
 refine kL (.no :: .no :: .no :: .call [] (bV false) [] 0 [] none :: qA 9 []) _ [(4, bV false)] [] 2 (Fun.y (oB ck) (y' := bV false) (congrArg (fun b => LV (.bool b)) (decide_eq_false zo))) ?_
 refine AW.ret ?_
 exact kD (.inr rfl) [] (P := ((jC k r rn m s sn ck cr cm cz) = false)) zk gR
theorem u7c (k : Int) (r : List Int) (rn : Nat) (m : List (List Int)) (c : Nat) (s : List Int) (sn : Nat) (ck cr : Int) (cm : List Int) (cn : Nat) (cz : Int) (hr : ka0 r = rn * 2) (hs : ka0 s = sn * 2) (hc : ka0 m = c) (h1 : rn ≤ 1000000) (h2 : sn ≤ 1000000) (h3 : c ≤ 1000000) (hW : MsW m) (hm : ka0 cm = cn) (h4 : cn ≤ 1000000) : Fun 51 [.agg [iC k, .d (D.sl (dI .i64 r) rn), .d (D.sl (kJ m) c), .d (D.sl (dI .i64 s) sn)], .agg [iC ck, iC cr, .d (D.sl (dI .i64 cm) cn), iC cz]] (kK []) 0 (qY (D.lit (.bool (jC k r rn m s sn ck cr cm cz)))) (kK []) 0 := by
 by_cases h9 : 1 ≤ ck ∧ ck ≤ 7
 ·obtain ⟨q, rfl⟩ : ∃ q : Nat, ck = (q : Int) := ⟨Int.toNat ck, by omega⟩
  exact u65 k r rn m c s sn q cr cm cn cz hr hs hc h1 h2 h3 hW hm h4 (by omega)
 ·exact u63 k r rn m c s sn ck cr cm cn cz hr hs hc h1 h2 h3 hW hm h4 h9
theorem k2h (k : Int) (r : List Int) (rn : Nat) (m : List (List Int)) (c : Nat) (s : List Int) (sn : Nat) (ck cr : Int) (cm : List Int) (cn : Nat) (cz : Int) (hr : ka0 r = rn * 2) (hs : ka0 s = sn * 2) (hc : ka0 m = c) (h1 : rn ≤ 1000000) (h2 : sn ≤ 1000000) (h3 : c ≤ 1000000) (hW : MsW m) (hm : ka0 cm = cn) (h4 : cn ≤ 1000000) : Fun 50 [.agg [iC k, .d (D.sl (dI .i64 r) rn), .d (D.sl (kJ m) c), .d (D.sl (dI .i64 s) sn)], .c (.ptr 0 0)] (kK [(0, some (27, .ds [iD ck, iD cr, D.sl (dI .i64 cm) cn, iD cz]))]) 1 (qY (D.lit (.bool (jC k r rn m s sn ck cr cm cz)))) (kK [(0, some (27, .ds [iD ck, iD cr, D.sl (dI .i64 cm) cn, iD cz]))]) 1 := by
 refine Fun.mk (n := 7) Tryz.func50 rfl rfl (ka5 rfl) ?_
 intro cx hcx
 refine kL [.no, .no] True [(1, rV 0 0), (2, rV 1 0)] [(0, some (27, .ds [iD ck, iD cr, dl cm cn, iD cz])), (1, some (59, .ds [iD k, dl r rn, D.sl (kJ m) c, dl s sn]))] 2 trivial ?_
 refine kL [.no, .no, .call [] (qY (D.lit (.bool (jC k r rn m s sn ck cr cm cz)))) [] 0 [] none, .no] _ [(3, qY (D.lit (.bool (jC k r rn m s sn ck cr cm cz))))] [(0, some (27, .ds [iD ck, iD cr, dl cm cn, iD cz]))] 2 (u7c k r rn m c s sn ck cr cm cn cz zo zo zo zo zo zo (qF : MsW m) zo zo) ?_
 refine AW.ret ?_
 exact kD (.inr rfl) [] (P := ((jC k r rn m s sn ck cr cm cz) = (jC k r rn m s sn ck cr cm cz)) ∧ (kM [iD ck, iD cr, dl cm cn, iD cz])) zk ⟨rfl, rfl⟩
abbrev vN (ck : Int) (cr : Int) (cm : List Int) (cn : Nat) (cz : Int) : BC := .ds [iD ck, iD cr, D.sl (dI .i64 cm) cn, iD cz]
theorem u1g (bs : List Bx) (n : Nat) (ck cr : Int) (cm : List Int) (cn : Nat) (cz : Int) (hn : ka0 bs = n) (h1 : n ≤ 1000000) (hW : BsW bs) (hm : ka0 cm = cn) (h4 : cn ≤ 1000000) : Fun 90 [.c (.d (D.sl (kF bs) n)), .c (.fn 50 [(0, 0)])] (kK [(0, some (27, .ds [iD ck, iD cr, D.sl (dI .i64 cm) cn, iD cz]))]) 1 (iV (xW bs ck cr cm cz n)) (kK [(0, some (27, .ds [iD ck, iD cr, D.sl (dI .i64 cm) cn, iD cz]))]) 1 := by
 refine Fun.mk (n := 19) Tryz.func90 rfl rfl (ka5 rfl) ?_
 intro cx hcx
 refine kL [.no] True [(0, kI (kF bs) n), (1, .e (.c (.fn 50 [(0, 0)])))] [(0, some (27, (vN ck cr cm cn cz)))] 1 trivial ?_
 refine AW.seq ?_
 refine kP [.no, .no, .no] True [(0, kI (kF bs) n), (1, .e (.c (.fn 50 [(0, 0)]))), (7, uV n), (8, iV 0)] trivial ?_
 refine AW.block ?_
 refine kZ 1 hcx (fun (x : {x : Nat // match x with | k => (k ≤ n) ∧ (xW bs ck cr cm cz k = -1)}) => match x with | ⟨k, _⟩ => (⟨[(0, kI (kF bs) n), (1, .e (.c (.fn 50 [(0, 0)]))), (7, uV n), (8, uV k)], [(0, some (27, (vN ck cr cm cn cz)))], 1⟩ : ES)) (fun x => match x with | ⟨k, _⟩ => n - k) ⟨(0 : Nat), ⟨eO, rfl⟩⟩ [] (P := (kM (kF bs)) ∧ (kH n) ∧ (kO (n : Int)) ∧ (kO 0) ∧ (kM [iD ck, iD cr, dl cm cn, iD cz])) zk ⟨rfl, rfl, rfl, rfl, rfl⟩ ?_
 rintro ⟨k, hinv0⟩
 obtain ⟨hk, hi⟩ : (k ≤ n) ∧ (xW bs ck cr cm cz k = -1) := hinv0
 refine qT (l := [(0, kI (kF bs) n), (1, .e (.c (.fn 50 [(0, 0)]))), (7, uV n), (8, uV k)]) (g := [(0, some (27, (vN ck cr cm cn cz)))]) (nx := 1) rfl rfl rfl ?_
 by_cases hx1 : (((k : Nat) : Int) < ((n : Nat) : Int))
 ·refine kL [.b true] (((k : Int) < (n : Int))) [(0, kI (kF bs) n), (1, .e (.c (.fn 50 [(0, 0)]))), (7, uV n), (8, uV k), (9, bV true)] [(0, some (27, (vN ck cr cm cn cz)))] 1 zo ?_
  refine AW.seq ?_
  refine vP ?_
  refine AW.seq ?_
  refine AW.block ?_
  refine kP [.no, .no] True [(0, kI (kF bs) n), (1, .e (.c (.fn 50 [(0, 0)]))), (5, uV k), (7, uV n), (8, uV k)] trivial ?_
  rcases kb2 (jC (qJ bs k) (qR bs k) (qM bs k) (kY bs k) (qS bs k) (qN bs k) ck cr cm cz) with hx7 | hx7
  ·obtain ⟨hx8, hx9, hx10, hx11, hx12⟩ := BsW.at (qF : BsW bs) (k)
   refine kL [.no, .no, .no, .n k, .ds [iD (qJ bs k), dl (qR bs k) (qM bs k), D.sl (kJ (kY bs k)) (ka0 (kY bs k)), dl (qS bs k) (qN bs k)], .call [0] (bV true) [(0, some (27, (vN ck cr cm cn cz)))] 1 [] none] ((kO (k : Int)) ∧ (k < n) ∧ (ka3 4 (ka4 (k * 4) (kF bs)) = [iD (qJ bs k), dl (qR bs k) (qM bs k), D.sl (kJ (kY bs k)) (ka0 (kY bs k)), dl (qS bs k) (qN bs k)]) ∧ (([iD (qJ bs k), dl (qR bs k) (qM bs k), D.sl (kJ (kY bs k)) (ka0 (kY bs k)), dl (qS bs k) (qN bs k)] : List D).length = 4) ∧ (Fun 50 [.agg [iC (qJ bs k), .d (dl (qR bs k) (qM bs k)), .d (D.sl (kJ (kY bs k)) (ka0 (kY bs k))), .d (dl (qS bs k) (qN bs k))], .c (.ptr 0 0)] (kK [(0, some (27, (vN ck cr cm cn cz)))]) 1 (bV true) (kK [(0, some (27, (vN ck cr cm cn cz)))]) 1)) [(0, kI (kF bs) n), (1, .e (.c (.fn 50 [(0, 0)]))), (5, uV k), (7, uV n), (8, uV k), (16, bV true)] [(0, some (27, (vN ck cr cm cn cz)))] 1 ⟨rfl, zo, (cN gQ), rfl, (by have h0 := (k2h (qJ bs k) (qR bs k) (qM bs k) (kY bs k) (ka0 (kY bs k)) (qS bs k) (qN bs k) ck cr cm cn cz uO uO rfl uO uO uO (vM (qF : BsW bs) _) zo zo); rw [hx7] at h0; exact h0)⟩ ?_
   refine zt ?_
   refine kP [.no, .no] True [(4, uV k)] trivial ?_
   refine AW.ret ?_
   exact kD (.inr rfl) [] (P := (((xW bs ck cr cm cz n) : Int) = (k : Int)) ∧ (kM [iD ck, iD cr, dl cm cn, iD cz])) zk ⟨(by first | rfl | exact u12 hi (by assumption) zo | (rw [show n = k by omega]; exact hi) | omega), rfl⟩
  ·obtain ⟨hx13, hx14, hx15, hx16, hx17⟩ := BsW.at (qF : BsW bs) (k)
   refine kL [.no, .no, .no, .n k, .ds [iD (qJ bs k), dl (qR bs k) (qM bs k), D.sl (kJ (kY bs k)) (ka0 (kY bs k)), dl (qS bs k) (qN bs k)], .call [0] (bV false) [(0, some (27, (vN ck cr cm cn cz)))] 1 [] none] ((kO (k : Int)) ∧ (k < n) ∧ (ka3 4 (ka4 (k * 4) (kF bs)) = [iD (qJ bs k), dl (qR bs k) (qM bs k), D.sl (kJ (kY bs k)) (ka0 (kY bs k)), dl (qS bs k) (qN bs k)]) ∧ (([iD (qJ bs k), dl (qR bs k) (qM bs k), D.sl (kJ (kY bs k)) (ka0 (kY bs k)), dl (qS bs k) (qN bs k)] : List D).length = 4) ∧ (Fun 50 [.agg [iC (qJ bs k), .d (dl (qR bs k) (qM bs k)), .d (D.sl (kJ (kY bs k)) (ka0 (kY bs k))), .d (dl (qS bs k) (qN bs k))], .c (.ptr 0 0)] (kK [(0, some (27, (vN ck cr cm cn cz)))]) 1 (bV false) (kK [(0, some (27, (vN ck cr cm cn cz)))]) 1)) [(0, kI (kF bs) n), (1, .e (.c (.fn 50 [(0, 0)]))), (5, uV k), (7, uV n), (8, uV k), (16, bV false)] [(0, some (27, (vN ck cr cm cn cz)))] 1 ⟨rfl, zo, (cN gQ), rfl, (by have h0 := (k2h (qJ bs k) (qR bs k) (qM bs k) (kY bs k) (ka0 (kY bs k)) (qS bs k) (qN bs k) ck cr cm cn cz uO uO rfl uO uO uO (vM (qF : BsW bs) _) zo zo); rw [hx7] at h0; exact h0)⟩ ?_
   refine uB ?_
   refine uS [.w, .no] ((-9223372036854775808) ≤ ((k : Int) + 1) ∧ ((k : Int) + 1) ≤ 9223372036854775807) [(0, kI (kF bs) n), (1, .e (.c (.fn 50 [(0, 0)]))), (7, uV n), (8, iV (↑k + 1))] ⟨by omega, by omega⟩ ?_
   exact kW ⟨((k + 1) : Nat), ⟨eO, (u5n hi (by assumption))⟩⟩ [] (P := (kM (kF bs)) ∧ (kH n) ∧ (kO (n : Int)) ∧ (((((k + 1) : Nat) : Int) : Int) = ((k : Int) + 1)) ∧ (kM [iD ck, iD cr, dl cm cn, iD cz])) zk ⟨rfl, rfl, rfl, pZ, rfl⟩ (show n - (k + 1) < n - k from (by first | omega | (show _ < _; simp; omega)))
 ·refine kL [.b false] (¬ ((k : Int) < (n : Int))) [(0, kI (kF bs) n), (1, .e (.c (.fn 50 [(0, 0)]))), (7, uV n), (8, uV k), (9, bV false)] [(0, some (27, (vN ck cr cm cn cz)))] 1 zo ?_
  refine AW.seq ?_
  refine zf ?_
  refine AW.exit ?_
  refine kL [.no] True [(4, iV (-1))] [(0, some (27, (vN ck cr cm cn cz)))] 1 trivial ?_
  refine AW.ret ?_
  exact kD (.inr rfl) [] (P := (((xW bs ck cr cm cz n) : Int) = (-1)) ∧ (kM [iD ck, iD cr, dl cm cn, iD cz])) zk ⟨(by first | rfl | exact u12 hi (by assumption) zo | (rw [show n = k by omega]; exact hi) | omega), rfl⟩
theorem u62 (bs : List Bx) (n : Nat) (ck cr : Int) (cm : List Int) (cn : Nat) (cz : Int) (hn : ka0 bs = n) (h1 : n ≤ 1000000) (hW : BsW bs) (hm : ka0 cm = cn) (h4 : cn ≤ 1000000) : Fun 45 [.c (.d (D.sl (kF bs) n)), .c (.fn 50 [(0, 0)])] (kK [(0, some (27, .ds [iD ck, iD cr, D.sl (dI .i64 cm) cn, iD cz]))]) 1 (qY (D.lit (.bool (haB bs ck cr cm cz)))) (kK [(0, some (27, .ds [iD ck, iD cr, D.sl (dI .i64 cm) cn, iD cz]))]) 1 := by
 refine Fun.mk (n := 9) Tryz.func45 rfl rfl (ka5 rfl) ?_
 intro cx hcx
 refine kL [.no] True [(0, kI (kF bs) n), (1, .e (.c (.fn 50 [(0, 0)])))] [(0, some (27, .ds [iD ck, iD cr, dl cm cn, iD cz]))] 1 trivial ?_
 by_cases hx1 : ((0 : Int) ≤ (xW bs ck cr cm cz n))
 ·refine kP [.no, .no, .call [0] (iV (xW bs ck cr cm cz n)) [(0, some (27, .ds [iD ck, iD cr, dl cm cn, iD cz]))] 1 [] none, .b true, .no] ((_) ∧ (((0 : Int) ≤ (xW bs ck cr cm cz n)))) [(4, bV true)] ⟨(u1g bs n ck cr cm cn cz zo zo (qF : BsW bs) zo zo), zo⟩ ?_
  refine AW.ret ?_
  exact kD (.inr rfl) [] (P := ((haB bs ck cr cm cz) = true) ∧ (kM [iD ck, iD cr, dl cm cn, iD cz])) zk ⟨(by first | exact u57 hn zo | exact u58 hn zo), rfl⟩
 ·refine kP [.no, .no, .call [0] (iV (xW bs ck cr cm cz n)) [(0, some (27, .ds [iD ck, iD cr, dl cm cn, iD cz]))] 1 [] none, .b false, .no] ((_) ∧ (¬ ((0 : Int) ≤ (xW bs ck cr cm cz n)))) [(4, bV false)] ⟨(u1g bs n ck cr cm cn cz zo zo (qF : BsW bs) zo zo), zo⟩ ?_
  refine AW.ret ?_
  exact kD (.inr rfl) [] (P := ((haB bs ck cr cm cz) = false) ∧ (kM [iD ck, iD cr, dl cm cn, iD cz])) zk ⟨(by first | exact u57 hn zo | exact u58 hn zo), rfl⟩
theorem u66 (bs : List Bx) (n : Nat) (ck cr : Int) (cm : List Int) (cn : Nat) (cz : Int) (hn : ka0 bs = n) (h1 : n ≤ 1000000) (hW : BsW bs) (hm : ka0 cm = cn) (h4 : cn ≤ 1000000) : Fun 21 [.c (.d (D.sl (kF bs) n)), .agg [iC ck, iC cr, .d (D.sl (dI .i64 cm) cn), iC cz]] (kK []) 0 (qY (D.lit (.bool (haB (kE bs) ck cr cm cz)))) (kK []) 0 := by
 refine Fun.mk (n := 9) Tryz.func21 rfl rfl (ka5 rfl) ?_
 intro cx hcx
 refine kL [.no, .no] True [(0, kI (kF bs) n), (3, rV 0 0)] [(0, some (27, .ds [iD ck, iD cr, dl cm cn, iD cz]))] 1 trivial ?_
 have hx1 : ((ka0 (kE bs)) ≤ n) := (by have h9 := eG bs; omega)
 refine kL [.no, .call [] (kI (kF (kE bs)) (ka0 (kE bs))) [] 0 [] none, .no, .call [0] (qY (D.lit (.bool (haB (kE bs) ck cr cm cz)))) [(0, some (27, .ds [iD ck, iD cr, dl cm cn, iD cz]))] 1 [] none, .no] ((_) ∧ (_)) [(4, qY (D.lit (.bool (haB (kE bs) ck cr cm cz))))] [] 1 ⟨(jL bs n zo zo (qF : BsW bs)), (u62 (kE bs) (ka0 (kE bs)) ck cr cm cn cz rfl uO (aK (qF : BsW bs)) zo zo)⟩ ?_
 refine AW.ret ?_
 exact kD (.inr rfl) [] (P := ((haB (kE bs) ck cr cm cz) = (haB (kE bs) ck cr cm cz))) zk rfl
end Go.Proofs.YtcfmjpnffembpaaGreat
