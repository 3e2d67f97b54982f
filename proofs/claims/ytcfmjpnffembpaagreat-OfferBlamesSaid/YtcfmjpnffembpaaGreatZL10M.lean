/- Boxes of the code. No statement is proved here. -/
import Derived.Test.YtcfmjpnffembpaaGreatZL10D
namespace Go.Proofs.YtcfmjpnffembpaaGreat
open Go.ChangeShapes Go.WideShapes Go.ChangeAt Go.RowKit
open Bool renaming and_false → kc8, eq_false_or_eq_true → ka9, false_and → ki9
open List renaming drop → ka3, getD → ka1, length → ka0, length_append → ka6, length_cons → kb0, length_drop → kb3, length_nil → kb1, length_take → kb2, take → ka5
open Nat renaming le_of_ble_eq_true → ka4, lt_succ_self → kl9, not_lt_zero → kd7
set_option linter.unusedVariables false
set_option linter.unusedSimpArgs false
/-! chapter 10: the code's lists of boxes -/
set_option maxHeartbeats 4000000
set_option maxRecDepth 100000
def zF (p : Nat → Bool) : Nat → Int
 | 0 => -1
 | k + 1 => if 0 ≤ zF p k then zF p k else if p k = true then (k : Int) else -1
theorem g6 {p : Nat → Bool} {k : Nat} (h : zF p k = -1) (h2 : p k = false) : zF p (k + 1) = -1 := by
 show (if 0 ≤ zF p k then _ else _) = _
 rw [if_neg (by omega), if_neg (by rw [h2]; decide)]
theorem jL {p : Nat → Bool} {k : Nat} (h : zF p k = -1) (h2 : p k = true) : ∀ n, k < n → zF p n = (k : Int)
 | 0, h3 => absurd h3 (kd7 k)
 | n + 1, h3 => by
  show (if 0 ≤ zF p n then _ else _) = _
  by_cases e : k = n
  ·subst e; rw [if_neg (by omega), if_pos h2]
  ·have h4 := jL h h2 n (by omega)
   rw [if_pos (by omega), h4]
theorem w8 (p : Nat → Bool) : ∀ n, (zF p n = -1 ∧ ∀ j, j < n → p j = false) ∨ ∃ k, k < n ∧ zF p n = (k : Int) ∧ p k = true
 | 0 => .inl ⟨rfl, fun j h => absurd h (kd7 j)⟩
 | n + 1 => by
  rcases w8 p n with ⟨h1, h2⟩ | ⟨k, hk, h1, h2⟩
  ·cases e : p n with
   | false => exact .inl ⟨g6 h1 e, fun j hj => (Nat.lt_succ_iff_lt_or_eq.1 hj).elim (h2 j) fun e9 => e9 ▸ e⟩
   | true => exact .inr ⟨n, kl9 n, jL h1 e _ (kl9 n), e⟩
  ·refine .inr ⟨k, by omega, ?_, h2⟩
   show (if 0 ≤ zF p n then _ else _) = _
   rw [if_pos (by omega)]; exact h1
theorem k0o {p : Nat → Bool} {n : Nat} (h : 0 ≤ zF p n) : ∃ k, k < n ∧ p k = true := by
 rcases w8 p n with ⟨h1, _⟩ | ⟨k, hk, _, h2⟩
 ·omega
 ·exact ⟨k, hk, h2⟩
theorem pL {p : Nat → Bool} {n : Nat} (h : ¬ 0 ≤ zF p n) : ∀ j, j < n → p j = false := by
 rcases w8 p n with ⟨_, h2⟩ | ⟨k, hk, h1, _⟩
 ·exact h2
 ·omega
def hmK (ms : List (List Int)) (m : List Int) : Nat → Int := zF fun j => v8 (ka1 ms j []) m
theorem u4i {ms : List (List Int)} {m : List Int} {c : Nat} (hc : ms.length = c) (h : 0 ≤ hmK ms m c) : gJ ms m = true := by
 obtain ⟨k, hk, h1⟩ := k0o h
 exact u71 (k := k) (by omega) h1
theorem u4k {ms : List (List Int)} {m : List Int} {c : Nat} (hc : ms.length = c) (h : ¬ 0 ≤ hmK ms m c) : gJ ms m = false :=
 u72 fun j hj => pL h j (by omega)
def zP (bs : List Bx) : Nat → Int := zF fun j => !(vbE bs j)
theorem u8n {bs : List Bx} {n : Nat} (hn : bs.length = n) (h : 0 ≤ zP bs n) : cQ bs = false := by
 obtain ⟨k, hk, h1⟩ := k0o h
 exact u1o (k := k) (by omega) (by simpa using h1)
theorem u8p {bs : List Bx} {n : Nat} (hn : bs.length = n) (h2 : n ≤ 64) (h : ¬ 0 ≤ zP bs n) : cQ bs = true :=
 k69 (by omega) fun j hj => by
  have h3 := pL h j (by omega)
  simpa using h3
def kjB (b q : Int) : Bool := decide (1 ≤ q ∧ q ≤ 7) && jI b q.toNat
theorem v2u {b q : Int} (h : ¬ (1 ≤ q ∧ q ≤ 7)) : kjB b q = false := by unfold kjB; rw [decide_eq_false h]; rfl
theorem u6s {b : Int} {q : Nat} : kjB b (q : Int) = jI b q := by
 unfold kjB
 rw [Int.toNat_natCast]
 by_cases h : 1 ≤ q ∧ q ≤ 7
 ·rw [decide_eq_true (by omega : 1 ≤ (q : Int) ∧ (q : Int) ≤ 7)]; rfl
 ·rw [decide_eq_false (by omega : ¬ (1 ≤ (q : Int) ∧ (q : Int) ≤ 7))]
  exact (decide_eq_false fun e => h ⟨e.1, e.2.1⟩).symm
def iB (k : Int) (r : List Int) (rn : Nat) (m : List (List Int)) (s : List Int) (sn : Nat) (ck cr : Int) (cm : List Int) (cz : Int) : Bool := kjB k ck && (dJ (kC r rn) cr && (gJ m cm && dJ (kC s sn) cz))
def biE (bs : List Bx) (ck cr : Int) (cm : List Int) (cz : Int) (i : Nat) : Bool := iB (kQ bs i) (kZ bs i) (kX bs i) (kL bs i) (qA bs i) (k8 bs i) ck cr cm cz
def haB (bs : List Bx) (ck cr : Int) (cm : List Int) (cz : Int) : Bool := decide (∃ i, i < bs.length ∧ biE bs ck cr cm cz i = true)
def biK (bs : List Bx) (ck cr : Int) (cm : List Int) (cz : Int) : Nat → Int := zF (biE bs ck cr cm cz)
theorem v0l {bs : List Bx} {ck cr : Int} {cm : List Int} {cz : Int} {n : Nat} (hn : bs.length = n) (h : 0 ≤ biK bs ck cr cm cz n) : haB bs ck cr cm cz = true := by
 obtain ⟨k, hk, h1⟩ := k0o h
 exact decide_eq_true ⟨k, by omega, h1⟩
theorem v0m {bs : List Bx} {ck cr : Int} {cm : List Int} {cz : Int} {n : Nat} (hn : bs.length = n) (h : ¬ 0 ≤ biK bs ck cr cm cz n) : haB bs ck cr cm cz = false :=
 decide_eq_false fun ⟨j, hj, e⟩ => by
  have := pL h j (by omega); rw [e] at this; cases this
theorem v14 {k : Int} {r : List Int} {rn : Nat} {m : List (List Int)} {s : List Int} {sn : Nat} {ck cr : Int} {cm : List Int} {cz : Int} (h1 : kjB k ck = true) (h2 : dJ (kC r rn) cr = true) (h3 : gJ m cm = true) (h4 : dJ (kC s sn) cz = true) : iB k r rn m s sn ck cr cm cz = true := by
 unfold iB; rw [h1, h2, h3, h4]; rfl
theorem v15 {k : Int} {r : List Int} {rn : Nat} {m : List (List Int)} {s : List Int} {sn : Nat} {ck cr : Int} {cm : List Int} {cz : Int} (h1 : kjB k ck = false) : iB k r rn m s sn ck cr cm cz = false := by
 unfold iB; rw [h1]; rfl
theorem v35 {k : Int} {r : List Int} {rn : Nat} {m : List (List Int)} {s : List Int} {sn : Nat} {ck cr : Int} {cm : List Int} {cz : Int} (h2 : dJ (kC r rn) cr = false) : iB k r rn m s sn ck cr cm cz = false := by
 unfold iB; rw [h2, ki9, kc8]
theorem v36 {k : Int} {r : List Int} {rn : Nat} {m : List (List Int)} {s : List Int} {sn : Nat} {ck cr : Int} {cm : List Int} {cz : Int} (h3 : gJ m cm = false) : iB k r rn m s sn ck cr cm cz = false := by
 unfold iB; rw [h3, ki9, kc8, kc8]
theorem v34 {k : Int} {r : List Int} {rn : Nat} {m : List (List Int)} {s : List Int} {sn : Nat} {ck cr : Int} {cm : List Int} {cz : Int} (h4 : dJ (kC s sn) cz = false) : iB k r rn m s sn ck cr cm cz = false := by
 unfold iB; rw [h4, kc8, kc8, kc8]
def uK (a b : List (List Int)) : Nat → List (List Int)
 | 0 => []
 | i + 1 => if gJ b (ka1 a i []) = true then uK a b i ++ [ka1 a i []] else uK a b i
theorem k4d {a b o : List (List Int)} {i : Nat} (h : uK a b i = o) (h1 : gJ b (ka1 a i []) = true) : uK a b (i + 1) = o ++ [ka1 a i []] := by subst h; exact if_pos h1
theorem k4e {a b o : List (List Int)} {i : Nat} (h : uK a b i = o) (h1 : gJ b (ka1 a i []) = false) : uK a b (i + 1) = o := by subst h; exact if_neg (by rw [h1]; decide)
theorem nF {a : List (List Int)} (h : MsW a) (b : List (List Int)) : ∀ i, MsW (uK a b i)
 | 0 => MsW.nil
 | i + 1 => by
  rw [uK]; split
  ·exact (nF h b i).snoc (h.at i)
  ·exact nF h b i
theorem bT (a b : List (List Int)) : ∀ i, ka0 (uK a b i) ≤ i
 | 0 => Nat.le_refl _
 | i + 1 => by
  have := bT a b i
  rw [uK]; split
  ·rw [ka6, List.length_singleton]; omega
  ·omega
theorem v0k {ms : List (List Int)} {m : List Int} {k : Nat} (h : hmK ms m k = -1) (h2 : v8 (ka1 ms k []) m = false) : hmK ms m (k + 1) = -1 := g6 h h2
theorem u4j {ms : List (List Int)} {m : List Int} {k : Nat} (h : hmK ms m k = -1) (h2 : v8 (ka1 ms k []) m = true) {n : Nat} (hn : k < n) : hmK ms m n = (k : Int) := jL h h2 n hn
def nxB (k : Int) (r : List Int) (rn : Nat) (m : List (List Int)) (s : List Int) (sn : Nat) : Bool := !(d5 k r rn m s sn)
theorem u9s {k : Int} {r : List Int} {rn : Nat} {m : List (List Int)} {s : List Int} {sn : Nat} (h : d5 k r rn m s sn = false) : nxB k r rn m s sn = true := by unfold nxB; rw [h]; rfl
theorem u9t {k : Int} {r : List Int} {rn : Nat} {m : List (List Int)} {s : List Int} {sn : Nat} (h : d5 k r rn m s sn = true) : nxB k r rn m s sn = false := by unfold nxB; rw [h]; rfl
theorem u8o {bs : List Bx} {k : Nat} (h : zP bs k = -1) (h2 : nxB (kQ bs k) (kZ bs k) (kX bs k) (kL bs k) (qA bs k) (k8 bs k) = false) : zP bs (k + 1) = -1 := g6 h h2
theorem u44 {bs : List Bx} {k : Nat} (h : zP bs k = -1) (h2 : nxB (kQ bs k) (kZ bs k) (kX bs k) (kL bs k) (qA bs k) (k8 bs k) = true) {n : Nat} (hn : k < n) : zP bs n = (k : Int) := jL h h2 n hn
def naB (bs : List Bx) (n : Nat) : Bool := decide (0 ≤ zP bs n)
theorem u6k {bs : List Bx} {n : Nat} (hn : bs.length = n) (h : naB bs n = true) : cQ bs = false := u8n hn (of_decide_eq_true h)
theorem u6j {bs : List Bx} {n : Nat} (hn : bs.length = n) (h2 : n ≤ 64) (h : naB bs n = false) : cQ bs = true := u8p hn h2 (of_decide_eq_false h)
theorem v2s {b : Int} {q : Nat} (h1 : 1 ≤ q ∧ q ≤ 7) (h : dE (b / ((2 ^ q : Nat) : Int)) = 1) : kjB b (q : Int) = true := by
 rw [u6s]; exact decide_eq_true ⟨h1.1, h1.2, h⟩
theorem v2t {b : Int} {q : Nat} (h : ¬ dE (b / ((2 ^ q : Nat) : Int)) = 1) : kjB b (q : Int) = false := by
 rw [u6s]; exact decide_eq_false fun e => h e.2.2
theorem v16 {bs : List Bx} {ck cr : Int} {cm : List Int} {cz : Int} {k : Nat} (h : biK bs ck cr cm cz k = -1) (h2 : iB (kQ bs k) (kZ bs k) (kX bs k) (kL bs k) (qA bs k) (k8 bs k) ck cr cm cz = false) : biK bs ck cr cm cz (k + 1) = -1 := g6 h h2
theorem u53 {bs : List Bx} {ck cr : Int} {cm : List Int} {cz : Int} {k : Nat} (h : biK bs ck cr cm cz k = -1) (h2 : iB (kQ bs k) (kZ bs k) (kX bs k) (kL bs k) (qA bs k) (k8 bs k) ck cr cm cz = true) {n : Nat} (hn : k < n) : biK bs ck cr cm cz n = (k : Int) := jL h h2 n hn
theorem u1d (w a : List Int) (o n : Nat) (ho : ka0 w = o) (hn : ka0 a = n) (h1 : o ≤ 1000000) (h2 : n ≤ 1000000) : Fun 136 [.c (.d (D.sl (dI .i64 a) n)), .c (.ptr 0 0)] (kH [(0, some (23, .ds [D.sl (dI .i64 w) o]))]) 1 (.e (.c (.d (D.lit (.bool (v8 a w)))))) (kH [(0, some (23, .ds [D.sl (dI .i64 w) o]))]) 1 := by
 refine Fun.mk (n := 7) Tryz.func136 rfl rfl (ka4 rfl) ?_
 intro cx hcx
 refine kK [.no] True [(0, sV .i64 a n), (1, rV 0 0)] [(0, some (23, .ds [dl w o]))] 1 trivial ?_
 refine kO [.no, .no, .call [] (.e (.c (.d (D.lit (.bool (v8 a w)))))) [] 0 [] none, .no] _ [(3, .e (.c (.d (D.lit (.bool (v8 a w))))))] (k2w a w n o zo zo zo zo) ?_
 refine AW.ret ?_
 exact kA (.inr rfl) [] (P := ((v8 a w) = (v8 a w)) ∧ (kM [dl w o])) zk ⟨rfl, rfl⟩
theorem fS {p : Prop} (h : p := by first | omega | assumption | simp) : p := h
theorem i0 {p : Prop} (h : p := by first | omega | (simp only [qC, qB, ka6, kb0, kb1, kb2, kb3] <;> omega)) : p := h
theorem uQ {p : Prop} (h : p := by first | omega | with_reducible assumption | (simp only [qC, qB, ka6, kb0, kb1, kb2, kb3, List.length_replicate, List.length_set] <;> omega) | rfl | assumption) : p := h
theorem tG {p : Prop} (h : p := by first | rfl | omega | assumption | (simp; done) | (simp; omega)) : p := h
theorem u5h (ms : List (List Int)) (c : Nat) (w : List Int) (o : Nat) (hc : ka0 ms = c) (ho : ka0 w = o) (h1 : c ≤ 1000000) (h2 : o ≤ 1000000) (hW : MsW ms) : Fun 146 [.c (.d (D.sl (kI ms) c)), .c (.fn 136 [(0, 0)])] (kH [(0, some (23, .ds [D.sl (dI .i64 w) o]))]) 1 (iV (hmK ms w c)) (kH [(0, some (23, .ds [D.sl (dI .i64 w) o]))]) 1 := by
 refine Fun.mk (n := 19) Tryz.func146 rfl rfl (ka4 rfl) ?_
 intro cx hcx
 refine kK [.no] True [(0, .e (.c (.d (D.sl (kI ms) c)))), (1, .e (.c (.fn 136 [(0, 0)])))] [(0, some (23, .ds [dl w o]))] 1 trivial ?_
 refine AW.seq ?_
 refine kO [.no, .no, .no] True [(0, .e (.c (.d (D.sl (kI ms) c)))), (1, .e (.c (.fn 136 [(0, 0)]))), (7, uV c), (8, iV 0)] trivial ?_
 refine AW.block ?_
 refine kY 1 hcx (fun (x : {x : Nat // match x with | k => (k ≤ c) ∧ (hmK ms w k = -1)}) => match x with | ⟨k, _⟩ => (⟨[(0, .e (.c (.d (D.sl (kI ms) c)))), (1, .e (.c (.fn 136 [(0, 0)]))), (7, uV c), (8, uV k)], [(0, some (23, .ds [dl w o]))], 1⟩ : ES)) (fun x => match x with | ⟨k, _⟩ => c - k) ⟨(0 : Nat), ⟨fS, rfl⟩⟩ [] (P := (kM (kI ms)) ∧ (kJ c) ∧ (kN (c : Int)) ∧ (kN 0) ∧ (kM [dl w o])) zk ⟨rfl, rfl, rfl, rfl, rfl⟩ ?_
 rintro ⟨k, hinv0⟩
 obtain ⟨hk, hi⟩ : (k ≤ c) ∧ (hmK ms w k = -1) := hinv0
 refine qS (l := [(0, .e (.c (.d (D.sl (kI ms) c)))), (1, .e (.c (.fn 136 [(0, 0)]))), (7, uV c), (8, uV k)]) (g := [(0, some (23, .ds [dl w o]))]) (nx := 1) rfl rfl rfl ?_
 by_cases hx1 : (((k : Nat) : Int) < ((c : Nat) : Int))
 ·refine kK [.b true] (((k : Int) < (c : Int))) [(0, .e (.c (.d (D.sl (kI ms) c)))), (1, .e (.c (.fn 136 [(0, 0)]))), (7, uV c), (8, uV k), (9, bV true)] [(0, some (23, .ds [dl w o]))] 1 zo ?_
  refine AW.seq ?_
  refine vB ?_
  refine AW.seq ?_
  refine AW.block ?_
  refine kO [.no, .no] True [(0, .e (.c (.d (D.sl (kI ms) c)))), (1, .e (.c (.fn 136 [(0, 0)]))), (5, uV k), (7, uV c), (8, uV k)] trivial ?_
  rcases ka9 (v8 (ka1 ms k ([] : List Int)) w) with hx3 | hx3
  ·have hx4 : ((ka0 (ka1 ms k ([] : List Int))) ≤ 1000000) := MsW.at (qD : MsW ms) _
   refine kO [.no, .no, .no, .n k, .d (dl (ka1 ms k ([] : List Int)) (ka0 (ka1 ms k ([] : List Int)))), .call [0] (bV true) [(0, some (23, .ds [dl w o]))] 1 [] none] ((kN (k : Int)) ∧ (k < c) ∧ ((ka3 k (kI ms))[0]? = some (dl (ka1 ms k ([] : List Int)) (ka0 (ka1 ms k ([] : List Int))))) ∧ (Fun 136 [.c (.d (dl (ka1 ms k ([] : List Int)) (ka0 (ka1 ms k ([] : List Int))))), .c (.ptr 0 0)] (kH [(0, some (23, .ds [dl w o]))]) 1 (bV true) (kH [(0, some (23, .ds [dl w o]))]) 1)) [(0, .e (.c (.d (D.sl (kI ms) c)))), (1, .e (.c (.fn 136 [(0, 0)]))), (5, uV k), (7, uV c), (8, uV k), (16, bV true)] ⟨rfl, zo, (vQ _ _ i0), (by have h0 := (u1d w (ka1 ms k ([] : List Int)) o (ka0 (ka1 ms k ([] : List Int))) zo rfl zo uQ); rw [hx3] at h0; exact h0)⟩ ?_
   refine zt ?_
   refine kO [.no, .no] True [(4, uV k)] trivial ?_
   refine AW.ret ?_
   exact kA (.inr rfl) [] (P := (((hmK ms w c) : Int) = (k : Int)) ∧ (kM [dl w o])) zk ⟨(by first | rfl | exact u4j hi (by assumption) zo | (rw [show c = k by omega]; exact hi) | omega), rfl⟩
  ·have hx5 : ((ka0 (ka1 ms k ([] : List Int))) ≤ 1000000) := MsW.at (qD : MsW ms) _
   refine kO [.no, .no, .no, .n k, .d (dl (ka1 ms k ([] : List Int)) (ka0 (ka1 ms k ([] : List Int)))), .call [0] (bV false) [(0, some (23, .ds [dl w o]))] 1 [] none] ((kN (k : Int)) ∧ (k < c) ∧ ((ka3 k (kI ms))[0]? = some (dl (ka1 ms k ([] : List Int)) (ka0 (ka1 ms k ([] : List Int))))) ∧ (Fun 136 [.c (.d (dl (ka1 ms k ([] : List Int)) (ka0 (ka1 ms k ([] : List Int))))), .c (.ptr 0 0)] (kH [(0, some (23, .ds [dl w o]))]) 1 (bV false) (kH [(0, some (23, .ds [dl w o]))]) 1)) [(0, .e (.c (.d (D.sl (kI ms) c)))), (1, .e (.c (.fn 136 [(0, 0)]))), (5, uV k), (7, uV c), (8, uV k), (16, bV false)] ⟨rfl, zo, (vQ _ _ i0), (by have h0 := (u1d w (ka1 ms k ([] : List Int)) o (ka0 (ka1 ms k ([] : List Int))) zo rfl zo uQ); rw [hx3] at h0; exact h0)⟩ ?_
   refine q9 ?_
   refine uT [.w, .no] ((-9223372036854775808) ≤ ((k : Int) + 1) ∧ ((k : Int) + 1) ≤ 9223372036854775807) [(0, .e (.c (.d (D.sl (kI ms) c)))), (1, .e (.c (.fn 136 [(0, 0)]))), (7, uV c), (8, iV (↑k + 1))] ⟨by omega, by omega⟩ ?_
   exact kW ⟨((k + 1) : Nat), ⟨fS, (v0k hi (by assumption))⟩⟩ [] (P := (kM (kI ms)) ∧ (kJ c) ∧ (kN (c : Int)) ∧ (((((k + 1) : Nat) : Int) : Int) = ((k : Int) + 1)) ∧ (kM [dl w o])) zk ⟨rfl, rfl, rfl, tG, rfl⟩ (show c - (k + 1) < c - k from (by first | omega | (show _ < _; simp; omega)))
 ·refine kK [.b false] (¬ ((k : Int) < (c : Int))) [(0, .e (.c (.d (D.sl (kI ms) c)))), (1, .e (.c (.fn 136 [(0, 0)]))), (7, uV c), (8, uV k), (9, bV false)] [(0, some (23, .ds [dl w o]))] 1 zo ?_
  refine AW.seq ?_
  refine zf ?_
  refine AW.exit ?_
  refine kK [.no] True [(4, iV (-1))] [(0, some (23, .ds [dl w o]))] 1 trivial ?_
  refine AW.ret ?_
  exact kA (.inr rfl) [] (P := (((hmK ms w c) : Int) = (-1)) ∧ (kM [dl w o])) zk ⟨(by first | rfl | exact u4j hi (by assumption) zo | (rw [show c = k by omega]; exact hi) | omega), rfl⟩
theorem v1p (ms : List (List Int)) (c : Nat) (w : List Int) (o : Nat) (hc : ka0 ms = c) (ho : ka0 w = o) (h1 : c ≤ 1000000) (h2 : o ≤ 1000000) (hW : MsW ms) : Fun 126 [.c (.d (D.sl (kI ms) c)), .c (.fn 136 [(0, 0)])] (kH [(0, some (23, .ds [D.sl (dI .i64 w) o]))]) 1 (.e (.c (.d (D.lit (.bool (gJ ms w)))))) (kH [(0, some (23, .ds [D.sl (dI .i64 w) o]))]) 1 := by
 refine Fun.mk (n := 9) Tryz.func126 rfl rfl (ka4 rfl) ?_
 intro cx hcx
 refine kK [.no] True [(0, .e (.c (.d (D.sl (kI ms) c)))), (1, .e (.c (.fn 136 [(0, 0)])))] [(0, some (23, .ds [dl w o]))] 1 trivial ?_
 by_cases hx1 : ((0 : Int) ≤ (hmK ms w c))
 ·refine kO [.no, .no, .call [0] (iV (hmK ms w c)) [(0, some (23, .ds [dl w o]))] 1 [] none, .b true, .no] ((_) ∧ (((0 : Int) ≤ (hmK ms w c)))) [(4, bV true)] ⟨(u5h ms c w o zo zo zo zo (qD : MsW ms)), zo⟩ ?_
  refine AW.ret ?_
  exact kA (.inr rfl) [] (P := ((gJ ms w) = true) ∧ (kM [dl w o])) zk ⟨(by first | exact u4i hc zo | exact u4k hc zo), rfl⟩
 ·refine kO [.no, .no, .call [0] (iV (hmK ms w c)) [(0, some (23, .ds [dl w o]))] 1 [] none, .b false, .no] ((_) ∧ (¬ ((0 : Int) ≤ (hmK ms w c)))) [(4, bV false)] ⟨(u5h ms c w o zo zo zo zo (qD : MsW ms)), zo⟩ ?_
  refine AW.ret ?_
  exact kA (.inr rfl) [] (P := ((gJ ms w) = false) ∧ (kM [dl w o])) zk ⟨(by first | exact u4i hc zo | exact u4k hc zo), rfl⟩
theorem lR (ms : List (List Int)) (c : Nat) (w : List Int) (o : Nat) (hc : ka0 ms = c) (ho : ka0 w = o) (h1 : c ≤ 1000000) (h2 : o ≤ 1000000) (hW : MsW ms) : Fun 96 [.c (.d (D.sl (kI ms) c)), .c (.d (D.sl (dI .i64 w) o))] (kH []) 0 (.e (.c (.d (D.lit (.bool (gJ ms w)))))) (kH []) 0 := by
 refine Fun.mk (n := 8) Tryz.func96 rfl rfl (ka4 rfl) ?_
 intro cx hcx
 refine kK [.no, .no] True [(0, .e (.c (.d (D.sl (kI ms) c)))), (3, rV 0 0)] [(0, some (23, .ds [dl w o]))] 1 trivial ?_
 refine kK [.no, .no, .call [0] (.e (.c (.d (D.lit (.bool (gJ ms w)))))) [(0, some (23, .ds [dl w o]))] 1 [] none, .no] _ [(4, .e (.c (.d (D.lit (.bool (gJ ms w))))))] [] 1 (v1p ms c w o zo zo zo zo (qD : MsW ms)) ?_
 refine AW.ret ?_
 exact kA (.inr rfl) [] (P := ((gJ ms w) = (gJ ms w))) zk rfl
theorem oM {p : Prop} (h : p := by first | exact u43 (by assumption) | exact u42 (by assumption)) : p := h
theorem xZ (m : List (List Int)) (c : Nat) (hc : ka0 m = c) (h1 : c ≤ 1000000) (hW : MsW m) : Fun 88 [.c (.d (D.sl (kI m) c))] (kH []) 0 (.e (.c (.d (D.lit (.bool (rC m)))))) (kH []) 0 := by
 refine Fun.mk (n := 31) Tryz.func88 rfl rfl (ka4 rfl) ?_
 intro cx hcx
 refine kK [.no] True [(0, .e (.c (.d (D.sl (kI m) c))))] [] 0 trivial ?_
 refine AW.seq ?_
 by_cases hx1 : (((c : Nat) : Int) < 1)
 ·refine kO [.no, .no, .b true, .no, .no] (((c : Int) < 1)) [(0, .e (.c (.d (D.sl (kI m) c)))), (12, bV true)] zo ?_
  refine zt ?_
  refine kO [.no] True [(2, bV false)] trivial ?_
  refine AW.ret ?_
  exact kA (.inr rfl) [] (P := ((rC m) = false)) zk (by first | exact i7 zo zo (fun j hj => ha j zo) | exact jT zo | exact jU (k := i) zo oM)
 ·by_cases hx2 : ((16 : Int) < ((c : Nat) : Int))
  ·refine kO [.no, .no, .b false, .no, .no, .no, .b true, .no] ((¬ ((c : Int) < 1)) ∧ (((16 : Int) < (c : Int)))) [(0, .e (.c (.d (D.sl (kI m) c)))), (12, bV true)] ⟨zo, zo⟩ ?_
   refine zt ?_
   refine kO [.no] True [(2, bV false)] trivial ?_
   refine AW.ret ?_
   exact kA (.inr rfl) [] (P := ((rC m) = false)) zk (by first | exact i7 zo zo (fun j hj => ha j zo) | exact jT zo | exact jU (k := i) zo oM)
  ·refine kO [.no, .no, .b false, .no, .no, .no, .b false, .no] ((¬ ((c : Int) < 1)) ∧ (¬ ((16 : Int) < (c : Int)))) [(0, .e (.c (.d (D.sl (kI m) c)))), (12, bV false)] ⟨zo, zo⟩ ?_
   refine q9 ?_
   refine AW.seq ?_
   refine kO [.no, .no, .no] True [(0, .e (.c (.d (D.sl (kI m) c)))), (13, .e (.c (.d (D.sl (kI m) c)))), (14, uV c), (15, iV 0)] trivial ?_
   refine AW.block ?_
   refine kY 0 hcx (fun (x : {x : Nat // match x with | i => (i ≤ c) ∧ (∀ j, j < i → vmE m j = true)}) => match x with | ⟨i, _⟩ => (⟨[(0, .e (.c (.d (D.sl (kI m) c)))), (13, .e (.c (.d (D.sl (kI m) c)))), (14, uV c), (15, uV i)], [], 0⟩ : ES)) (fun x => match x with | ⟨i, _⟩ => c - i) ⟨(0 : Nat), ⟨fS, (fun j hj => absurd hj (kd7 j))⟩⟩ [] (P := (kM (kI m)) ∧ (kJ c) ∧ (kM (kI m)) ∧ (kJ c) ∧ (kN (c : Int)) ∧ (kN 0)) zk ⟨rfl, rfl, rfl, rfl, rfl, rfl⟩ ?_
   rintro ⟨i, hinv0⟩
   obtain ⟨hi, ha⟩ : (i ≤ c) ∧ (∀ j, j < i → vmE m j = true) := hinv0
   refine qS (l := [(0, .e (.c (.d (D.sl (kI m) c)))), (13, .e (.c (.d (D.sl (kI m) c)))), (14, uV c), (15, uV i)]) (g := []) (nx := 0) rfl rfl rfl ?_
   by_cases hx3 : (((i : Nat) : Int) < ((c : Nat) : Int))
   ·refine kK [.b true] (((i : Int) < (c : Int))) [(0, .e (.c (.d (D.sl (kI m) c)))), (13, .e (.c (.d (D.sl (kI m) c)))), (14, uV c), (15, uV i), (16, bV true)] [] 0 zo ?_
    refine AW.seq ?_
    refine vB ?_
    refine AW.seq ?_
    refine AW.block ?_
    have hx4 : ((ka0 (ka1 m i ([] : List Int))) ≤ 1000000) := MsW.at (qD : MsW m) _
    refine kO [.no, .n i, .d (dl (ka1 m i ([] : List Int)) (ka0 (ka1 m i ([] : List Int)))), .no, .no] ((kN (i : Int)) ∧ (i < c) ∧ ((ka3 i (kI m))[0]? = some (dl (ka1 m i ([] : List Int)) (ka0 (ka1 m i ([] : List Int)))))) [(0, .e (.c (.d (D.sl (kI m) c)))), (3, uV i), (4, sV .i64 (ka1 m i ([] : List Int)) (ka0 (ka1 m i ([] : List Int)))), (13, .e (.c (.d (D.sl (kI m) c)))), (14, uV c), (15, uV i)] ⟨rfl, zo, (vQ _ _ i0)⟩ ?_
    rcases ka9 (nG (ka1 m i ([] : List Int)) (ka0 (ka1 m i ([] : List Int)))) with hx5 | hx5
    ·rcases ka9 (gJ (ka5 i m) (ka1 m i ([] : List Int))) with hx6 | hx6
     ·refine kO (.no :: .call [] (bV true) [] 0 [] none :: qE 4 [.sls 0 i i (kI (ka5 i m)), .no, .call [] (bV true) [] 0 [] none, .no]) ((Fun 131 [.c (.d (dl (ka1 m i ([] : List Int)) (ka0 (ka1 m i ([] : List Int)))))] (kH []) 0 (bV true) (kH []) 0) ∧ (kJ 0) ∧ (kN (i : Int)) ∧ ((0 : Nat) ≤ i) ∧ (i ≤ c) ∧ (i - 0 = i) ∧ (ka5 (i * 1) (ka3 (0 * 1) (kI m)) = (kI (ka5 i m))) ∧ (Fun 96 [.c (.d (D.sl (kI (ka5 i m)) i)), .c (.d (dl (ka1 m i ([] : List Int)) (ka0 (ka1 m i ([] : List Int)))))] (kH []) 0 (bV true) (kH []) 0)) [(0, .e (.c (.d (D.sl (kI m) c)))), (13, .e (.c (.d (D.sl (kI m) c)))), (14, uV c), (15, uV i), (29, bV true)] ⟨(by have h0 := (xV (ka1 m i ([] : List Int)) (ka0 (ka1 m i ([] : List Int))) rfl uQ); rw [hx5] at h0; exact h0), rfl, rfl, zo, zo, zo, (lA _ _), (by have h0 := (lR (ka5 i m) i (ka1 m i ([] : List Int)) (ka0 (ka1 m i ([] : List Int))) uQ rfl zo uQ (MsW.take (qD : MsW m) _)); rw [hx6] at h0; exact h0)⟩ ?_
      refine zt ?_
      refine kO [.no] True [(2, bV false)] trivial ?_
      refine AW.ret ?_
      exact kA (.inr rfl) [] (P := ((rC m) = false)) zk (by first | exact i7 zo zo (fun j hj => ha j zo) | exact jT zo | exact jU (k := i) zo oM)
     ·refine kO (.no :: .call [] (bV true) [] 0 [] none :: qE 4 [.sls 0 i i (kI (ka5 i m)), .no, .call [] (bV false) [] 0 [] none, .no]) ((Fun 131 [.c (.d (dl (ka1 m i ([] : List Int)) (ka0 (ka1 m i ([] : List Int)))))] (kH []) 0 (bV true) (kH []) 0) ∧ (kJ 0) ∧ (kN (i : Int)) ∧ ((0 : Nat) ≤ i) ∧ (i ≤ c) ∧ (i - 0 = i) ∧ (ka5 (i * 1) (ka3 (0 * 1) (kI m)) = (kI (ka5 i m))) ∧ (Fun 96 [.c (.d (D.sl (kI (ka5 i m)) i)), .c (.d (dl (ka1 m i ([] : List Int)) (ka0 (ka1 m i ([] : List Int)))))] (kH []) 0 (bV false) (kH []) 0)) [(0, .e (.c (.d (D.sl (kI m) c)))), (13, .e (.c (.d (D.sl (kI m) c)))), (14, uV c), (15, uV i), (29, bV false)] ⟨(by have h0 := (xV (ka1 m i ([] : List Int)) (ka0 (ka1 m i ([] : List Int))) rfl uQ); rw [hx5] at h0; exact h0), rfl, rfl, zo, zo, zo, (lA _ _), (by have h0 := (lR (ka5 i m) i (ka1 m i ([] : List Int)) (ka0 (ka1 m i ([] : List Int))) uQ rfl zo uQ (MsW.take (qD : MsW m) _)); rw [hx6] at h0; exact h0)⟩ ?_
      refine q9 ?_
      refine uT [.w, .no] ((-9223372036854775808) ≤ ((i : Int) + 1) ∧ ((i : Int) + 1) ≤ 9223372036854775807) [(0, .e (.c (.d (D.sl (kI m) c)))), (13, .e (.c (.d (D.sl (kI m) c)))), (14, uV c), (15, iV (↑i + 1))] ⟨by omega, by omega⟩ ?_
      exact kW ⟨((i + 1) : Nat), ⟨fS, (fun j hj => (Nat.lt_succ_iff_lt_or_eq.1 hj).elim (ha j) (fun e9 => by subst e9; exact k68 (by assumption) (by assumption)))⟩⟩ [] (P := (kM (kI m)) ∧ (kJ c) ∧ (kM (kI m)) ∧ (kJ c) ∧ (kN (c : Int)) ∧ (((((i + 1) : Nat) : Int) : Int) = ((i : Int) + 1))) zk ⟨rfl, rfl, rfl, rfl, rfl, tG⟩ (show c - (i + 1) < c - i from (by first | omega | (show _ < _; simp; omega)))
    ·refine kO [.no, .call [] (bV false) [] 0 [] none, .no, .no, .no] (Fun 131 [.c (.d (dl (ka1 m i ([] : List Int)) (ka0 (ka1 m i ([] : List Int)))))] (kH []) 0 (bV false) (kH []) 0) [(0, .e (.c (.d (D.sl (kI m) c)))), (13, .e (.c (.d (D.sl (kI m) c)))), (14, uV c), (15, uV i), (29, bV true)] (by have h0 := (xV (ka1 m i ([] : List Int)) (ka0 (ka1 m i ([] : List Int))) rfl uQ); rw [hx5] at h0; exact h0) ?_
     refine zt ?_
     refine kO [.no] True [(2, bV false)] trivial ?_
     refine AW.ret ?_
     exact kA (.inr rfl) [] (P := ((rC m) = false)) zk (by first | exact i7 zo zo (fun j hj => ha j zo) | exact jT zo | exact jU (k := i) zo oM)
   ·refine kK [.b false] (¬ ((i : Int) < (c : Int))) [(0, .e (.c (.d (D.sl (kI m) c)))), (13, .e (.c (.d (D.sl (kI m) c)))), (14, uV c), (15, uV i), (16, bV false)] [] 0 zo ?_
    refine AW.seq ?_
    refine zf ?_
    refine AW.exit ?_
    refine kK [.no] True [(2, bV true)] [] 0 trivial ?_
    refine AW.ret ?_
    exact kA (.inr rfl) [] (P := ((rC m) = true)) zk (by first | exact i7 zo zo (fun j hj => ha j zo) | exact jT zo | exact jU (k := i) zo oM)
theorem lY {p : Prop} (h : p := by first | exact mU (by omega) (by assumption) (by assumption) (by assumption) | exact rW (by omega) | exact fK (by assumption) | exact rU (by assumption) | exact rT (by assumption)) : p := h
theorem m5 (k : Int) (r : List Int) (rn : Nat) (m : List (List Int)) (c : Nat) (s : List Int) (sn : Nat) (hr : ka0 r = rn * 2) (hs : ka0 s = sn * 2) (hc : ka0 m = c) (h1 : rn ≤ 1000000) (h2 : sn ≤ 1000000) (h3 : c ≤ 1000000) (hW : MsW m) : Fun 43 [.agg [iC k, .d (D.sl (dI .i64 r) rn), .d (D.sl (kI m) c), .d (D.sl (dI .i64 s) sn)]] (kH []) 0 (.e (.c (.d (D.lit (.bool (d5 k r rn m s sn)))))) (kH []) 0 := by
 refine Fun.mk (n := 27) Tryz.func43 rfl rfl (ka4 rfl) ?_
 intro cx hcx
 refine kK [.no, .no] True [(1, rV 0 0)] [(0, some (59, .ds [iD k, dl r rn, D.sl (kI m) c, dl s sn]))] 1 trivial ?_
 by_cases hx1 : (k ≠ 0)
 ·by_cases hx2 : ((fP k) = 0)
  ·rcases ka9 (d9 r rn 1000 768000) with hx3 | hx3
   ·rcases ka9 (rC m) with hx4 | hx4
    ·rcases ka9 (d9 s sn 1 65536) with hx5 | hx5
     ·refine kK (.no :: .no :: .b true :: .no :: .no :: .no :: .i (fP k) :: .b true :: qE 4 (.call [] (bV true) [] 0 [] none :: qE 4 (.call [] (bV true) [] 0 [] none :: qE 4 [.call [] (bV true) [] 0 [] none, .no, .no]))) (((k ≠ 0)) ∧ (qG .andNot .i64 k 254 = (fP k)) ∧ (((fP k) = 0)) ∧ (Fun 87 [.agg [.d (dl r rn)], iE 1000, iE 768000] (kH []) 0 (bV true) (kH []) 0) ∧ (Fun 88 [.c (.d (D.sl (kI m) c))] (kH []) 0 (bV true) (kH []) 0) ∧ (Fun 87 [.agg [.d (dl s sn)], iE 1, iE 65536] (kH []) 0 (bV true) (kH []) 0)) [(2, bV true)] [] 1 ⟨zo, rfl, zo, (by have h0 := (mY r rn 1000 768000 zo zo); rw [hx3] at h0; exact h0), (by have h0 := (xZ m c zo zo (qD : MsW m)); rw [hx4] at h0; exact h0), (by have h0 := (mY s sn 1 65536 zo zo); rw [hx5] at h0; exact h0)⟩ ?_
      refine AW.ret ?_
      exact kA (.inr rfl) [] (P := ((d5 k r rn m s sn) = true)) zk lY
     ·refine kK (.no :: .no :: .b true :: .no :: .no :: .no :: .i (fP k) :: .b true :: qE 4 (.call [] (bV true) [] 0 [] none :: qE 4 (.call [] (bV true) [] 0 [] none :: qE 4 [.call [] (bV false) [] 0 [] none, .no, .no]))) (((k ≠ 0)) ∧ (qG .andNot .i64 k 254 = (fP k)) ∧ (((fP k) = 0)) ∧ (Fun 87 [.agg [.d (dl r rn)], iE 1000, iE 768000] (kH []) 0 (bV true) (kH []) 0) ∧ (Fun 88 [.c (.d (D.sl (kI m) c))] (kH []) 0 (bV true) (kH []) 0) ∧ (Fun 87 [.agg [.d (dl s sn)], iE 1, iE 65536] (kH []) 0 (bV false) (kH []) 0)) [(2, bV false)] [] 1 ⟨zo, rfl, zo, (by have h0 := (mY r rn 1000 768000 zo zo); rw [hx3] at h0; exact h0), (by have h0 := (xZ m c zo zo (qD : MsW m)); rw [hx4] at h0; exact h0), (by have h0 := (mY s sn 1 65536 zo zo); rw [hx5] at h0; exact h0)⟩ ?_
      refine AW.ret ?_
      exact kA (.inr rfl) [] (P := ((d5 k r rn m s sn) = false)) zk lY
    ·refine kK (.no :: .no :: .b true :: .no :: .no :: .no :: .i (fP k) :: .b true :: qE 4 (.call [] (bV true) [] 0 [] none :: qE 4 (.call [] (bV false) [] 0 [] none :: qE 4 []))) (((k ≠ 0)) ∧ (qG .andNot .i64 k 254 = (fP k)) ∧ (((fP k) = 0)) ∧ (Fun 87 [.agg [.d (dl r rn)], iE 1000, iE 768000] (kH []) 0 (bV true) (kH []) 0) ∧ (Fun 88 [.c (.d (D.sl (kI m) c))] (kH []) 0 (bV false) (kH []) 0)) [(2, bV false)] [] 1 ⟨zo, rfl, zo, (by have h0 := (mY r rn 1000 768000 zo zo); rw [hx3] at h0; exact h0), (by have h0 := (xZ m c zo zo (qD : MsW m)); rw [hx4] at h0; exact h0)⟩ ?_
     refine AW.ret ?_
     exact kA (.inr rfl) [] (P := ((d5 k r rn m s sn) = false)) zk lY
   ·refine kK (.no :: .no :: .b true :: .no :: .no :: .no :: .i (fP k) :: .b true :: qE 4 (.call [] (bV false) [] 0 [] none :: qE 6 [])) (((k ≠ 0)) ∧ (qG .andNot .i64 k 254 = (fP k)) ∧ (((fP k) = 0)) ∧ (Fun 87 [.agg [.d (dl r rn)], iE 1000, iE 768000] (kH []) 0 (bV false) (kH []) 0)) [(2, bV false)] [] 1 ⟨zo, rfl, zo, (by have h0 := (mY r rn 1000 768000 zo zo); rw [hx3] at h0; exact h0)⟩ ?_
    refine AW.ret ?_
    exact kA (.inr rfl) [] (P := ((d5 k r rn m s sn) = false)) zk lY
  ·refine kK (.no :: .no :: .b true :: .no :: .no :: .no :: .i (fP k) :: .b false :: qE 8 []) (((k ≠ 0)) ∧ (qG .andNot .i64 k 254 = (fP k)) ∧ (¬ ((fP k) = 0))) [(2, bV false)] [] 1 ⟨zo, rfl, zo⟩ ?_
   refine AW.ret ?_
   exact kA (.inr rfl) [] (P := ((d5 k r rn m s sn) = false)) zk lY
 ·refine kK (.no :: .no :: .b false :: qE 9 []) (¬ (k ≠ 0)) [(2, bV false)] [] 1 zo ?_
  refine AW.ret ?_
  exact kA (.inr rfl) [] (P := ((d5 k r rn m s sn) = false)) zk lY
theorem k18 (k : Int) (r : List Int) (rn : Nat) (m : List (List Int)) (c : Nat) (s : List Int) (sn : Nat) (hr : ka0 r = rn * 2) (hs : ka0 s = sn * 2) (hc : ka0 m = c) (h1 : rn ≤ 1000000) (h2 : sn ≤ 1000000) (h3 : c ≤ 1000000) (hW : MsW m) : Fun 46 [.agg [iC k, .d (D.sl (dI .i64 r) rn), .d (D.sl (kI m) c), .d (D.sl (dI .i64 s) sn)]] (kH []) 0 (.e (.c (.d (D.lit (.bool (nxB k r rn m s sn)))))) (kH []) 0 := by
 refine Fun.mk (n := 6) Tryz.func46 rfl rfl (ka4 rfl) ?_
 intro cx hcx
 refine kK [.no, .no] True [(1, rV 0 0)] [(0, some (59, .ds [iD k, dl r rn, D.sl (kI m) c, dl s sn]))] 1 trivial ?_
 rcases ka9 (d5 k r rn m s sn) with hx1 | hx1
 ·refine kK [.no, .call [] (bV true) [] 0 [] none, .no, .no] (Fun 43 [.agg [iC k, .d (dl r rn), .d (D.sl (kI m) c), .d (dl s sn)]] (kH []) 0 (bV true) (kH []) 0) [(2, bV false)] [] 1 (by have h0 := (m5 k r rn m c s sn zo zo zo zo zo zo (qD : MsW m)); rw [hx1] at h0; exact h0) ?_
  refine AW.ret ?_
  exact kA (.inr rfl) [] (P := ((nxB k r rn m s sn) = false)) zk (by first | exact u9s (by assumption) | exact u9t (by assumption))
 ·refine kK [.no, .call [] (bV false) [] 0 [] none, .no, .no] (Fun 43 [.agg [iC k, .d (dl r rn), .d (D.sl (kI m) c), .d (dl s sn)]] (kH []) 0 (bV false) (kH []) 0) [(2, bV true)] [] 1 (by have h0 := (m5 k r rn m c s sn zo zo zo zo zo zo (qD : MsW m)); rw [hx1] at h0; exact h0) ?_
  refine AW.ret ?_
  exact kA (.inr rfl) [] (P := ((nxB k r rn m s sn) = true)) zk (by first | exact u9s (by assumption) | exact u9t (by assumption))
theorem u5g (bs : List Bx) (n : Nat) (hn : ka0 bs = n) (h1 : n ≤ 1000000) (hW : BsW bs) : Fun 90 [.c (.d (D.sl (kE bs) n)), .c (.fn 46 [])] (kH []) 0 (iV (zP bs n)) (kH []) 0 := by
 refine Fun.mk (n := 19) Tryz.func90 rfl rfl (ka4 rfl) ?_
 intro cx hcx
 refine kK [.no] True [(0, .e (.c (.d (D.sl (kE bs) n)))), (1, .e (.c (.fn 46 [])))] [] 0 trivial ?_
 refine AW.seq ?_
 refine kO [.no, .no, .no] True [(0, .e (.c (.d (D.sl (kE bs) n)))), (1, .e (.c (.fn 46 []))), (7, uV n), (8, iV 0)] trivial ?_
 refine AW.block ?_
 refine kY 0 hcx (fun (x : {x : Nat // match x with | k => (k ≤ n) ∧ (zP bs k = -1)}) => match x with | ⟨k, _⟩ => (⟨[(0, .e (.c (.d (D.sl (kE bs) n)))), (1, .e (.c (.fn 46 []))), (7, uV n), (8, uV k)], [], 0⟩ : ES)) (fun x => match x with | ⟨k, _⟩ => n - k) ⟨(0 : Nat), ⟨fS, rfl⟩⟩ [] (P := (kM (kE bs)) ∧ (kJ n) ∧ (kN (n : Int)) ∧ (kN 0)) zk ⟨rfl, rfl, rfl, rfl⟩ ?_
 rintro ⟨k, hinv0⟩
 obtain ⟨hk, hi⟩ : (k ≤ n) ∧ (zP bs k = -1) := hinv0
 refine qS (l := [(0, .e (.c (.d (D.sl (kE bs) n)))), (1, .e (.c (.fn 46 []))), (7, uV n), (8, uV k)]) (g := []) (nx := 0) rfl rfl rfl ?_
 by_cases hx1 : (((k : Nat) : Int) < ((n : Nat) : Int))
 ·refine kK [.b true] (((k : Int) < (n : Int))) [(0, .e (.c (.d (D.sl (kE bs) n)))), (1, .e (.c (.fn 46 []))), (7, uV n), (8, uV k), (9, bV true)] [] 0 zo ?_
  refine AW.seq ?_
  refine vB ?_
  refine AW.seq ?_
  refine AW.block ?_
  refine kO [.no, .no] True [(0, .e (.c (.d (D.sl (kE bs) n)))), (1, .e (.c (.fn 46 []))), (5, uV k), (7, uV n), (8, uV k)] trivial ?_
  rcases ka9 (nxB (kQ bs k) (kZ bs k) (kX bs k) (kL bs k) (qA bs k) (k8 bs k)) with hx7 | hx7
  ·obtain ⟨hx8, hx9, hx10, hx11, hx12⟩ := BsW.at (qD : BsW bs) (k)
   refine kK [.no, .no, .no, .n k, .ds [iD (kQ bs k), dl (kZ bs k) (kX bs k), D.sl (kI (kL bs k)) (ka0 (kL bs k)), dl (qA bs k) (k8 bs k)], .call [] (bV true) [] 0 [] none] ((kN (k : Int)) ∧ (k < n) ∧ (ka5 4 (ka3 (k * 4) (kE bs)) = [iD (kQ bs k), dl (kZ bs k) (kX bs k), D.sl (kI (kL bs k)) (ka0 (kL bs k)), dl (qA bs k) (k8 bs k)]) ∧ (([iD (kQ bs k), dl (kZ bs k) (kX bs k), D.sl (kI (kL bs k)) (ka0 (kL bs k)), dl (qA bs k) (k8 bs k)] : List D).length = 4) ∧ (Fun 46 [.agg [iC (kQ bs k), .d (dl (kZ bs k) (kX bs k)), .d (D.sl (kI (kL bs k)) (ka0 (kL bs k))), .d (dl (qA bs k) (k8 bs k))]] (kH []) 0 (bV true) (kH []) 0)) [(0, .e (.c (.d (D.sl (kE bs) n)))), (1, .e (.c (.fn 46 []))), (5, uV k), (7, uV n), (8, uV k), (16, bV true)] [] 0 ⟨rfl, zo, (yV i0), rfl, (by have h0 := (k18 (kQ bs k) (kZ bs k) (kX bs k) (kL bs k) (ka0 (kL bs k)) (qA bs k) (k8 bs k) uQ uQ rfl uQ uQ uQ (BsW.ms (qD : BsW bs) _)); rw [hx7] at h0; exact h0)⟩ ?_
   refine zt ?_
   refine kO [.no, .no] True [(4, uV k)] trivial ?_
   refine AW.ret ?_
   exact kA (.inr rfl) [] (P := (((zP bs n) : Int) = (k : Int))) zk (by first | rfl | exact u44 hi (by assumption) zo | (rw [show n = k by omega]; exact hi) | omega)
  ·obtain ⟨hx13, hx14, hx15, hx16, hx17⟩ := BsW.at (qD : BsW bs) (k)
   refine kK [.no, .no, .no, .n k, .ds [iD (kQ bs k), dl (kZ bs k) (kX bs k), D.sl (kI (kL bs k)) (ka0 (kL bs k)), dl (qA bs k) (k8 bs k)], .call [] (bV false) [] 0 [] none] ((kN (k : Int)) ∧ (k < n) ∧ (ka5 4 (ka3 (k * 4) (kE bs)) = [iD (kQ bs k), dl (kZ bs k) (kX bs k), D.sl (kI (kL bs k)) (ka0 (kL bs k)), dl (qA bs k) (k8 bs k)]) ∧ (([iD (kQ bs k), dl (kZ bs k) (kX bs k), D.sl (kI (kL bs k)) (ka0 (kL bs k)), dl (qA bs k) (k8 bs k)] : List D).length = 4) ∧ (Fun 46 [.agg [iC (kQ bs k), .d (dl (kZ bs k) (kX bs k)), .d (D.sl (kI (kL bs k)) (ka0 (kL bs k))), .d (dl (qA bs k) (k8 bs k))]] (kH []) 0 (bV false) (kH []) 0)) [(0, .e (.c (.d (D.sl (kE bs) n)))), (1, .e (.c (.fn 46 []))), (5, uV k), (7, uV n), (8, uV k), (16, bV false)] [] 0 ⟨rfl, zo, (yV i0), rfl, (by have h0 := (k18 (kQ bs k) (kZ bs k) (kX bs k) (kL bs k) (ka0 (kL bs k)) (qA bs k) (k8 bs k) uQ uQ rfl uQ uQ uQ (BsW.ms (qD : BsW bs) _)); rw [hx7] at h0; exact h0)⟩ ?_
   refine q9 ?_
   refine uT [.w, .no] ((-9223372036854775808) ≤ ((k : Int) + 1) ∧ ((k : Int) + 1) ≤ 9223372036854775807) [(0, .e (.c (.d (D.sl (kE bs) n)))), (1, .e (.c (.fn 46 []))), (7, uV n), (8, iV (↑k + 1))] ⟨by omega, by omega⟩ ?_
   exact kW ⟨((k + 1) : Nat), ⟨fS, (u8o hi (by assumption))⟩⟩ [] (P := (kM (kE bs)) ∧ (kJ n) ∧ (kN (n : Int)) ∧ (((((k + 1) : Nat) : Int) : Int) = ((k : Int) + 1))) zk ⟨rfl, rfl, rfl, tG⟩ (show n - (k + 1) < n - k from (by first | omega | (show _ < _; simp; omega)))
 ·refine kK [.b false] (¬ ((k : Int) < (n : Int))) [(0, .e (.c (.d (D.sl (kE bs) n)))), (1, .e (.c (.fn 46 []))), (7, uV n), (8, uV k), (9, bV false)] [] 0 zo ?_
  refine AW.seq ?_
  refine zf ?_
  refine AW.exit ?_
  refine kK [.no] True [(4, iV (-1))] [] 0 trivial ?_
  refine AW.ret ?_
  exact kA (.inr rfl) [] (P := (((zP bs n) : Int) = (-1))) zk (by first | rfl | exact u44 hi (by assumption) zo | (rw [show n = k by omega]; exact hi) | omega)
theorem u5j (bs : List Bx) (n : Nat) (hn : ka0 bs = n) (h1 : n ≤ 1000000) (hW : BsW bs) : Fun 45 [.c (.d (D.sl (kE bs) n)), .c (.fn 46 [])] (kH []) 0 (.e (.c (.d (D.lit (.bool (naB bs n)))))) (kH []) 0 := by
 refine Fun.mk (n := 9) Tryz.func45 rfl rfl (ka4 rfl) ?_
 intro cx hcx
 refine kK [.no] True [(0, .e (.c (.d (D.sl (kE bs) n)))), (1, .e (.c (.fn 46 [])))] [] 0 trivial ?_
 by_cases hx1 : ((0 : Int) ≤ (zP bs n))
 ·refine kO [.no, .no, .call [] (iV (zP bs n)) [] 0 [] none, .b true, .no] ((_) ∧ (((0 : Int) ≤ (zP bs n)))) [(4, bV true)] ⟨(u5g bs n zo zo (qD : BsW bs)), zo⟩ ?_
  refine AW.ret ?_
  exact kA (.inr rfl) [] (P := ((naB bs n) = true)) zk (by first | exact decide_eq_true zo | exact decide_eq_false zo)
 ·refine kO [.no, .no, .call [] (iV (zP bs n)) [] 0 [] none, .b false, .no] ((_) ∧ (¬ ((0 : Int) ≤ (zP bs n)))) [(4, bV false)] ⟨(u5g bs n zo zo (qD : BsW bs)), zo⟩ ?_
  refine AW.ret ?_
  exact kA (.inr rfl) [] (P := ((naB bs n) = false)) zk (by first | exact decide_eq_true zo | exact decide_eq_false zo)
theorem bY (bs : List Bx) (n : Nat) (hn : ka0 bs = n) (h1 : n ≤ 1000000) (hW : BsW bs) : Fun 18 [.c (.d (D.sl (kE bs) n))] (kH []) 0 (.e (.c (.d (D.lit (.bool (cQ bs)))))) (kH []) 0 := by
 refine Fun.mk (n := 11) Tryz.func18 rfl rfl (ka4 rfl) ?_
 intro cx hcx
 refine kK [.no] True [(0, .e (.c (.d (D.sl (kE bs) n))))] [] 0 trivial ?_
 by_cases hx1 : (((n : Nat) : Int) ≤ 64)
 ·rcases ka9 (naB bs n) with hx2 | hx2
  ·refine kO [.no, .no, .b true, .no, .no, .call [] (bV true) [] 0 [] none, .no, .no, .no] ((((n : Int) ≤ 64)) ∧ (Fun 45 [.c (.d (D.sl (kE bs) n)), .c (.fn 46 [])] (kH []) 0 (bV true) (kH []) 0)) [(2, bV false)] ⟨zo, (by have h0 := (u5j bs n zo zo (qD : BsW bs)); rw [hx2] at h0; exact h0)⟩ ?_
   refine AW.ret ?_
   exact kA (.inr rfl) [] (P := ((cQ bs) = false)) zk (by first | exact k4x zo | exact u6k hn (by assumption) | exact u6j hn zo (by assumption))
  ·refine kO [.no, .no, .b true, .no, .no, .call [] (bV false) [] 0 [] none, .no, .no, .no] ((((n : Int) ≤ 64)) ∧ (Fun 45 [.c (.d (D.sl (kE bs) n)), .c (.fn 46 [])] (kH []) 0 (bV false) (kH []) 0)) [(2, bV true)] ⟨zo, (by have h0 := (u5j bs n zo zo (qD : BsW bs)); rw [hx2] at h0; exact h0)⟩ ?_
   refine AW.ret ?_
   exact kA (.inr rfl) [] (P := ((cQ bs) = true)) zk (by first | exact k4x zo | exact u6k hn (by assumption) | exact u6j hn zo (by assumption))
 ·refine kO [.no, .no, .b false, .no, .no, .no] (¬ ((n : Int) ≤ 64)) [(2, bV false)] zo ?_
  refine AW.ret ?_
  exact kA (.inr rfl) [] (P := ((cQ bs) = false)) zk (by first | exact k4x zo | exact u6k hn (by assumption) | exact u6j hn zo (by assumption))
theorem oI (bs : List Bx) (n : Nat) (hn : ka0 bs = n) (h1 : n ≤ 1000000) (hW : BsW bs) : Fun 49 [.c (.d (D.sl (kE bs) n))] (kH []) 0 (.e (.c (.d (D.sl (kE (kF bs)) (ka0 (kF bs)))))) (kH []) 0 := by
 refine Fun.mk (n := 7) Tryz.func49 rfl rfl (ka4 rfl) ?_
 intro cx hcx
 refine kK [.no] True [(0, .e (.c (.d (D.sl (kE bs) n))))] [] 0 trivial ?_
 refine AW.seq ?_
 rcases ka9 (cQ bs) with hx1 | hx1
 ·refine kO [.no, .call [] (bV true) [] 0 [] none, .no] (Fun 18 [.c (.d (D.sl (kE bs) n))] (kH []) 0 (bV true) (kH []) 0) [(0, .e (.c (.d (D.sl (kE bs) n)))), (5, bV false)] (by have h0 := (bY bs n zo zo (qD : BsW bs)); rw [hx1] at h0; exact h0) ?_
  refine q9 ?_
  refine kO [.no, .no] True [(2, .e (.c (.d (D.sl (kE bs) n))))] trivial ?_
  have hz1 : kF bs = bs := k4g hx1
  have hz2 : ka0 (kF bs) = n := by rw [hz1]; first | rfl | omega
  refine AW.ret ?_
  exact kA (.inr rfl) [] (P := (((kE (kF bs)) : List D) = (kE bs)) ∧ (((ka0 (kF bs)) : Nat) = n)) zk ⟨(by first | (rw [hz1]; done) | (rw [hz1]; rfl)), (by first | omega | rfl | assumption | (simp; done) | (simp; omega))⟩
 ·refine kO [.no, .call [] (bV false) [] 0 [] none, .no] (Fun 18 [.c (.d (D.sl (kE bs) n))] (kH []) 0 (bV false) (kH []) 0) [(0, .e (.c (.d (D.sl (kE bs) n)))), (5, bV true)] (by have h0 := (bY bs n zo zo (qD : BsW bs)); rw [hx1] at h0; exact h0) ?_
  refine zt ?_
  refine kO [.no] True [(2, nV)] trivial ?_
  have hz1 : kF bs = [] := u0g hx1
  have hz2 : ka0 (kF bs) = 0 := by rw [hz1]; first | rfl | omega
  refine bG (l' := [(2, .e (.c (.d (D.sl ([] : List D) 0))))]) (g' := []) (NlS.cons rfl (.e (.c .nil)) NlS.nil) NlG.nil ?_
  refine AW.ret ?_
  exact kA (.inr rfl) [] (P := (((kE (kF bs)) : List D) = ([] : List D)) ∧ (((ka0 (kF bs)) : Nat) = 0)) zk ⟨(by first | (rw [hz1]; done) | (rw [hz1]; rfl)), (by first | omega | rfl | assumption | (simp; done) | (simp; omega))⟩
theorem k1n {p : Prop} (h : p := by first | rfl | assumption | exact decide_eq_true (by omega) | exact decide_eq_false (by omega) | (simp; omega)) : p := h
theorem p7 (q : Int)  : Fun 54 [iE q] (kH []) 0 (.e (.c (.d (D.lit (.bool (decide (1 ≤ q ∧ q ≤ 7))))))) (kH []) 0 := by
 refine Fun.mk (n := 9) Tryz.func54 rfl rfl (ka4 rfl) ?_
 intro cx hcx
 refine kK [.no] True [(0, iV q)] [] 0 trivial ?_
 by_cases hx1 : ((1 : Int) ≤ q)
 ·by_cases hx2 : (q ≤ 7)
  ·refine kO [.no, .b true, .no, .no, .b true, .no, .no] ((((1 : Int) ≤ q)) ∧ ((q ≤ 7))) [(2, bV true)] ⟨zo, zo⟩ ?_
   refine AW.ret ?_
   exact kA (.inr rfl) [] (P := ((decide (1 ≤ q ∧ q ≤ 7)) = true)) zk k1n
  ·refine kO [.no, .b true, .no, .no, .b false, .no, .no] ((((1 : Int) ≤ q)) ∧ (¬ (q ≤ 7))) [(2, bV false)] ⟨zo, zo⟩ ?_
   refine AW.ret ?_
   exact kA (.inr rfl) [] (P := ((decide (1 ≤ q ∧ q ≤ 7)) = false)) zk k1n
 ·refine kO [.no, .b false, .no, .no, .no] (¬ ((1 : Int) ≤ q)) [(2, bV false)] zo ?_
  refine AW.ret ?_
  exact kA (.inr rfl) [] (P := ((decide (1 ≤ q ∧ q ≤ 7)) = false)) zk k1n
theorem i4 {p : Prop} (h : p := by first | exact v14 (by first | assumption | exact v2s (by omega) (by omega)) (by assumption) (by assumption) (by assumption) | exact v35 (by assumption) | exact v36 (by assumption) | exact v34 (by assumption) | exact v15 (v2u (by omega)) | exact v15 (v2t (by omega))) : p := h
theorem v1s (k : Int) (r : List Int) (rn : Nat) (m : List (List Int)) (c : Nat) (s : List Int) (sn : Nat) (q : Nat) (cr : Int) (cm : List Int) (cn : Nat) (cz : Int) (hr : ka0 r = rn * 2) (hs : ka0 s = sn * 2) (hc : ka0 m = c) (h1 : rn ≤ 1000000) (h2 : sn ≤ 1000000) (h3 : c ≤ 1000000) (hW : MsW m) (hm : ka0 cm = cn) (h4 : cn ≤ 1000000) (hq : q ≤ 64) : Fun 51 [.agg [iC k, .d (D.sl (dI .i64 r) rn), .d (D.sl (kI m) c), .d (D.sl (dI .i64 s) sn)], .agg [iC ((q : Nat) : Int), iC cr, .d (D.sl (dI .i64 cm) cn), iC cz]] (kH []) 0 (.e (.c (.d (D.lit (.bool (iB k r rn m s sn (q : Int) cr cm cz)))))) (kH []) 0 := by
 refine Fun.mk (n := 42) Tryz.func51 rfl rfl (ka4 rfl) ?_
 intro cx hcx
 refine kK [.no, .no, .no] True [(2, rV 0 0), (3, rV 1 0)] [(0, some (59, .ds [iD k, dl r rn, D.sl (kI m) c, dl s sn])), (1, some (27, .ds [uD q, iD cr, dl cm cn, iD cz]))] 2 trivial ?_
 rcases ka9 (decide (1 ≤ ((q : Nat) : Int) ∧ ((q : Nat) : Int) ≤ 7)) with hx1 | hx1
 ·have hx2 : (((1 : Int) ≤ ((q : Nat) : Int)) ∧ (((q : Nat) : Int) ≤ 7)) := of_decide_eq_true hx1
  by_cases hx3 : ((dE (k / (((2 ^ q) : Nat) : Int))) = 1)
  ·rcases ka9 (dJ (kC r rn) cr) with hx4 | hx4
   ·rcases ka9 (gJ m cm) with hx5 | hx5
    ·rcases ka9 (dJ (kC s sn) cz) with hx6 | hx6
     ·refine kK (.no :: .no :: .no :: .call [] (bV true) [] 0 [] none :: qE 6 (.n q :: .i (dE (k / (((2 ^ q) : Nat) : Int))) :: .b true :: qE 7 (.call [] (bV true) [] 0 [] none :: qE 7 (.call [] (bV true) [] 0 [] none :: qE 6 [.call [] (bV true) [] 0 [] none, .no, .no])))) ((Fun 54 [uE q] (kH []) 0 (bV true) (kH []) 0) ∧ (kN (q : Int)) ∧ (q ≤ 64) ∧ (qG .and .i64 (k / (((2 ^ q) : Nat) : Int)) 1 = (dE (k / (((2 ^ q) : Nat) : Int)))) ∧ (((dE (k / (((2 ^ q) : Nat) : Int))) = 1)) ∧ (Fun 95 [.agg [.d (dl r rn)], iE cr] (kH []) 0 (bV true) (kH []) 0) ∧ (Fun 96 [.c (.d (D.sl (kI m) c)), .c (.d (dl cm cn))] (kH []) 0 (bV true) (kH []) 0) ∧ (Fun 95 [.agg [.d (dl s sn)], iE cz] (kH []) 0 (bV true) (kH []) 0)) [(4, bV true)] [] 2 ⟨(by have h0 := (p7 (q : Int)); rw [hx1] at h0; exact h0), rfl, zo, rfl, zo, (by have h0 := (tA r rn cr zo zo); rw [hx4] at h0; exact h0), (by have h0 := (lR m c cm cn zo zo zo zo (qD : MsW m)); rw [hx5] at h0; exact h0), (by have h0 := (tA s sn cz zo zo); rw [hx6] at h0; exact h0)⟩ ?_
      refine AW.ret ?_
      exact kA (.inr rfl) [] (P := ((iB k r rn m s sn (q : Int) cr cm cz) = true)) zk i4
     ·refine kK (.no :: .no :: .no :: .call [] (bV true) [] 0 [] none :: qE 6 (.n q :: .i (dE (k / (((2 ^ q) : Nat) : Int))) :: .b true :: qE 7 (.call [] (bV true) [] 0 [] none :: qE 7 (.call [] (bV true) [] 0 [] none :: qE 6 [.call [] (bV false) [] 0 [] none, .no, .no])))) ((Fun 54 [uE q] (kH []) 0 (bV true) (kH []) 0) ∧ (kN (q : Int)) ∧ (q ≤ 64) ∧ (qG .and .i64 (k / (((2 ^ q) : Nat) : Int)) 1 = (dE (k / (((2 ^ q) : Nat) : Int)))) ∧ (((dE (k / (((2 ^ q) : Nat) : Int))) = 1)) ∧ (Fun 95 [.agg [.d (dl r rn)], iE cr] (kH []) 0 (bV true) (kH []) 0) ∧ (Fun 96 [.c (.d (D.sl (kI m) c)), .c (.d (dl cm cn))] (kH []) 0 (bV true) (kH []) 0) ∧ (Fun 95 [.agg [.d (dl s sn)], iE cz] (kH []) 0 (bV false) (kH []) 0)) [(4, bV false)] [] 2 ⟨(by have h0 := (p7 (q : Int)); rw [hx1] at h0; exact h0), rfl, zo, rfl, zo, (by have h0 := (tA r rn cr zo zo); rw [hx4] at h0; exact h0), (by have h0 := (lR m c cm cn zo zo zo zo (qD : MsW m)); rw [hx5] at h0; exact h0), (by have h0 := (tA s sn cz zo zo); rw [hx6] at h0; exact h0)⟩ ?_
      refine AW.ret ?_
      exact kA (.inr rfl) [] (P := ((iB k r rn m s sn (q : Int) cr cm cz) = false)) zk i4
    ·refine kK (.no :: .no :: .no :: .call [] (bV true) [] 0 [] none :: qE 6 (.n q :: .i (dE (k / (((2 ^ q) : Nat) : Int))) :: .b true :: qE 7 (.call [] (bV true) [] 0 [] none :: qE 7 (.call [] (bV false) [] 0 [] none :: qE 4 [])))) ((Fun 54 [uE q] (kH []) 0 (bV true) (kH []) 0) ∧ (kN (q : Int)) ∧ (q ≤ 64) ∧ (qG .and .i64 (k / (((2 ^ q) : Nat) : Int)) 1 = (dE (k / (((2 ^ q) : Nat) : Int)))) ∧ (((dE (k / (((2 ^ q) : Nat) : Int))) = 1)) ∧ (Fun 95 [.agg [.d (dl r rn)], iE cr] (kH []) 0 (bV true) (kH []) 0) ∧ (Fun 96 [.c (.d (D.sl (kI m) c)), .c (.d (dl cm cn))] (kH []) 0 (bV false) (kH []) 0)) [(4, bV false)] [] 2 ⟨(by have h0 := (p7 (q : Int)); rw [hx1] at h0; exact h0), rfl, zo, rfl, zo, (by have h0 := (tA r rn cr zo zo); rw [hx4] at h0; exact h0), (by have h0 := (lR m c cm cn zo zo zo zo (qD : MsW m)); rw [hx5] at h0; exact h0)⟩ ?_
     refine AW.ret ?_
     exact kA (.inr rfl) [] (P := ((iB k r rn m s sn (q : Int) cr cm cz) = false)) zk i4
   ·refine kK (.no :: .no :: .no :: .call [] (bV true) [] 0 [] none :: qE 6 (.n q :: .i (dE (k / (((2 ^ q) : Nat) : Int))) :: .b true :: qE 7 (.call [] (bV false) [] 0 [] none :: qE 6 []))) ((Fun 54 [uE q] (kH []) 0 (bV true) (kH []) 0) ∧ (kN (q : Int)) ∧ (q ≤ 64) ∧ (qG .and .i64 (k / (((2 ^ q) : Nat) : Int)) 1 = (dE (k / (((2 ^ q) : Nat) : Int)))) ∧ (((dE (k / (((2 ^ q) : Nat) : Int))) = 1)) ∧ (Fun 95 [.agg [.d (dl r rn)], iE cr] (kH []) 0 (bV false) (kH []) 0)) [(4, bV false)] [] 2 ⟨(by have h0 := (p7 (q : Int)); rw [hx1] at h0; exact h0), rfl, zo, rfl, zo, (by have h0 := (tA r rn cr zo zo); rw [hx4] at h0; exact h0)⟩ ?_
    refine AW.ret ?_
    exact kA (.inr rfl) [] (P := ((iB k r rn m s sn (q : Int) cr cm cz) = false)) zk i4
  ·refine kK (.no :: .no :: .no :: .call [] (bV true) [] 0 [] none :: qE 6 (.n q :: .i (dE (k / (((2 ^ q) : Nat) : Int))) :: .b false :: qE 8 [])) ((Fun 54 [uE q] (kH []) 0 (bV true) (kH []) 0) ∧ (kN (q : Int)) ∧ (q ≤ 64) ∧ (qG .and .i64 (k / (((2 ^ q) : Nat) : Int)) 1 = (dE (k / (((2 ^ q) : Nat) : Int)))) ∧ (¬ ((dE (k / (((2 ^ q) : Nat) : Int))) = 1))) [(4, bV false)] [] 2 ⟨(by have h0 := (p7 (q : Int)); rw [hx1] at h0; exact h0), rfl, zo, rfl, zo⟩ ?_
   refine AW.ret ?_
   exact kA (.inr rfl) [] (P := ((iB k r rn m s sn (q : Int) cr cm cz) = false)) zk i4
 ·have hx7 : ¬ (((1 : Int) ≤ ((q : Nat) : Int)) ∧ (((q : Nat) : Int) ≤ 7)) := of_decide_eq_false hx1
  refine kK (.no :: .no :: .no :: .call [] (bV false) [] 0 [] none :: qE 9 []) (Fun 54 [uE q] (kH []) 0 (bV false) (kH []) 0) [(4, bV false)] [] 2 (by have h0 := (p7 (q : Int)); rw [hx1] at h0; exact h0) ?_
  refine AW.ret ?_
  exact kA (.inr rfl) [] (P := ((iB k r rn m s sn (q : Int) cr cm cz) = false)) zk i4
theorem v1r (k : Int) (r : List Int) (rn : Nat) (m : List (List Int)) (c : Nat) (s : List Int) (sn : Nat) (ck cr : Int) (cm : List Int) (cn : Nat) (cz : Int) (hr : ka0 r = rn * 2) (hs : ka0 s = sn * 2) (hc : ka0 m = c) (h1 : rn ≤ 1000000) (h2 : sn ≤ 1000000) (h3 : c ≤ 1000000) (hW : MsW m) (hm : ka0 cm = cn) (h4 : cn ≤ 1000000) (hq : ¬ (1 ≤ ck ∧ ck ≤ 7)) : Fun 51 [.agg [iC k, .d (D.sl (dI .i64 r) rn), .d (D.sl (kI m) c), .d (D.sl (dI .i64 s) sn)], .agg [iC ck, iC cr, .d (D.sl (dI .i64 cm) cn), iC cz]] (kH []) 0 (.e (.c (.d (D.lit (.bool (iB k r rn m s sn ck cr cm cz)))))) (kH []) 0 := by
 refine Fun.mk (n := 42) Tryz.func51 rfl rfl (ka4 rfl) ?_
 intro cx hcx
 refine kK [.no, .no, .no] True [(2, rV 0 0), (3, rV 1 0)] [(0, some (59, .ds [iD k, dl r rn, D.sl (kI m) c, dl s sn])), (1, some (27, .ds [iD ck, iD cr, dl cm cn, iD cz]))] 2 trivial ?_
 refine kK (.no :: .no :: .no :: .call [] (bV false) [] 0 [] none :: qE 9 []) _ [(4, bV false)] [] 2 (Fun.y (p7 ck) (y' := bV false) (congrArg (fun b => LV (.bool b)) (decide_eq_false zo))) ?_
 refine AW.ret ?_
 exact kA (.inr rfl) [] (P := ((iB k r rn m s sn ck cr cm cz) = false)) zk i4
theorem v38 (k : Int) (r : List Int) (rn : Nat) (m : List (List Int)) (c : Nat) (s : List Int) (sn : Nat) (ck cr : Int) (cm : List Int) (cn : Nat) (cz : Int) (hr : ka0 r = rn * 2) (hs : ka0 s = sn * 2) (hc : ka0 m = c) (h1 : rn ≤ 1000000) (h2 : sn ≤ 1000000) (h3 : c ≤ 1000000) (hW : MsW m) (hm : ka0 cm = cn) (h4 : cn ≤ 1000000) : Fun 51 [.agg [iC k, .d (D.sl (dI .i64 r) rn), .d (D.sl (kI m) c), .d (D.sl (dI .i64 s) sn)], .agg [iC ck, iC cr, .d (D.sl (dI .i64 cm) cn), iC cz]] (kH []) 0 (.e (.c (.d (D.lit (.bool (iB k r rn m s sn ck cr cm cz)))))) (kH []) 0 := by
 by_cases h9 : 1 ≤ ck ∧ ck ≤ 7
 ·obtain ⟨q, rfl⟩ : ∃ q : Nat, ck = (q : Int) := ⟨Int.toNat ck, by omega⟩
  exact v1s k r rn m c s sn q cr cm cn cz hr hs hc h1 h2 h3 hW hm h4 (by omega)
 ·exact v1r k r rn m c s sn ck cr cm cn cz hr hs hc h1 h2 h3 hW hm h4 h9
theorem k4u (k : Int) (r : List Int) (rn : Nat) (m : List (List Int)) (c : Nat) (s : List Int) (sn : Nat) (ck cr : Int) (cm : List Int) (cn : Nat) (cz : Int) (hr : ka0 r = rn * 2) (hs : ka0 s = sn * 2) (hc : ka0 m = c) (h1 : rn ≤ 1000000) (h2 : sn ≤ 1000000) (h3 : c ≤ 1000000) (hW : MsW m) (hm : ka0 cm = cn) (h4 : cn ≤ 1000000) : Fun 50 [.agg [iC k, .d (D.sl (dI .i64 r) rn), .d (D.sl (kI m) c), .d (D.sl (dI .i64 s) sn)], .c (.ptr 0 0)] (kH [(0, some (27, .ds [iD ck, iD cr, D.sl (dI .i64 cm) cn, iD cz]))]) 1 (.e (.c (.d (D.lit (.bool (iB k r rn m s sn ck cr cm cz)))))) (kH [(0, some (27, .ds [iD ck, iD cr, D.sl (dI .i64 cm) cn, iD cz]))]) 1 := by
 refine Fun.mk (n := 7) Tryz.func50 rfl rfl (ka4 rfl) ?_
 intro cx hcx
 refine kK [.no, .no] True [(1, rV 0 0), (2, rV 1 0)] [(0, some (27, .ds [iD ck, iD cr, dl cm cn, iD cz])), (1, some (59, .ds [iD k, dl r rn, D.sl (kI m) c, dl s sn]))] 2 trivial ?_
 refine kK [.no, .no, .call [] (.e (.c (.d (D.lit (.bool (iB k r rn m s sn ck cr cm cz)))))) [] 0 [] none, .no] _ [(3, .e (.c (.d (D.lit (.bool (iB k r rn m s sn ck cr cm cz))))))] [(0, some (27, .ds [iD ck, iD cr, dl cm cn, iD cz]))] 2 (v38 k r rn m c s sn ck cr cm cn cz zo zo zo zo zo zo (qD : MsW m) zo zo) ?_
 refine AW.ret ?_
 exact kA (.inr rfl) [] (P := ((iB k r rn m s sn ck cr cm cz) = (iB k r rn m s sn ck cr cm cz)) ∧ (kM [iD ck, iD cr, dl cm cn, iD cz])) zk ⟨rfl, rfl⟩
abbrev vR (ck : Int) (cr : Int) (cm : List Int) (cn : Nat) (cz : Int) : BC := .ds [iD ck, iD cr, D.sl (dI .i64 cm) cn, iD cz]
theorem u5i (bs : List Bx) (n : Nat) (ck cr : Int) (cm : List Int) (cn : Nat) (cz : Int) (hn : ka0 bs = n) (h1 : n ≤ 1000000) (hW : BsW bs) (hm : ka0 cm = cn) (h4 : cn ≤ 1000000) : Fun 90 [.c (.d (D.sl (kE bs) n)), .c (.fn 50 [(0, 0)])] (kH [(0, some (27, .ds [iD ck, iD cr, D.sl (dI .i64 cm) cn, iD cz]))]) 1 (iV (biK bs ck cr cm cz n)) (kH [(0, some (27, .ds [iD ck, iD cr, D.sl (dI .i64 cm) cn, iD cz]))]) 1 := by
 refine Fun.mk (n := 19) Tryz.func90 rfl rfl (ka4 rfl) ?_
 intro cx hcx
 refine kK [.no] True [(0, .e (.c (.d (D.sl (kE bs) n)))), (1, .e (.c (.fn 50 [(0, 0)])))] [(0, some (27, (vR ck cr cm cn cz)))] 1 trivial ?_
 refine AW.seq ?_
 refine kO [.no, .no, .no] True [(0, .e (.c (.d (D.sl (kE bs) n)))), (1, .e (.c (.fn 50 [(0, 0)]))), (7, uV n), (8, iV 0)] trivial ?_
 refine AW.block ?_
 refine kY 1 hcx (fun (x : {x : Nat // match x with | k => (k ≤ n) ∧ (biK bs ck cr cm cz k = -1)}) => match x with | ⟨k, _⟩ => (⟨[(0, .e (.c (.d (D.sl (kE bs) n)))), (1, .e (.c (.fn 50 [(0, 0)]))), (7, uV n), (8, uV k)], [(0, some (27, (vR ck cr cm cn cz)))], 1⟩ : ES)) (fun x => match x with | ⟨k, _⟩ => n - k) ⟨(0 : Nat), ⟨fS, rfl⟩⟩ [] (P := (kM (kE bs)) ∧ (kJ n) ∧ (kN (n : Int)) ∧ (kN 0) ∧ (kM [iD ck, iD cr, dl cm cn, iD cz])) zk ⟨rfl, rfl, rfl, rfl, rfl⟩ ?_
 rintro ⟨k, hinv0⟩
 obtain ⟨hk, hi⟩ : (k ≤ n) ∧ (biK bs ck cr cm cz k = -1) := hinv0
 refine qS (l := [(0, .e (.c (.d (D.sl (kE bs) n)))), (1, .e (.c (.fn 50 [(0, 0)]))), (7, uV n), (8, uV k)]) (g := [(0, some (27, (vR ck cr cm cn cz)))]) (nx := 1) rfl rfl rfl ?_
 by_cases hx1 : (((k : Nat) : Int) < ((n : Nat) : Int))
 ·refine kK [.b true] (((k : Int) < (n : Int))) [(0, .e (.c (.d (D.sl (kE bs) n)))), (1, .e (.c (.fn 50 [(0, 0)]))), (7, uV n), (8, uV k), (9, bV true)] [(0, some (27, (vR ck cr cm cn cz)))] 1 zo ?_
  refine AW.seq ?_
  refine vB ?_
  refine AW.seq ?_
  refine AW.block ?_
  refine kO [.no, .no] True [(0, .e (.c (.d (D.sl (kE bs) n)))), (1, .e (.c (.fn 50 [(0, 0)]))), (5, uV k), (7, uV n), (8, uV k)] trivial ?_
  rcases ka9 (iB (kQ bs k) (kZ bs k) (kX bs k) (kL bs k) (qA bs k) (k8 bs k) ck cr cm cz) with hx7 | hx7
  ·obtain ⟨hx8, hx9, hx10, hx11, hx12⟩ := BsW.at (qD : BsW bs) (k)
   refine kK [.no, .no, .no, .n k, .ds [iD (kQ bs k), dl (kZ bs k) (kX bs k), D.sl (kI (kL bs k)) (ka0 (kL bs k)), dl (qA bs k) (k8 bs k)], .call [0] (bV true) [(0, some (27, (vR ck cr cm cn cz)))] 1 [] none] ((kN (k : Int)) ∧ (k < n) ∧ (ka5 4 (ka3 (k * 4) (kE bs)) = [iD (kQ bs k), dl (kZ bs k) (kX bs k), D.sl (kI (kL bs k)) (ka0 (kL bs k)), dl (qA bs k) (k8 bs k)]) ∧ (([iD (kQ bs k), dl (kZ bs k) (kX bs k), D.sl (kI (kL bs k)) (ka0 (kL bs k)), dl (qA bs k) (k8 bs k)] : List D).length = 4) ∧ (Fun 50 [.agg [iC (kQ bs k), .d (dl (kZ bs k) (kX bs k)), .d (D.sl (kI (kL bs k)) (ka0 (kL bs k))), .d (dl (qA bs k) (k8 bs k))], .c (.ptr 0 0)] (kH [(0, some (27, (vR ck cr cm cn cz)))]) 1 (bV true) (kH [(0, some (27, (vR ck cr cm cn cz)))]) 1)) [(0, .e (.c (.d (D.sl (kE bs) n)))), (1, .e (.c (.fn 50 [(0, 0)]))), (5, uV k), (7, uV n), (8, uV k), (16, bV true)] [(0, some (27, (vR ck cr cm cn cz)))] 1 ⟨rfl, zo, (yV i0), rfl, (by have h0 := (k4u (kQ bs k) (kZ bs k) (kX bs k) (kL bs k) (ka0 (kL bs k)) (qA bs k) (k8 bs k) ck cr cm cn cz uQ uQ rfl uQ uQ uQ (BsW.ms (qD : BsW bs) _) zo zo); rw [hx7] at h0; exact h0)⟩ ?_
   refine zt ?_
   refine kO [.no, .no] True [(4, uV k)] trivial ?_
   refine AW.ret ?_
   exact kA (.inr rfl) [] (P := (((biK bs ck cr cm cz n) : Int) = (k : Int)) ∧ (kM [iD ck, iD cr, dl cm cn, iD cz])) zk ⟨(by first | rfl | exact u53 hi (by assumption) zo | (rw [show n = k by omega]; exact hi) | omega), rfl⟩
  ·obtain ⟨hx13, hx14, hx15, hx16, hx17⟩ := BsW.at (qD : BsW bs) (k)
   refine kK [.no, .no, .no, .n k, .ds [iD (kQ bs k), dl (kZ bs k) (kX bs k), D.sl (kI (kL bs k)) (ka0 (kL bs k)), dl (qA bs k) (k8 bs k)], .call [0] (bV false) [(0, some (27, (vR ck cr cm cn cz)))] 1 [] none] ((kN (k : Int)) ∧ (k < n) ∧ (ka5 4 (ka3 (k * 4) (kE bs)) = [iD (kQ bs k), dl (kZ bs k) (kX bs k), D.sl (kI (kL bs k)) (ka0 (kL bs k)), dl (qA bs k) (k8 bs k)]) ∧ (([iD (kQ bs k), dl (kZ bs k) (kX bs k), D.sl (kI (kL bs k)) (ka0 (kL bs k)), dl (qA bs k) (k8 bs k)] : List D).length = 4) ∧ (Fun 50 [.agg [iC (kQ bs k), .d (dl (kZ bs k) (kX bs k)), .d (D.sl (kI (kL bs k)) (ka0 (kL bs k))), .d (dl (qA bs k) (k8 bs k))], .c (.ptr 0 0)] (kH [(0, some (27, (vR ck cr cm cn cz)))]) 1 (bV false) (kH [(0, some (27, (vR ck cr cm cn cz)))]) 1)) [(0, .e (.c (.d (D.sl (kE bs) n)))), (1, .e (.c (.fn 50 [(0, 0)]))), (5, uV k), (7, uV n), (8, uV k), (16, bV false)] [(0, some (27, (vR ck cr cm cn cz)))] 1 ⟨rfl, zo, (yV i0), rfl, (by have h0 := (k4u (kQ bs k) (kZ bs k) (kX bs k) (kL bs k) (ka0 (kL bs k)) (qA bs k) (k8 bs k) ck cr cm cn cz uQ uQ rfl uQ uQ uQ (BsW.ms (qD : BsW bs) _) zo zo); rw [hx7] at h0; exact h0)⟩ ?_
   refine q9 ?_
   refine uT [.w, .no] ((-9223372036854775808) ≤ ((k : Int) + 1) ∧ ((k : Int) + 1) ≤ 9223372036854775807) [(0, .e (.c (.d (D.sl (kE bs) n)))), (1, .e (.c (.fn 50 [(0, 0)]))), (7, uV n), (8, iV (↑k + 1))] ⟨by omega, by omega⟩ ?_
   exact kW ⟨((k + 1) : Nat), ⟨fS, (v16 hi (by assumption))⟩⟩ [] (P := (kM (kE bs)) ∧ (kJ n) ∧ (kN (n : Int)) ∧ (((((k + 1) : Nat) : Int) : Int) = ((k : Int) + 1)) ∧ (kM [iD ck, iD cr, dl cm cn, iD cz])) zk ⟨rfl, rfl, rfl, tG, rfl⟩ (show n - (k + 1) < n - k from (by first | omega | (show _ < _; simp; omega)))
 ·refine kK [.b false] (¬ ((k : Int) < (n : Int))) [(0, .e (.c (.d (D.sl (kE bs) n)))), (1, .e (.c (.fn 50 [(0, 0)]))), (7, uV n), (8, uV k), (9, bV false)] [(0, some (27, (vR ck cr cm cn cz)))] 1 zo ?_
  refine AW.seq ?_
  refine zf ?_
  refine AW.exit ?_
  refine kK [.no] True [(4, iV (-1))] [(0, some (27, (vR ck cr cm cn cz)))] 1 trivial ?_
  refine AW.ret ?_
  exact kA (.inr rfl) [] (P := (((biK bs ck cr cm cz n) : Int) = (-1)) ∧ (kM [iD ck, iD cr, dl cm cn, iD cz])) zk ⟨(by first | rfl | exact u53 hi (by assumption) zo | (rw [show n = k by omega]; exact hi) | omega), rfl⟩
theorem v1q (bs : List Bx) (n : Nat) (ck cr : Int) (cm : List Int) (cn : Nat) (cz : Int) (hn : ka0 bs = n) (h1 : n ≤ 1000000) (hW : BsW bs) (hm : ka0 cm = cn) (h4 : cn ≤ 1000000) : Fun 45 [.c (.d (D.sl (kE bs) n)), .c (.fn 50 [(0, 0)])] (kH [(0, some (27, .ds [iD ck, iD cr, D.sl (dI .i64 cm) cn, iD cz]))]) 1 (.e (.c (.d (D.lit (.bool (haB bs ck cr cm cz)))))) (kH [(0, some (27, .ds [iD ck, iD cr, D.sl (dI .i64 cm) cn, iD cz]))]) 1 := by
 refine Fun.mk (n := 9) Tryz.func45 rfl rfl (ka4 rfl) ?_
 intro cx hcx
 refine kK [.no] True [(0, .e (.c (.d (D.sl (kE bs) n)))), (1, .e (.c (.fn 50 [(0, 0)])))] [(0, some (27, .ds [iD ck, iD cr, dl cm cn, iD cz]))] 1 trivial ?_
 by_cases hx1 : ((0 : Int) ≤ (biK bs ck cr cm cz n))
 ·refine kO [.no, .no, .call [0] (iV (biK bs ck cr cm cz n)) [(0, some (27, .ds [iD ck, iD cr, dl cm cn, iD cz]))] 1 [] none, .b true, .no] ((_) ∧ (((0 : Int) ≤ (biK bs ck cr cm cz n)))) [(4, bV true)] ⟨(u5i bs n ck cr cm cn cz zo zo (qD : BsW bs) zo zo), zo⟩ ?_
  refine AW.ret ?_
  exact kA (.inr rfl) [] (P := ((haB bs ck cr cm cz) = true) ∧ (kM [iD ck, iD cr, dl cm cn, iD cz])) zk ⟨(by first | exact v0l hn zo | exact v0m hn zo), rfl⟩
 ·refine kO [.no, .no, .call [0] (iV (biK bs ck cr cm cz n)) [(0, some (27, .ds [iD ck, iD cr, dl cm cn, iD cz]))] 1 [] none, .b false, .no] ((_) ∧ (¬ ((0 : Int) ≤ (biK bs ck cr cm cz n)))) [(4, bV false)] ⟨(u5i bs n ck cr cm cn cz zo zo (qD : BsW bs) zo zo), zo⟩ ?_
  refine AW.ret ?_
  exact kA (.inr rfl) [] (P := ((haB bs ck cr cm cz) = false) ∧ (kM [iD ck, iD cr, dl cm cn, iD cz])) zk ⟨(by first | exact v0l hn zo | exact v0m hn zo), rfl⟩
theorem v1t (bs : List Bx) (n : Nat) (ck cr : Int) (cm : List Int) (cn : Nat) (cz : Int) (hn : ka0 bs = n) (h1 : n ≤ 1000000) (hW : BsW bs) (hm : ka0 cm = cn) (h4 : cn ≤ 1000000) : Fun 21 [.c (.d (D.sl (kE bs) n)), .agg [iC ck, iC cr, .d (D.sl (dI .i64 cm) cn), iC cz]] (kH []) 0 (.e (.c (.d (D.lit (.bool (haB (kF bs) ck cr cm cz)))))) (kH []) 0 := by
 refine Fun.mk (n := 9) Tryz.func21 rfl rfl (ka4 rfl) ?_
 intro cx hcx
 refine kK [.no, .no] True [(0, .e (.c (.d (D.sl (kE bs) n)))), (3, rV 0 0)] [(0, some (27, .ds [iD ck, iD cr, dl cm cn, iD cz]))] 1 trivial ?_
 have hx1 : ((ka0 (kF bs)) ≤ n) := (by have h9 := mW bs; omega)
 refine kK [.no, .call [] (.e (.c (.d (D.sl (kE (kF bs)) (ka0 (kF bs)))))) [] 0 [] none, .no, .call [0] (.e (.c (.d (D.lit (.bool (haB (kF bs) ck cr cm cz)))))) [(0, some (27, .ds [iD ck, iD cr, dl cm cn, iD cz]))] 1 [] none, .no] ((_) ∧ (_)) [(4, .e (.c (.d (D.lit (.bool (haB (kF bs) ck cr cm cz))))))] [] 1 ⟨(oI bs n zo zo (qD : BsW bs)), (v1q (kF bs) (ka0 (kF bs)) ck cr cm cn cz rfl uQ (bK (qD : BsW bs)) zo zo)⟩ ?_
 refine AW.ret ?_
 exact kA (.inr rfl) [] (P := ((haB (kF bs) ck cr cm cz) = (haB (kF bs) ck cr cm cz))) zk rfl
end Go.Proofs.YtcfmjpnffembpaaGreat
