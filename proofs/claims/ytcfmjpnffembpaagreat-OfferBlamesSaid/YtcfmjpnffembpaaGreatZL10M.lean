/- Boxes of the code. No statement is proved here. -/
import Derived.Test.YtcfmjpnffembpaaGreatZL10D
namespace Go.Proofs.YtcfmjpnffembpaaGreat
open Go.ChangeShapes Go.WideShapes Go.ChangeAt Go.RowKit
open Bool renaming and_false → kc7, eq_false_or_eq_true → ka9, false_and → kh2
open List renaming drop → ka3, getD → ka1, length → ka0, length_append → ka6, length_cons → kb0, length_drop → kb3, length_nil → kb1, length_take → kb2, take → ka5
open Nat renaming le_of_ble_eq_true → ka4, lt_succ_self → kj6, not_lt_zero → kd5
set_option linter.unusedVariables false
set_option linter.unusedSimpArgs false
/-! chapter 10: the code's lists of boxes -/
set_option maxHeartbeats 4000000
set_option maxRecDepth 100000
def zB (p : Nat → Bool) : Nat → Int
 | 0 => -1
 | k + 1 => if 0 ≤ zB p k then zB p k else if p k = true then (k : Int) else -1
theorem gZ {p : Nat → Bool} {k : Nat} (h : zB p k = -1) (h2 : p k = false) : zB p (k + 1) = -1 := by
 show (if 0 ≤ zB p k then _ else _) = _
 rw [if_neg (by omega), if_neg (by rw [h2]; decide)]
theorem jK {p : Nat → Bool} {k : Nat} (h : zB p k = -1) (h2 : p k = true) : ∀ n, k < n → zB p n = (k : Int)
 | 0, h3 => absurd h3 (kd5 k)
 | n + 1, h3 => by
  show (if 0 ≤ zB p n then _ else _) = _
  by_cases e : k = n
  ·subst e; rw [if_neg (by omega), if_pos h2]
  ·have h4 := jK h h2 n (by omega)
   rw [if_pos (by omega), h4]
theorem wX (p : Nat → Bool) : ∀ n, (zB p n = -1 ∧ ∀ j, j < n → p j = false) ∨ ∃ k, k < n ∧ zB p n = (k : Int) ∧ p k = true
 | 0 => .inl ⟨rfl, fun j h => absurd h (kd5 j)⟩
 | n + 1 => by
  rcases wX p n with ⟨h1, h2⟩ | ⟨k, hk, h1, h2⟩
  ·cases e : p n with
   | false => exact .inl ⟨gZ h1 e, fun j hj => (Nat.lt_succ_iff_lt_or_eq.1 hj).elim (h2 j) fun e9 => e9 ▸ e⟩
   | true => exact .inr ⟨n, kj6 n, jK h1 e _ (kj6 n), e⟩
  ·refine .inr ⟨k, by omega, ?_, h2⟩
   show (if 0 ≤ zB p n then _ else _) = _
   rw [if_pos (by omega)]; exact h1
theorem k0k {p : Nat → Bool} {n : Nat} (h : 0 ≤ zB p n) : ∃ k, k < n ∧ p k = true := by
 rcases wX p n with ⟨h1, _⟩ | ⟨k, hk, _, h2⟩
 ·omega
 ·exact ⟨k, hk, h2⟩
theorem pJ {p : Nat → Bool} {n : Nat} (h : ¬ 0 ≤ zB p n) : ∀ j, j < n → p j = false := by
 rcases wX p n with ⟨_, h2⟩ | ⟨k, hk, h1, _⟩
 ·exact h2
 ·omega
def hmK (ms : List (List Int)) (m : List Int) : Nat → Int := zB fun j => v8 (ka1 ms j []) m
theorem u4d {ms : List (List Int)} {m : List Int} {c : Nat} (hc : ms.length = c) (h : 0 ≤ hmK ms m c) : gI ms m = true := by
 obtain ⟨k, hk, h1⟩ := k0k h
 exact u6w (k := k) (by omega) h1
theorem u4f {ms : List (List Int)} {m : List Int} {c : Nat} (hc : ms.length = c) (h : ¬ 0 ≤ hmK ms m c) : gI ms m = false :=
 u6x fun j hj => pJ h j (by omega)
def zH (bs : List Bx) : Nat → Int := zB fun j => !(vbE bs j)
theorem u8i {bs : List Bx} {n : Nat} (hn : bs.length = n) (h : 0 ≤ zH bs n) : cQ bs = false := by
 obtain ⟨k, hk, h1⟩ := k0k h
 exact u1j (k := k) (by omega) (by simpa using h1)
theorem u8k {bs : List Bx} {n : Nat} (hn : bs.length = n) (h2 : n ≤ 64) (h : ¬ 0 ≤ zH bs n) : cQ bs = true :=
 k64 (by omega) fun j hj => by
  have h3 := pJ h j (by omega)
  simpa using h3
def kjB (b q : Int) : Bool := decide (1 ≤ q ∧ q ≤ 7) && jH b q.toNat
theorem v2n {b q : Int} (h : ¬ (1 ≤ q ∧ q ≤ 7)) : kjB b q = false := by unfold kjB; rw [decide_eq_false h]; rfl
theorem u6n {b : Int} {q : Nat} : kjB b (q : Int) = jH b q := by
 unfold kjB
 rw [Int.toNat_natCast]
 by_cases h : 1 ≤ q ∧ q ≤ 7
 ·rw [decide_eq_true (by omega : 1 ≤ (q : Int) ∧ (q : Int) ≤ 7)]; rfl
 ·rw [decide_eq_false (by omega : ¬ (1 ≤ (q : Int) ∧ (q : Int) ≤ 7))]
  exact (decide_eq_false fun e => h ⟨e.1, e.2.1⟩).symm
def iA (k : Int) (r : List Int) (rn : Nat) (m : List (List Int)) (s : List Int) (sn : Nat) (ck cr : Int) (cm : List Int) (cz : Int) : Bool := kjB k ck && (dK (kC r rn) cr && (gI m cm && dK (kC s sn) cz))
def biE (bs : List Bx) (ck cr : Int) (cm : List Int) (cz : Int) (i : Nat) : Bool := iA (kQ bs i) (kZ bs i) (kX bs i) (kL bs i) (qA bs i) (k8 bs i) ck cr cm cz
def haB (bs : List Bx) (ck cr : Int) (cm : List Int) (cz : Int) : Bool := decide (∃ i, i < bs.length ∧ biE bs ck cr cm cz i = true)
def biK (bs : List Bx) (ck cr : Int) (cm : List Int) (cz : Int) : Nat → Int := zB (biE bs ck cr cm cz)
theorem v0g {bs : List Bx} {ck cr : Int} {cm : List Int} {cz : Int} {n : Nat} (hn : bs.length = n) (h : 0 ≤ biK bs ck cr cm cz n) : haB bs ck cr cm cz = true := by
 obtain ⟨k, hk, h1⟩ := k0k h
 exact decide_eq_true ⟨k, by omega, h1⟩
theorem v0h {bs : List Bx} {ck cr : Int} {cm : List Int} {cz : Int} {n : Nat} (hn : bs.length = n) (h : ¬ 0 ≤ biK bs ck cr cm cz n) : haB bs ck cr cm cz = false :=
 decide_eq_false fun ⟨j, hj, e⟩ => by
  have := pJ h j (by omega); rw [e] at this; cases this
theorem v0z {k : Int} {r : List Int} {rn : Nat} {m : List (List Int)} {s : List Int} {sn : Nat} {ck cr : Int} {cm : List Int} {cz : Int} (h1 : kjB k ck = true) (h2 : dK (kC r rn) cr = true) (h3 : gI m cm = true) (h4 : dK (kC s sn) cz = true) : iA k r rn m s sn ck cr cm cz = true := by
 unfold iA; rw [h1, h2, h3, h4]; rfl
theorem v10 {k : Int} {r : List Int} {rn : Nat} {m : List (List Int)} {s : List Int} {sn : Nat} {ck cr : Int} {cm : List Int} {cz : Int} (h1 : kjB k ck = false) : iA k r rn m s sn ck cr cm cz = false := by
 unfold iA; rw [h1]; rfl
theorem v2y {k : Int} {r : List Int} {rn : Nat} {m : List (List Int)} {s : List Int} {sn : Nat} {ck cr : Int} {cm : List Int} {cz : Int} (h2 : dK (kC r rn) cr = false) : iA k r rn m s sn ck cr cm cz = false := by
 unfold iA; rw [h2, kh2, kc7]
theorem v2z {k : Int} {r : List Int} {rn : Nat} {m : List (List Int)} {s : List Int} {sn : Nat} {ck cr : Int} {cm : List Int} {cz : Int} (h3 : gI m cm = false) : iA k r rn m s sn ck cr cm cz = false := by
 unfold iA; rw [h3, kh2, kc7, kc7]
theorem v2x {k : Int} {r : List Int} {rn : Nat} {m : List (List Int)} {s : List Int} {sn : Nat} {ck cr : Int} {cm : List Int} {cz : Int} (h4 : dK (kC s sn) cz = false) : iA k r rn m s sn ck cr cm cz = false := by
 unfold iA; rw [h4, kc7, kc7, kc7]
def uJ (a b : List (List Int)) : Nat → List (List Int)
 | 0 => []
 | i + 1 => if gI b (ka1 a i []) = true then uJ a b i ++ [ka1 a i []] else uJ a b i
theorem k48 {a b o : List (List Int)} {i : Nat} (h : uJ a b i = o) (h1 : gI b (ka1 a i []) = true) : uJ a b (i + 1) = o ++ [ka1 a i []] := by subst h; exact if_pos h1
theorem k49 {a b o : List (List Int)} {i : Nat} (h : uJ a b i = o) (h1 : gI b (ka1 a i []) = false) : uJ a b (i + 1) = o := by subst h; exact if_neg (by rw [h1]; decide)
theorem nE {a : List (List Int)} (h : MsW a) (b : List (List Int)) : ∀ i, MsW (uJ a b i)
 | 0 => MsW.nil
 | i + 1 => by
  rw [uJ]; split
  ·exact (nE h b i).snoc (h.at i)
  ·exact nE h b i
theorem bT (a b : List (List Int)) : ∀ i, ka0 (uJ a b i) ≤ i
 | 0 => Nat.le_refl _
 | i + 1 => by
  have := bT a b i
  rw [uJ]; split
  ·rw [ka6, List.length_singleton]; omega
  ·omega
theorem v0f {ms : List (List Int)} {m : List Int} {k : Nat} (h : hmK ms m k = -1) (h2 : v8 (ka1 ms k []) m = false) : hmK ms m (k + 1) = -1 := gZ h h2
theorem u4e {ms : List (List Int)} {m : List Int} {k : Nat} (h : hmK ms m k = -1) (h2 : v8 (ka1 ms k []) m = true) {n : Nat} (hn : k < n) : hmK ms m n = (k : Int) := jK h h2 n hn
def nxB (k : Int) (r : List Int) (rn : Nat) (m : List (List Int)) (s : List Int) (sn : Nat) : Bool := !(d5 k r rn m s sn)
theorem u9n {k : Int} {r : List Int} {rn : Nat} {m : List (List Int)} {s : List Int} {sn : Nat} (h : d5 k r rn m s sn = false) : nxB k r rn m s sn = true := by unfold nxB; rw [h]; rfl
theorem u9o {k : Int} {r : List Int} {rn : Nat} {m : List (List Int)} {s : List Int} {sn : Nat} (h : d5 k r rn m s sn = true) : nxB k r rn m s sn = false := by unfold nxB; rw [h]; rfl
theorem u8j {bs : List Bx} {k : Nat} (h : zH bs k = -1) (h2 : nxB (kQ bs k) (kZ bs k) (kX bs k) (kL bs k) (qA bs k) (k8 bs k) = false) : zH bs (k + 1) = -1 := gZ h h2
theorem u3z {bs : List Bx} {k : Nat} (h : zH bs k = -1) (h2 : nxB (kQ bs k) (kZ bs k) (kX bs k) (kL bs k) (qA bs k) (k8 bs k) = true) {n : Nat} (hn : k < n) : zH bs n = (k : Int) := jK h h2 n hn
def naB (bs : List Bx) (n : Nat) : Bool := decide (0 ≤ zH bs n)
theorem u6f {bs : List Bx} {n : Nat} (hn : bs.length = n) (h : naB bs n = true) : cQ bs = false := u8i hn (of_decide_eq_true h)
theorem u6e {bs : List Bx} {n : Nat} (hn : bs.length = n) (h2 : n ≤ 64) (h : naB bs n = false) : cQ bs = true := u8k hn h2 (of_decide_eq_false h)
theorem v2l {b : Int} {q : Nat} (h1 : 1 ≤ q ∧ q ≤ 7) (h : dE (b / ((2 ^ q : Nat) : Int)) = 1) : kjB b (q : Int) = true := by
 rw [u6n]; exact decide_eq_true ⟨h1.1, h1.2, h⟩
theorem v2m {b : Int} {q : Nat} (h : ¬ dE (b / ((2 ^ q : Nat) : Int)) = 1) : kjB b (q : Int) = false := by
 rw [u6n]; exact decide_eq_false fun e => h e.2.2
theorem v11 {bs : List Bx} {ck cr : Int} {cm : List Int} {cz : Int} {k : Nat} (h : biK bs ck cr cm cz k = -1) (h2 : iA (kQ bs k) (kZ bs k) (kX bs k) (kL bs k) (qA bs k) (k8 bs k) ck cr cm cz = false) : biK bs ck cr cm cz (k + 1) = -1 := gZ h h2
theorem u4y {bs : List Bx} {ck cr : Int} {cm : List Int} {cz : Int} {k : Nat} (h : biK bs ck cr cm cz k = -1) (h2 : iA (kQ bs k) (kZ bs k) (kX bs k) (kL bs k) (qA bs k) (k8 bs k) ck cr cm cz = true) {n : Nat} (hn : k < n) : biK bs ck cr cm cz n = (k : Int) := jK h h2 n hn
theorem u18 (w a : List Int) (o n : Nat) (ho : ka0 w = o) (hn : ka0 a = n) (h1 : o ≤ 1000000) (h2 : n ≤ 1000000) : Fun 136 [.c (.d (D.sl (dI .i64 a) n)), .c (.ptr 0 0)] (kH [(0, some (23, .ds [D.sl (dI .i64 w) o]))]) 1 (uP (D.lit (.bool (v8 a w)))) (kH [(0, some (23, .ds [D.sl (dI .i64 w) o]))]) 1 := by
 refine Fun.mk (n := 7) Tryz.func136 rfl rfl (ka4 rfl) ?_
 intro cx hcx
 refine kK [.no] True [(0, sV .i64 a n), (1, rV 0 0)] [(0, some (23, .ds [dl w o]))] 1 trivial ?_
 refine kO [.no, .no, .call [] (uP (D.lit (.bool (v8 a w)))) [] 0 [] none, .no] _ [(3, uP (D.lit (.bool (v8 a w))))] (k2r a w n o zo zo zo zo) ?_
 refine AW.ret ?_
 exact kA (.inr rfl) [] (P := ((v8 a w) = (v8 a w)) ∧ (kM [dl w o])) zk ⟨rfl, rfl⟩
theorem fR {p : Prop} (h : p := by first | omega | assumption | simp) : p := h
theorem iZ {p : Prop} (h : p := by first | omega | (simp only [qC, qB, ka6, kb0, kb1, kb2, kb3] <;> omega)) : p := h
theorem uQ {p : Prop} (h : p := by first | omega | with_reducible assumption | (simp only [qC, qB, ka6, kb0, kb1, kb2, kb3, List.length_replicate, List.length_set] <;> omega) | rfl | assumption) : p := h
theorem tC {p : Prop} (h : p := by first | rfl | omega | assumption | (simp; done) | (simp; omega)) : p := h
theorem u5c (ms : List (List Int)) (c : Nat) (w : List Int) (o : Nat) (hc : ka0 ms = c) (ho : ka0 w = o) (h1 : c ≤ 1000000) (h2 : o ≤ 1000000) (hW : MsW ms) : Fun 146 [.c (.d (D.sl (kI ms) c)), .c (.fn 136 [(0, 0)])] (kH [(0, some (23, .ds [D.sl (dI .i64 w) o]))]) 1 (iV (hmK ms w c)) (kH [(0, some (23, .ds [D.sl (dI .i64 w) o]))]) 1 := by
 refine Fun.mk (n := 19) Tryz.func146 rfl rfl (ka4 rfl) ?_
 intro cx hcx
 refine kK [.no] True [(0, kG (kI ms) c), (1, .e (.c (.fn 136 [(0, 0)])))] [(0, some (23, .ds [dl w o]))] 1 trivial ?_
 refine AW.seq ?_
 refine kO [.no, .no, .no] True [(0, kG (kI ms) c), (1, .e (.c (.fn 136 [(0, 0)]))), (7, uV c), (8, iV 0)] trivial ?_
 refine AW.block ?_
 refine kY 1 hcx (fun (x : {x : Nat // match x with | k => (k ≤ c) ∧ (hmK ms w k = -1)}) => match x with | ⟨k, _⟩ => (⟨[(0, kG (kI ms) c), (1, .e (.c (.fn 136 [(0, 0)]))), (7, uV c), (8, uV k)], [(0, some (23, .ds [dl w o]))], 1⟩ : ES)) (fun x => match x with | ⟨k, _⟩ => c - k) ⟨(0 : Nat), ⟨fR, rfl⟩⟩ [] (P := (kM (kI ms)) ∧ (kJ c) ∧ (kN (c : Int)) ∧ (kN 0) ∧ (kM [dl w o])) zk ⟨rfl, rfl, rfl, rfl, rfl⟩ ?_
 rintro ⟨k, hinv0⟩
 obtain ⟨hk, hi⟩ : (k ≤ c) ∧ (hmK ms w k = -1) := hinv0
 refine qR (l := [(0, kG (kI ms) c), (1, .e (.c (.fn 136 [(0, 0)]))), (7, uV c), (8, uV k)]) (g := [(0, some (23, .ds [dl w o]))]) (nx := 1) rfl rfl rfl ?_
 by_cases hx1 : (((k : Nat) : Int) < ((c : Nat) : Int))
 ·refine kK [.b true] (((k : Int) < (c : Int))) [(0, kG (kI ms) c), (1, .e (.c (.fn 136 [(0, 0)]))), (7, uV c), (8, uV k), (9, bV true)] [(0, some (23, .ds [dl w o]))] 1 zo ?_
  refine AW.seq ?_
  refine vB ?_
  refine AW.seq ?_
  refine AW.block ?_
  refine kO [.no, .no] True [(0, kG (kI ms) c), (1, .e (.c (.fn 136 [(0, 0)]))), (5, uV k), (7, uV c), (8, uV k)] trivial ?_
  rcases ka9 (v8 (ka1 ms k ([] : List Int)) w) with hx3 | hx3
  ·have hx4 : ((ka0 (ka1 ms k ([] : List Int))) ≤ 1000000) := MsW.at (qD : MsW ms) _
   refine kO [.no, .no, .no, .n k, .d (dl (ka1 ms k ([] : List Int)) (ka0 (ka1 ms k ([] : List Int)))), .call [0] (bV true) [(0, some (23, .ds [dl w o]))] 1 [] none] ((kN (k : Int)) ∧ (k < c) ∧ ((ka3 k (kI ms))[0]? = some (dl (ka1 ms k ([] : List Int)) (ka0 (ka1 ms k ([] : List Int))))) ∧ (Fun 136 [.c (.d (dl (ka1 ms k ([] : List Int)) (ka0 (ka1 ms k ([] : List Int))))), .c (.ptr 0 0)] (kH [(0, some (23, .ds [dl w o]))]) 1 (bV true) (kH [(0, some (23, .ds [dl w o]))]) 1)) [(0, kG (kI ms) c), (1, .e (.c (.fn 136 [(0, 0)]))), (5, uV k), (7, uV c), (8, uV k), (16, bV true)] ⟨rfl, zo, (vQ _ _ iZ), (by have h0 := (u18 w (ka1 ms k ([] : List Int)) o (ka0 (ka1 ms k ([] : List Int))) zo rfl zo uQ); rw [hx3] at h0; exact h0)⟩ ?_
   refine zt ?_
   refine kO [.no, .no] True [(4, uV k)] trivial ?_
   refine AW.ret ?_
   exact kA (.inr rfl) [] (P := (((hmK ms w c) : Int) = (k : Int)) ∧ (kM [dl w o])) zk ⟨(by first | rfl | exact u4e hi (by assumption) zo | (rw [show c = k by omega]; exact hi) | omega), rfl⟩
  ·have hx5 : ((ka0 (ka1 ms k ([] : List Int))) ≤ 1000000) := MsW.at (qD : MsW ms) _
   refine kO [.no, .no, .no, .n k, .d (dl (ka1 ms k ([] : List Int)) (ka0 (ka1 ms k ([] : List Int)))), .call [0] (bV false) [(0, some (23, .ds [dl w o]))] 1 [] none] ((kN (k : Int)) ∧ (k < c) ∧ ((ka3 k (kI ms))[0]? = some (dl (ka1 ms k ([] : List Int)) (ka0 (ka1 ms k ([] : List Int))))) ∧ (Fun 136 [.c (.d (dl (ka1 ms k ([] : List Int)) (ka0 (ka1 ms k ([] : List Int))))), .c (.ptr 0 0)] (kH [(0, some (23, .ds [dl w o]))]) 1 (bV false) (kH [(0, some (23, .ds [dl w o]))]) 1)) [(0, kG (kI ms) c), (1, .e (.c (.fn 136 [(0, 0)]))), (5, uV k), (7, uV c), (8, uV k), (16, bV false)] ⟨rfl, zo, (vQ _ _ iZ), (by have h0 := (u18 w (ka1 ms k ([] : List Int)) o (ka0 (ka1 ms k ([] : List Int))) zo rfl zo uQ); rw [hx3] at h0; exact h0)⟩ ?_
   refine q8 ?_
   refine uT [.w, .no] ((-9223372036854775808) ≤ ((k : Int) + 1) ∧ ((k : Int) + 1) ≤ 9223372036854775807) [(0, kG (kI ms) c), (1, .e (.c (.fn 136 [(0, 0)]))), (7, uV c), (8, iV (↑k + 1))] ⟨by omega, by omega⟩ ?_
   exact kW ⟨((k + 1) : Nat), ⟨fR, (v0f hi (by assumption))⟩⟩ [] (P := (kM (kI ms)) ∧ (kJ c) ∧ (kN (c : Int)) ∧ (((((k + 1) : Nat) : Int) : Int) = ((k : Int) + 1)) ∧ (kM [dl w o])) zk ⟨rfl, rfl, rfl, tC, rfl⟩ (show c - (k + 1) < c - k from (by first | omega | (show _ < _; simp; omega)))
 ·refine kK [.b false] (¬ ((k : Int) < (c : Int))) [(0, kG (kI ms) c), (1, .e (.c (.fn 136 [(0, 0)]))), (7, uV c), (8, uV k), (9, bV false)] [(0, some (23, .ds [dl w o]))] 1 zo ?_
  refine AW.seq ?_
  refine zf ?_
  refine AW.exit ?_
  refine kK [.no] True [(4, iV (-1))] [(0, some (23, .ds [dl w o]))] 1 trivial ?_
  refine AW.ret ?_
  exact kA (.inr rfl) [] (P := (((hmK ms w c) : Int) = (-1)) ∧ (kM [dl w o])) zk ⟨(by first | rfl | exact u4e hi (by assumption) zo | (rw [show c = k by omega]; exact hi) | omega), rfl⟩
theorem v1k (ms : List (List Int)) (c : Nat) (w : List Int) (o : Nat) (hc : ka0 ms = c) (ho : ka0 w = o) (h1 : c ≤ 1000000) (h2 : o ≤ 1000000) (hW : MsW ms) : Fun 126 [.c (.d (D.sl (kI ms) c)), .c (.fn 136 [(0, 0)])] (kH [(0, some (23, .ds [D.sl (dI .i64 w) o]))]) 1 (uP (D.lit (.bool (gI ms w)))) (kH [(0, some (23, .ds [D.sl (dI .i64 w) o]))]) 1 := by
 refine Fun.mk (n := 9) Tryz.func126 rfl rfl (ka4 rfl) ?_
 intro cx hcx
 refine kK [.no] True [(0, kG (kI ms) c), (1, .e (.c (.fn 136 [(0, 0)])))] [(0, some (23, .ds [dl w o]))] 1 trivial ?_
 by_cases hx1 : ((0 : Int) ≤ (hmK ms w c))
 ·refine kO [.no, .no, .call [0] (iV (hmK ms w c)) [(0, some (23, .ds [dl w o]))] 1 [] none, .b true, .no] ((_) ∧ (((0 : Int) ≤ (hmK ms w c)))) [(4, bV true)] ⟨(u5c ms c w o zo zo zo zo (qD : MsW ms)), zo⟩ ?_
  refine AW.ret ?_
  exact kA (.inr rfl) [] (P := ((gI ms w) = true) ∧ (kM [dl w o])) zk ⟨(by first | exact u4d hc zo | exact u4f hc zo), rfl⟩
 ·refine kO [.no, .no, .call [0] (iV (hmK ms w c)) [(0, some (23, .ds [dl w o]))] 1 [] none, .b false, .no] ((_) ∧ (¬ ((0 : Int) ≤ (hmK ms w c)))) [(4, bV false)] ⟨(u5c ms c w o zo zo zo zo (qD : MsW ms)), zo⟩ ?_
  refine AW.ret ?_
  exact kA (.inr rfl) [] (P := ((gI ms w) = false) ∧ (kM [dl w o])) zk ⟨(by first | exact u4d hc zo | exact u4f hc zo), rfl⟩
theorem lQ (ms : List (List Int)) (c : Nat) (w : List Int) (o : Nat) (hc : ka0 ms = c) (ho : ka0 w = o) (h1 : c ≤ 1000000) (h2 : o ≤ 1000000) (hW : MsW ms) : Fun 96 [.c (.d (D.sl (kI ms) c)), .c (.d (D.sl (dI .i64 w) o))] (kH []) 0 (uP (D.lit (.bool (gI ms w)))) (kH []) 0 := by
 refine Fun.mk (n := 8) Tryz.func96 rfl rfl (ka4 rfl) ?_
 intro cx hcx
 refine kK [.no, .no] True [(0, kG (kI ms) c), (3, rV 0 0)] [(0, some (23, .ds [dl w o]))] 1 trivial ?_
 refine kK [.no, .no, .call [0] (uP (D.lit (.bool (gI ms w)))) [(0, some (23, .ds [dl w o]))] 1 [] none, .no] _ [(4, uP (D.lit (.bool (gI ms w))))] [] 1 (v1k ms c w o zo zo zo zo (qD : MsW ms)) ?_
 refine AW.ret ?_
 exact kA (.inr rfl) [] (P := ((gI ms w) = (gI ms w))) zk rfl
theorem oL {p : Prop} (h : p := by first | exact u3y (by assumption) | exact u3x (by assumption)) : p := h
theorem xV (m : List (List Int)) (c : Nat) (hc : ka0 m = c) (h1 : c ≤ 1000000) (hW : MsW m) : Fun 88 [.c (.d (D.sl (kI m) c))] (kH []) 0 (uP (D.lit (.bool (p8 m)))) (kH []) 0 := by
 refine Fun.mk (n := 31) Tryz.func88 rfl rfl (ka4 rfl) ?_
 intro cx hcx
 refine kK [.no] True [(0, kG (kI m) c)] [] 0 trivial ?_
 refine AW.seq ?_
 by_cases hx1 : (((c : Nat) : Int) < 1)
 ·refine kO [.no, .no, .b true, .no, .no] (((c : Int) < 1)) [(0, kG (kI m) c), (12, bV true)] zo ?_
  refine zt ?_
  refine kO [.no] True [(2, bV false)] trivial ?_
  refine AW.ret ?_
  exact kA (.inr rfl) [] (P := ((p8 m) = false)) zk (by first | exact i6 zo zo (fun j hj => ha j zo) | exact jS zo | exact jT (k := i) zo oL)
 ·by_cases hx2 : ((16 : Int) < ((c : Nat) : Int))
  ·refine kO [.no, .no, .b false, .no, .no, .no, .b true, .no] ((¬ ((c : Int) < 1)) ∧ (((16 : Int) < (c : Int)))) [(0, kG (kI m) c), (12, bV true)] ⟨zo, zo⟩ ?_
   refine zt ?_
   refine kO [.no] True [(2, bV false)] trivial ?_
   refine AW.ret ?_
   exact kA (.inr rfl) [] (P := ((p8 m) = false)) zk (by first | exact i6 zo zo (fun j hj => ha j zo) | exact jS zo | exact jT (k := i) zo oL)
  ·refine kO [.no, .no, .b false, .no, .no, .no, .b false, .no] ((¬ ((c : Int) < 1)) ∧ (¬ ((16 : Int) < (c : Int)))) [(0, kG (kI m) c), (12, bV false)] ⟨zo, zo⟩ ?_
   refine q8 ?_
   refine AW.seq ?_
   refine kO [.no, .no, .no] True [(0, kG (kI m) c), (13, kG (kI m) c), (14, uV c), (15, iV 0)] trivial ?_
   refine AW.block ?_
   refine kY 0 hcx (fun (x : {x : Nat // match x with | i => (i ≤ c) ∧ (∀ j, j < i → vmE m j = true)}) => match x with | ⟨i, _⟩ => (⟨[(0, kG (kI m) c), (13, kG (kI m) c), (14, uV c), (15, uV i)], [], 0⟩ : ES)) (fun x => match x with | ⟨i, _⟩ => c - i) ⟨(0 : Nat), ⟨fR, (fun j hj => absurd hj (kd5 j))⟩⟩ [] (P := (kM (kI m)) ∧ (kJ c) ∧ (kM (kI m)) ∧ (kJ c) ∧ (kN (c : Int)) ∧ (kN 0)) zk ⟨rfl, rfl, rfl, rfl, rfl, rfl⟩ ?_
   rintro ⟨i, hinv0⟩
   obtain ⟨hi, ha⟩ : (i ≤ c) ∧ (∀ j, j < i → vmE m j = true) := hinv0
   refine qR (l := [(0, kG (kI m) c), (13, kG (kI m) c), (14, uV c), (15, uV i)]) (g := []) (nx := 0) rfl rfl rfl ?_
   by_cases hx3 : (((i : Nat) : Int) < ((c : Nat) : Int))
   ·refine kK [.b true] (((i : Int) < (c : Int))) [(0, kG (kI m) c), (13, kG (kI m) c), (14, uV c), (15, uV i), (16, bV true)] [] 0 zo ?_
    refine AW.seq ?_
    refine vB ?_
    refine AW.seq ?_
    refine AW.block ?_
    have hx4 : ((ka0 (ka1 m i ([] : List Int))) ≤ 1000000) := MsW.at (qD : MsW m) _
    refine kO [.no, .n i, .d (dl (ka1 m i ([] : List Int)) (ka0 (ka1 m i ([] : List Int)))), .no, .no] ((kN (i : Int)) ∧ (i < c) ∧ ((ka3 i (kI m))[0]? = some (dl (ka1 m i ([] : List Int)) (ka0 (ka1 m i ([] : List Int)))))) [(0, kG (kI m) c), (3, uV i), (4, sV .i64 (ka1 m i ([] : List Int)) (ka0 (ka1 m i ([] : List Int)))), (13, kG (kI m) c), (14, uV c), (15, uV i)] ⟨rfl, zo, (vQ _ _ iZ)⟩ ?_
    rcases ka9 (nF (ka1 m i ([] : List Int)) (ka0 (ka1 m i ([] : List Int)))) with hx5 | hx5
    ·rcases ka9 (gI (ka5 i m) (ka1 m i ([] : List Int))) with hx6 | hx6
     ·refine kO (.no :: .call [] (bV true) [] 0 [] none :: qE 4 [.sls 0 i i (kI (ka5 i m)), .no, .call [] (bV true) [] 0 [] none, .no]) ((Fun 131 [.c (.d (dl (ka1 m i ([] : List Int)) (ka0 (ka1 m i ([] : List Int)))))] (kH []) 0 (bV true) (kH []) 0) ∧ (kJ 0) ∧ (kN (i : Int)) ∧ ((0 : Nat) ≤ i) ∧ (i ≤ c) ∧ (i - 0 = i) ∧ (ka5 (i * 1) (ka3 (0 * 1) (kI m)) = (kI (ka5 i m))) ∧ (Fun 96 [.c (.d (D.sl (kI (ka5 i m)) i)), .c (.d (dl (ka1 m i ([] : List Int)) (ka0 (ka1 m i ([] : List Int)))))] (kH []) 0 (bV true) (kH []) 0)) [(0, kG (kI m) c), (13, kG (kI m) c), (14, uV c), (15, uV i), (29, bV true)] ⟨(by have h0 := (xR (ka1 m i ([] : List Int)) (ka0 (ka1 m i ([] : List Int))) rfl uQ); rw [hx5] at h0; exact h0), rfl, rfl, zo, zo, zo, (j8 _ _), (by have h0 := (lQ (ka5 i m) i (ka1 m i ([] : List Int)) (ka0 (ka1 m i ([] : List Int))) uQ rfl zo uQ (MsW.take (qD : MsW m) _)); rw [hx6] at h0; exact h0)⟩ ?_
      refine zt ?_
      refine kO [.no] True [(2, bV false)] trivial ?_
      refine AW.ret ?_
      exact kA (.inr rfl) [] (P := ((p8 m) = false)) zk (by first | exact i6 zo zo (fun j hj => ha j zo) | exact jS zo | exact jT (k := i) zo oL)
     ·refine kO (.no :: .call [] (bV true) [] 0 [] none :: qE 4 [.sls 0 i i (kI (ka5 i m)), .no, .call [] (bV false) [] 0 [] none, .no]) ((Fun 131 [.c (.d (dl (ka1 m i ([] : List Int)) (ka0 (ka1 m i ([] : List Int)))))] (kH []) 0 (bV true) (kH []) 0) ∧ (kJ 0) ∧ (kN (i : Int)) ∧ ((0 : Nat) ≤ i) ∧ (i ≤ c) ∧ (i - 0 = i) ∧ (ka5 (i * 1) (ka3 (0 * 1) (kI m)) = (kI (ka5 i m))) ∧ (Fun 96 [.c (.d (D.sl (kI (ka5 i m)) i)), .c (.d (dl (ka1 m i ([] : List Int)) (ka0 (ka1 m i ([] : List Int)))))] (kH []) 0 (bV false) (kH []) 0)) [(0, kG (kI m) c), (13, kG (kI m) c), (14, uV c), (15, uV i), (29, bV false)] ⟨(by have h0 := (xR (ka1 m i ([] : List Int)) (ka0 (ka1 m i ([] : List Int))) rfl uQ); rw [hx5] at h0; exact h0), rfl, rfl, zo, zo, zo, (j8 _ _), (by have h0 := (lQ (ka5 i m) i (ka1 m i ([] : List Int)) (ka0 (ka1 m i ([] : List Int))) uQ rfl zo uQ (MsW.take (qD : MsW m) _)); rw [hx6] at h0; exact h0)⟩ ?_
      refine q8 ?_
      refine uT [.w, .no] ((-9223372036854775808) ≤ ((i : Int) + 1) ∧ ((i : Int) + 1) ≤ 9223372036854775807) [(0, kG (kI m) c), (13, kG (kI m) c), (14, uV c), (15, iV (↑i + 1))] ⟨by omega, by omega⟩ ?_
      exact kW ⟨((i + 1) : Nat), ⟨fR, (fun j hj => (Nat.lt_succ_iff_lt_or_eq.1 hj).elim (ha j) (fun e9 => by subst e9; exact k63 (by assumption) (by assumption)))⟩⟩ [] (P := (kM (kI m)) ∧ (kJ c) ∧ (kM (kI m)) ∧ (kJ c) ∧ (kN (c : Int)) ∧ (((((i + 1) : Nat) : Int) : Int) = ((i : Int) + 1))) zk ⟨rfl, rfl, rfl, rfl, rfl, tC⟩ (show c - (i + 1) < c - i from (by first | omega | (show _ < _; simp; omega)))
    ·refine kO [.no, .call [] (bV false) [] 0 [] none, .no, .no, .no] (Fun 131 [.c (.d (dl (ka1 m i ([] : List Int)) (ka0 (ka1 m i ([] : List Int)))))] (kH []) 0 (bV false) (kH []) 0) [(0, kG (kI m) c), (13, kG (kI m) c), (14, uV c), (15, uV i), (29, bV true)] (by have h0 := (xR (ka1 m i ([] : List Int)) (ka0 (ka1 m i ([] : List Int))) rfl uQ); rw [hx5] at h0; exact h0) ?_
     refine zt ?_
     refine kO [.no] True [(2, bV false)] trivial ?_
     refine AW.ret ?_
     exact kA (.inr rfl) [] (P := ((p8 m) = false)) zk (by first | exact i6 zo zo (fun j hj => ha j zo) | exact jS zo | exact jT (k := i) zo oL)
   ·refine kK [.b false] (¬ ((i : Int) < (c : Int))) [(0, kG (kI m) c), (13, kG (kI m) c), (14, uV c), (15, uV i), (16, bV false)] [] 0 zo ?_
    refine AW.seq ?_
    refine zf ?_
    refine AW.exit ?_
    refine kK [.no] True [(2, bV true)] [] 0 trivial ?_
    refine AW.ret ?_
    exact kA (.inr rfl) [] (P := ((p8 m) = true)) zk (by first | exact i6 zo zo (fun j hj => ha j zo) | exact jS zo | exact jT (k := i) zo oL)
theorem lX {p : Prop} (h : p := by first | exact mT (by omega) (by assumption) (by assumption) (by assumption) | exact rR (by omega) | exact fJ (by assumption) | exact rQ (by assumption) | exact rP (by assumption)) : p := h
theorem mZ (k : Int) (r : List Int) (rn : Nat) (m : List (List Int)) (c : Nat) (s : List Int) (sn : Nat) (hr : ka0 r = rn * 2) (hs : ka0 s = sn * 2) (hc : ka0 m = c) (h1 : rn ≤ 1000000) (h2 : sn ≤ 1000000) (h3 : c ≤ 1000000) (hW : MsW m) : Fun 43 [.agg [iC k, .d (D.sl (dI .i64 r) rn), .d (D.sl (kI m) c), .d (D.sl (dI .i64 s) sn)]] (kH []) 0 (uP (D.lit (.bool (d5 k r rn m s sn)))) (kH []) 0 := by
 refine Fun.mk (n := 27) Tryz.func43 rfl rfl (ka4 rfl) ?_
 intro cx hcx
 refine kK [.no, .no] True [(1, rV 0 0)] [(0, some (59, .ds [iD k, dl r rn, D.sl (kI m) c, dl s sn]))] 1 trivial ?_
 by_cases hx1 : (k ≠ 0)
 ·by_cases hx2 : ((fO k) = 0)
  ·rcases ka9 (d9 r rn 1000 768000) with hx3 | hx3
   ·rcases ka9 (p8 m) with hx4 | hx4
    ·rcases ka9 (d9 s sn 1 65536) with hx5 | hx5
     ·refine kK (.no :: .no :: .b true :: .no :: .no :: .no :: .i (fO k) :: .b true :: qE 4 (.call [] (bV true) [] 0 [] none :: qE 4 (.call [] (bV true) [] 0 [] none :: qE 4 [.call [] (bV true) [] 0 [] none, .no, .no]))) (((k ≠ 0)) ∧ (qG .andNot .i64 k 254 = (fO k)) ∧ (((fO k) = 0)) ∧ (Fun 87 [.agg [.d (dl r rn)], iE 1000, iE 768000] (kH []) 0 (bV true) (kH []) 0) ∧ (Fun 88 [.c (.d (D.sl (kI m) c))] (kH []) 0 (bV true) (kH []) 0) ∧ (Fun 87 [.agg [.d (dl s sn)], iE 1, iE 65536] (kH []) 0 (bV true) (kH []) 0)) [(2, bV true)] [] 1 ⟨zo, rfl, zo, (by have h0 := (mX r rn 1000 768000 zo zo); rw [hx3] at h0; exact h0), (by have h0 := (xV m c zo zo (qD : MsW m)); rw [hx4] at h0; exact h0), (by have h0 := (mX s sn 1 65536 zo zo); rw [hx5] at h0; exact h0)⟩ ?_
      refine AW.ret ?_
      exact kA (.inr rfl) [] (P := ((d5 k r rn m s sn) = true)) zk lX
     ·refine kK (.no :: .no :: .b true :: .no :: .no :: .no :: .i (fO k) :: .b true :: qE 4 (.call [] (bV true) [] 0 [] none :: qE 4 (.call [] (bV true) [] 0 [] none :: qE 4 [.call [] (bV false) [] 0 [] none, .no, .no]))) (((k ≠ 0)) ∧ (qG .andNot .i64 k 254 = (fO k)) ∧ (((fO k) = 0)) ∧ (Fun 87 [.agg [.d (dl r rn)], iE 1000, iE 768000] (kH []) 0 (bV true) (kH []) 0) ∧ (Fun 88 [.c (.d (D.sl (kI m) c))] (kH []) 0 (bV true) (kH []) 0) ∧ (Fun 87 [.agg [.d (dl s sn)], iE 1, iE 65536] (kH []) 0 (bV false) (kH []) 0)) [(2, bV false)] [] 1 ⟨zo, rfl, zo, (by have h0 := (mX r rn 1000 768000 zo zo); rw [hx3] at h0; exact h0), (by have h0 := (xV m c zo zo (qD : MsW m)); rw [hx4] at h0; exact h0), (by have h0 := (mX s sn 1 65536 zo zo); rw [hx5] at h0; exact h0)⟩ ?_
      refine AW.ret ?_
      exact kA (.inr rfl) [] (P := ((d5 k r rn m s sn) = false)) zk lX
    ·refine kK (.no :: .no :: .b true :: .no :: .no :: .no :: .i (fO k) :: .b true :: qE 4 (.call [] (bV true) [] 0 [] none :: qE 4 (.call [] (bV false) [] 0 [] none :: qE 4 []))) (((k ≠ 0)) ∧ (qG .andNot .i64 k 254 = (fO k)) ∧ (((fO k) = 0)) ∧ (Fun 87 [.agg [.d (dl r rn)], iE 1000, iE 768000] (kH []) 0 (bV true) (kH []) 0) ∧ (Fun 88 [.c (.d (D.sl (kI m) c))] (kH []) 0 (bV false) (kH []) 0)) [(2, bV false)] [] 1 ⟨zo, rfl, zo, (by have h0 := (mX r rn 1000 768000 zo zo); rw [hx3] at h0; exact h0), (by have h0 := (xV m c zo zo (qD : MsW m)); rw [hx4] at h0; exact h0)⟩ ?_
     refine AW.ret ?_
     exact kA (.inr rfl) [] (P := ((d5 k r rn m s sn) = false)) zk lX
   ·refine kK (.no :: .no :: .b true :: .no :: .no :: .no :: .i (fO k) :: .b true :: qE 4 (.call [] (bV false) [] 0 [] none :: qE 6 [])) (((k ≠ 0)) ∧ (qG .andNot .i64 k 254 = (fO k)) ∧ (((fO k) = 0)) ∧ (Fun 87 [.agg [.d (dl r rn)], iE 1000, iE 768000] (kH []) 0 (bV false) (kH []) 0)) [(2, bV false)] [] 1 ⟨zo, rfl, zo, (by have h0 := (mX r rn 1000 768000 zo zo); rw [hx3] at h0; exact h0)⟩ ?_
    refine AW.ret ?_
    exact kA (.inr rfl) [] (P := ((d5 k r rn m s sn) = false)) zk lX
  ·refine kK (.no :: .no :: .b true :: .no :: .no :: .no :: .i (fO k) :: .b false :: qE 8 []) (((k ≠ 0)) ∧ (qG .andNot .i64 k 254 = (fO k)) ∧ (¬ ((fO k) = 0))) [(2, bV false)] [] 1 ⟨zo, rfl, zo⟩ ?_
   refine AW.ret ?_
   exact kA (.inr rfl) [] (P := ((d5 k r rn m s sn) = false)) zk lX
 ·refine kK (.no :: .no :: .b false :: qE 9 []) (¬ (k ≠ 0)) [(2, bV false)] [] 1 zo ?_
  refine AW.ret ?_
  exact kA (.inr rfl) [] (P := ((d5 k r rn m s sn) = false)) zk lX
theorem k14 (k : Int) (r : List Int) (rn : Nat) (m : List (List Int)) (c : Nat) (s : List Int) (sn : Nat) (hr : ka0 r = rn * 2) (hs : ka0 s = sn * 2) (hc : ka0 m = c) (h1 : rn ≤ 1000000) (h2 : sn ≤ 1000000) (h3 : c ≤ 1000000) (hW : MsW m) : Fun 46 [.agg [iC k, .d (D.sl (dI .i64 r) rn), .d (D.sl (kI m) c), .d (D.sl (dI .i64 s) sn)]] (kH []) 0 (uP (D.lit (.bool (nxB k r rn m s sn)))) (kH []) 0 := by
 refine Fun.mk (n := 6) Tryz.func46 rfl rfl (ka4 rfl) ?_
 intro cx hcx
 refine kK [.no, .no] True [(1, rV 0 0)] [(0, some (59, .ds [iD k, dl r rn, D.sl (kI m) c, dl s sn]))] 1 trivial ?_
 rcases ka9 (d5 k r rn m s sn) with hx1 | hx1
 ·refine kK [.no, .call [] (bV true) [] 0 [] none, .no, .no] (Fun 43 [.agg [iC k, .d (dl r rn), .d (D.sl (kI m) c), .d (dl s sn)]] (kH []) 0 (bV true) (kH []) 0) [(2, bV false)] [] 1 (by have h0 := (mZ k r rn m c s sn zo zo zo zo zo zo (qD : MsW m)); rw [hx1] at h0; exact h0) ?_
  refine AW.ret ?_
  exact kA (.inr rfl) [] (P := ((nxB k r rn m s sn) = false)) zk (by first | exact u9n (by assumption) | exact u9o (by assumption))
 ·refine kK [.no, .call [] (bV false) [] 0 [] none, .no, .no] (Fun 43 [.agg [iC k, .d (dl r rn), .d (D.sl (kI m) c), .d (dl s sn)]] (kH []) 0 (bV false) (kH []) 0) [(2, bV true)] [] 1 (by have h0 := (mZ k r rn m c s sn zo zo zo zo zo zo (qD : MsW m)); rw [hx1] at h0; exact h0) ?_
  refine AW.ret ?_
  exact kA (.inr rfl) [] (P := ((nxB k r rn m s sn) = true)) zk (by first | exact u9n (by assumption) | exact u9o (by assumption))
theorem u5b (bs : List Bx) (n : Nat) (hn : ka0 bs = n) (h1 : n ≤ 1000000) (hW : BsW bs) : Fun 90 [.c (.d (D.sl (kE bs) n)), .c (.fn 46 [])] (kH []) 0 (iV (zH bs n)) (kH []) 0 := by
 refine Fun.mk (n := 19) Tryz.func90 rfl rfl (ka4 rfl) ?_
 intro cx hcx
 refine kK [.no] True [(0, kG (kE bs) n), (1, .e (.c (.fn 46 [])))] [] 0 trivial ?_
 refine AW.seq ?_
 refine kO [.no, .no, .no] True [(0, kG (kE bs) n), (1, .e (.c (.fn 46 []))), (7, uV n), (8, iV 0)] trivial ?_
 refine AW.block ?_
 refine kY 0 hcx (fun (x : {x : Nat // match x with | k => (k ≤ n) ∧ (zH bs k = -1)}) => match x with | ⟨k, _⟩ => (⟨[(0, kG (kE bs) n), (1, .e (.c (.fn 46 []))), (7, uV n), (8, uV k)], [], 0⟩ : ES)) (fun x => match x with | ⟨k, _⟩ => n - k) ⟨(0 : Nat), ⟨fR, rfl⟩⟩ [] (P := (kM (kE bs)) ∧ (kJ n) ∧ (kN (n : Int)) ∧ (kN 0)) zk ⟨rfl, rfl, rfl, rfl⟩ ?_
 rintro ⟨k, hinv0⟩
 obtain ⟨hk, hi⟩ : (k ≤ n) ∧ (zH bs k = -1) := hinv0
 refine qR (l := [(0, kG (kE bs) n), (1, .e (.c (.fn 46 []))), (7, uV n), (8, uV k)]) (g := []) (nx := 0) rfl rfl rfl ?_
 by_cases hx1 : (((k : Nat) : Int) < ((n : Nat) : Int))
 ·refine kK [.b true] (((k : Int) < (n : Int))) [(0, kG (kE bs) n), (1, .e (.c (.fn 46 []))), (7, uV n), (8, uV k), (9, bV true)] [] 0 zo ?_
  refine AW.seq ?_
  refine vB ?_
  refine AW.seq ?_
  refine AW.block ?_
  refine kO [.no, .no] True [(0, kG (kE bs) n), (1, .e (.c (.fn 46 []))), (5, uV k), (7, uV n), (8, uV k)] trivial ?_
  rcases ka9 (nxB (kQ bs k) (kZ bs k) (kX bs k) (kL bs k) (qA bs k) (k8 bs k)) with hx7 | hx7
  ·obtain ⟨hx8, hx9, hx10, hx11, hx12⟩ := BsW.at (qD : BsW bs) (k)
   refine kK [.no, .no, .no, .n k, .ds [iD (kQ bs k), dl (kZ bs k) (kX bs k), D.sl (kI (kL bs k)) (ka0 (kL bs k)), dl (qA bs k) (k8 bs k)], .call [] (bV true) [] 0 [] none] ((kN (k : Int)) ∧ (k < n) ∧ (ka5 4 (ka3 (k * 4) (kE bs)) = [iD (kQ bs k), dl (kZ bs k) (kX bs k), D.sl (kI (kL bs k)) (ka0 (kL bs k)), dl (qA bs k) (k8 bs k)]) ∧ (([iD (kQ bs k), dl (kZ bs k) (kX bs k), D.sl (kI (kL bs k)) (ka0 (kL bs k)), dl (qA bs k) (k8 bs k)] : List D).length = 4) ∧ (Fun 46 [.agg [iC (kQ bs k), .d (dl (kZ bs k) (kX bs k)), .d (D.sl (kI (kL bs k)) (ka0 (kL bs k))), .d (dl (qA bs k) (k8 bs k))]] (kH []) 0 (bV true) (kH []) 0)) [(0, kG (kE bs) n), (1, .e (.c (.fn 46 []))), (5, uV k), (7, uV n), (8, uV k), (16, bV true)] [] 0 ⟨rfl, zo, (yV iZ), rfl, (by have h0 := (k14 (kQ bs k) (kZ bs k) (kX bs k) (kL bs k) (ka0 (kL bs k)) (qA bs k) (k8 bs k) uQ uQ rfl uQ uQ uQ (BsW.ms (qD : BsW bs) _)); rw [hx7] at h0; exact h0)⟩ ?_
   refine zt ?_
   refine kO [.no, .no] True [(4, uV k)] trivial ?_
   refine AW.ret ?_
   exact kA (.inr rfl) [] (P := (((zH bs n) : Int) = (k : Int))) zk (by first | rfl | exact u3z hi (by assumption) zo | (rw [show n = k by omega]; exact hi) | omega)
  ·obtain ⟨hx13, hx14, hx15, hx16, hx17⟩ := BsW.at (qD : BsW bs) (k)
   refine kK [.no, .no, .no, .n k, .ds [iD (kQ bs k), dl (kZ bs k) (kX bs k), D.sl (kI (kL bs k)) (ka0 (kL bs k)), dl (qA bs k) (k8 bs k)], .call [] (bV false) [] 0 [] none] ((kN (k : Int)) ∧ (k < n) ∧ (ka5 4 (ka3 (k * 4) (kE bs)) = [iD (kQ bs k), dl (kZ bs k) (kX bs k), D.sl (kI (kL bs k)) (ka0 (kL bs k)), dl (qA bs k) (k8 bs k)]) ∧ (([iD (kQ bs k), dl (kZ bs k) (kX bs k), D.sl (kI (kL bs k)) (ka0 (kL bs k)), dl (qA bs k) (k8 bs k)] : List D).length = 4) ∧ (Fun 46 [.agg [iC (kQ bs k), .d (dl (kZ bs k) (kX bs k)), .d (D.sl (kI (kL bs k)) (ka0 (kL bs k))), .d (dl (qA bs k) (k8 bs k))]] (kH []) 0 (bV false) (kH []) 0)) [(0, kG (kE bs) n), (1, .e (.c (.fn 46 []))), (5, uV k), (7, uV n), (8, uV k), (16, bV false)] [] 0 ⟨rfl, zo, (yV iZ), rfl, (by have h0 := (k14 (kQ bs k) (kZ bs k) (kX bs k) (kL bs k) (ka0 (kL bs k)) (qA bs k) (k8 bs k) uQ uQ rfl uQ uQ uQ (BsW.ms (qD : BsW bs) _)); rw [hx7] at h0; exact h0)⟩ ?_
   refine q8 ?_
   refine uT [.w, .no] ((-9223372036854775808) ≤ ((k : Int) + 1) ∧ ((k : Int) + 1) ≤ 9223372036854775807) [(0, kG (kE bs) n), (1, .e (.c (.fn 46 []))), (7, uV n), (8, iV (↑k + 1))] ⟨by omega, by omega⟩ ?_
   exact kW ⟨((k + 1) : Nat), ⟨fR, (u8j hi (by assumption))⟩⟩ [] (P := (kM (kE bs)) ∧ (kJ n) ∧ (kN (n : Int)) ∧ (((((k + 1) : Nat) : Int) : Int) = ((k : Int) + 1))) zk ⟨rfl, rfl, rfl, tC⟩ (show n - (k + 1) < n - k from (by first | omega | (show _ < _; simp; omega)))
 ·refine kK [.b false] (¬ ((k : Int) < (n : Int))) [(0, kG (kE bs) n), (1, .e (.c (.fn 46 []))), (7, uV n), (8, uV k), (9, bV false)] [] 0 zo ?_
  refine AW.seq ?_
  refine zf ?_
  refine AW.exit ?_
  refine kK [.no] True [(4, iV (-1))] [] 0 trivial ?_
  refine AW.ret ?_
  exact kA (.inr rfl) [] (P := (((zH bs n) : Int) = (-1))) zk (by first | rfl | exact u3z hi (by assumption) zo | (rw [show n = k by omega]; exact hi) | omega)
theorem u5e (bs : List Bx) (n : Nat) (hn : ka0 bs = n) (h1 : n ≤ 1000000) (hW : BsW bs) : Fun 45 [.c (.d (D.sl (kE bs) n)), .c (.fn 46 [])] (kH []) 0 (uP (D.lit (.bool (naB bs n)))) (kH []) 0 := by
 refine Fun.mk (n := 9) Tryz.func45 rfl rfl (ka4 rfl) ?_
 intro cx hcx
 refine kK [.no] True [(0, kG (kE bs) n), (1, .e (.c (.fn 46 [])))] [] 0 trivial ?_
 by_cases hx1 : ((0 : Int) ≤ (zH bs n))
 ·refine kO [.no, .no, .call [] (iV (zH bs n)) [] 0 [] none, .b true, .no] ((_) ∧ (((0 : Int) ≤ (zH bs n)))) [(4, bV true)] ⟨(u5b bs n zo zo (qD : BsW bs)), zo⟩ ?_
  refine AW.ret ?_
  exact kA (.inr rfl) [] (P := ((naB bs n) = true)) zk (by first | exact decide_eq_true zo | exact decide_eq_false zo)
 ·refine kO [.no, .no, .call [] (iV (zH bs n)) [] 0 [] none, .b false, .no] ((_) ∧ (¬ ((0 : Int) ≤ (zH bs n)))) [(4, bV false)] ⟨(u5b bs n zo zo (qD : BsW bs)), zo⟩ ?_
  refine AW.ret ?_
  exact kA (.inr rfl) [] (P := ((naB bs n) = false)) zk (by first | exact decide_eq_true zo | exact decide_eq_false zo)
theorem bY (bs : List Bx) (n : Nat) (hn : ka0 bs = n) (h1 : n ≤ 1000000) (hW : BsW bs) : Fun 18 [.c (.d (D.sl (kE bs) n))] (kH []) 0 (uP (D.lit (.bool (cQ bs)))) (kH []) 0 := by
 refine Fun.mk (n := 11) Tryz.func18 rfl rfl (ka4 rfl) ?_
 intro cx hcx
 refine kK [.no] True [(0, kG (kE bs) n)] [] 0 trivial ?_
 by_cases hx1 : (((n : Nat) : Int) ≤ 64)
 ·rcases ka9 (naB bs n) with hx2 | hx2
  ·refine kO [.no, .no, .b true, .no, .no, .call [] (bV true) [] 0 [] none, .no, .no, .no] ((((n : Int) ≤ 64)) ∧ (Fun 45 [.c (.d (D.sl (kE bs) n)), .c (.fn 46 [])] (kH []) 0 (bV true) (kH []) 0)) [(2, bV false)] ⟨zo, (by have h0 := (u5e bs n zo zo (qD : BsW bs)); rw [hx2] at h0; exact h0)⟩ ?_
   refine AW.ret ?_
   exact kA (.inr rfl) [] (P := ((cQ bs) = false)) zk (by first | exact k4s zo | exact u6f hn (by assumption) | exact u6e hn zo (by assumption))
  ·refine kO [.no, .no, .b true, .no, .no, .call [] (bV false) [] 0 [] none, .no, .no, .no] ((((n : Int) ≤ 64)) ∧ (Fun 45 [.c (.d (D.sl (kE bs) n)), .c (.fn 46 [])] (kH []) 0 (bV false) (kH []) 0)) [(2, bV true)] ⟨zo, (by have h0 := (u5e bs n zo zo (qD : BsW bs)); rw [hx2] at h0; exact h0)⟩ ?_
   refine AW.ret ?_
   exact kA (.inr rfl) [] (P := ((cQ bs) = true)) zk (by first | exact k4s zo | exact u6f hn (by assumption) | exact u6e hn zo (by assumption))
 ·refine kO [.no, .no, .b false, .no, .no, .no] (¬ ((n : Int) ≤ 64)) [(2, bV false)] zo ?_
  refine AW.ret ?_
  exact kA (.inr rfl) [] (P := ((cQ bs) = false)) zk (by first | exact k4s zo | exact u6f hn (by assumption) | exact u6e hn zo (by assumption))
theorem oH (bs : List Bx) (n : Nat) (hn : ka0 bs = n) (h1 : n ≤ 1000000) (hW : BsW bs) : Fun 49 [.c (.d (D.sl (kE bs) n))] (kH []) 0 (kG (kE (kF bs)) (ka0 (kF bs))) (kH []) 0 := by
 refine Fun.mk (n := 7) Tryz.func49 rfl rfl (ka4 rfl) ?_
 intro cx hcx
 refine kK [.no] True [(0, kG (kE bs) n)] [] 0 trivial ?_
 refine AW.seq ?_
 rcases ka9 (cQ bs) with hx1 | hx1
 ·refine kO [.no, .call [] (bV true) [] 0 [] none, .no] (Fun 18 [.c (.d (D.sl (kE bs) n))] (kH []) 0 (bV true) (kH []) 0) [(0, kG (kE bs) n), (5, bV false)] (by have h0 := (bY bs n zo zo (qD : BsW bs)); rw [hx1] at h0; exact h0) ?_
  refine q8 ?_
  refine kO [.no, .no] True [(2, kG (kE bs) n)] trivial ?_
  have hz1 : kF bs = bs := k4b hx1
  have hz2 : ka0 (kF bs) = n := by rw [hz1]; first | rfl | omega
  refine AW.ret ?_
  exact kA (.inr rfl) [] (P := (((kE (kF bs)) : List D) = (kE bs)) ∧ (((ka0 (kF bs)) : Nat) = n)) zk ⟨(by first | (rw [hz1]; done) | (rw [hz1]; rfl)), (by first | omega | rfl | assumption | (simp; done) | (simp; omega))⟩
 ·refine kO [.no, .call [] (bV false) [] 0 [] none, .no] (Fun 18 [.c (.d (D.sl (kE bs) n))] (kH []) 0 (bV false) (kH []) 0) [(0, kG (kE bs) n), (5, bV true)] (by have h0 := (bY bs n zo zo (qD : BsW bs)); rw [hx1] at h0; exact h0) ?_
  refine zt ?_
  refine kO [.no] True [(2, nV)] trivial ?_
  have hz1 : kF bs = [] := u0b hx1
  have hz2 : ka0 (kF bs) = 0 := by rw [hz1]; first | rfl | omega
  refine bG (l' := [(2, kG ([] : List D) 0)]) (g' := []) (NlS.cons rfl (.e (.c .nil)) NlS.nil) NlG.nil ?_
  refine AW.ret ?_
  exact kA (.inr rfl) [] (P := (((kE (kF bs)) : List D) = ([] : List D)) ∧ (((ka0 (kF bs)) : Nat) = 0)) zk ⟨(by first | (rw [hz1]; done) | (rw [hz1]; rfl)), (by first | omega | rfl | assumption | (simp; done) | (simp; omega))⟩
theorem k1i {p : Prop} (h : p := by first | rfl | assumption | exact decide_eq_true (by omega) | exact decide_eq_false (by omega) | (simp; omega)) : p := h
theorem pZ (q : Int)  : Fun 54 [iE q] (kH []) 0 (uP (D.lit (.bool (decide (1 ≤ q ∧ q ≤ 7))))) (kH []) 0 := by
 refine Fun.mk (n := 9) Tryz.func54 rfl rfl (ka4 rfl) ?_
 intro cx hcx
 refine kK [.no] True [(0, iV q)] [] 0 trivial ?_
 by_cases hx1 : ((1 : Int) ≤ q)
 ·by_cases hx2 : (q ≤ 7)
  ·refine kO [.no, .b true, .no, .no, .b true, .no, .no] ((((1 : Int) ≤ q)) ∧ ((q ≤ 7))) [(2, bV true)] ⟨zo, zo⟩ ?_
   refine AW.ret ?_
   exact kA (.inr rfl) [] (P := ((decide (1 ≤ q ∧ q ≤ 7)) = true)) zk k1i
  ·refine kO [.no, .b true, .no, .no, .b false, .no, .no] ((((1 : Int) ≤ q)) ∧ (¬ (q ≤ 7))) [(2, bV false)] ⟨zo, zo⟩ ?_
   refine AW.ret ?_
   exact kA (.inr rfl) [] (P := ((decide (1 ≤ q ∧ q ≤ 7)) = false)) zk k1i
 ·refine kO [.no, .b false, .no, .no, .no] (¬ ((1 : Int) ≤ q)) [(2, bV false)] zo ?_
  refine AW.ret ?_
  exact kA (.inr rfl) [] (P := ((decide (1 ≤ q ∧ q ≤ 7)) = false)) zk k1i
theorem i0 {p : Prop} (h : p := by first | exact v0z (by first | assumption | exact v2l (by omega) (by omega)) (by assumption) (by assumption) (by assumption) | exact v2y (by assumption) | exact v2z (by assumption) | exact v2x (by assumption) | exact v10 (v2n (by omega)) | exact v10 (v2m (by omega))) : p := h
theorem v1n (k : Int) (r : List Int) (rn : Nat) (m : List (List Int)) (c : Nat) (s : List Int) (sn : Nat) (q : Nat) (cr : Int) (cm : List Int) (cn : Nat) (cz : Int) (hr : ka0 r = rn * 2) (hs : ka0 s = sn * 2) (hc : ka0 m = c) (h1 : rn ≤ 1000000) (h2 : sn ≤ 1000000) (h3 : c ≤ 1000000) (hW : MsW m) (hm : ka0 cm = cn) (h4 : cn ≤ 1000000) (hq : q ≤ 64) : Fun 51 [.agg [iC k, .d (D.sl (dI .i64 r) rn), .d (D.sl (kI m) c), .d (D.sl (dI .i64 s) sn)], .agg [iC ((q : Nat) : Int), iC cr, .d (D.sl (dI .i64 cm) cn), iC cz]] (kH []) 0 (uP (D.lit (.bool (iA k r rn m s sn (q : Int) cr cm cz)))) (kH []) 0 := by
 refine Fun.mk (n := 42) Tryz.func51 rfl rfl (ka4 rfl) ?_
 intro cx hcx
 refine kK [.no, .no, .no] True [(2, rV 0 0), (3, rV 1 0)] [(0, some (59, .ds [iD k, dl r rn, D.sl (kI m) c, dl s sn])), (1, some (27, .ds [uD q, iD cr, dl cm cn, iD cz]))] 2 trivial ?_
 rcases ka9 (decide (1 ≤ ((q : Nat) : Int) ∧ ((q : Nat) : Int) ≤ 7)) with hx1 | hx1
 ·have hx2 : (((1 : Int) ≤ ((q : Nat) : Int)) ∧ (((q : Nat) : Int) ≤ 7)) := of_decide_eq_true hx1
  by_cases hx3 : ((dE (k / (((2 ^ q) : Nat) : Int))) = 1)
  ·rcases ka9 (dK (kC r rn) cr) with hx4 | hx4
   ·rcases ka9 (gI m cm) with hx5 | hx5
    ·rcases ka9 (dK (kC s sn) cz) with hx6 | hx6
     ·refine kK (.no :: .no :: .no :: .call [] (bV true) [] 0 [] none :: qE 6 (.n q :: .i (dE (k / (((2 ^ q) : Nat) : Int))) :: .b true :: qE 7 (.call [] (bV true) [] 0 [] none :: qE 7 (.call [] (bV true) [] 0 [] none :: qE 6 [.call [] (bV true) [] 0 [] none, .no, .no])))) ((Fun 54 [uE q] (kH []) 0 (bV true) (kH []) 0) ∧ (kN (q : Int)) ∧ (q ≤ 64) ∧ (qG .and .i64 (k / (((2 ^ q) : Nat) : Int)) 1 = (dE (k / (((2 ^ q) : Nat) : Int)))) ∧ (((dE (k / (((2 ^ q) : Nat) : Int))) = 1)) ∧ (Fun 95 [.agg [.d (dl r rn)], iE cr] (kH []) 0 (bV true) (kH []) 0) ∧ (Fun 96 [.c (.d (D.sl (kI m) c)), .c (.d (dl cm cn))] (kH []) 0 (bV true) (kH []) 0) ∧ (Fun 95 [.agg [.d (dl s sn)], iE cz] (kH []) 0 (bV true) (kH []) 0)) [(4, bV true)] [] 2 ⟨(by have h0 := (pZ (q : Int)); rw [hx1] at h0; exact h0), rfl, zo, rfl, zo, (by have h0 := (s6 r rn cr zo zo); rw [hx4] at h0; exact h0), (by have h0 := (lQ m c cm cn zo zo zo zo (qD : MsW m)); rw [hx5] at h0; exact h0), (by have h0 := (s6 s sn cz zo zo); rw [hx6] at h0; exact h0)⟩ ?_
      refine AW.ret ?_
      exact kA (.inr rfl) [] (P := ((iA k r rn m s sn (q : Int) cr cm cz) = true)) zk i0
     ·refine kK (.no :: .no :: .no :: .call [] (bV true) [] 0 [] none :: qE 6 (.n q :: .i (dE (k / (((2 ^ q) : Nat) : Int))) :: .b true :: qE 7 (.call [] (bV true) [] 0 [] none :: qE 7 (.call [] (bV true) [] 0 [] none :: qE 6 [.call [] (bV false) [] 0 [] none, .no, .no])))) ((Fun 54 [uE q] (kH []) 0 (bV true) (kH []) 0) ∧ (kN (q : Int)) ∧ (q ≤ 64) ∧ (qG .and .i64 (k / (((2 ^ q) : Nat) : Int)) 1 = (dE (k / (((2 ^ q) : Nat) : Int)))) ∧ (((dE (k / (((2 ^ q) : Nat) : Int))) = 1)) ∧ (Fun 95 [.agg [.d (dl r rn)], iE cr] (kH []) 0 (bV true) (kH []) 0) ∧ (Fun 96 [.c (.d (D.sl (kI m) c)), .c (.d (dl cm cn))] (kH []) 0 (bV true) (kH []) 0) ∧ (Fun 95 [.agg [.d (dl s sn)], iE cz] (kH []) 0 (bV false) (kH []) 0)) [(4, bV false)] [] 2 ⟨(by have h0 := (pZ (q : Int)); rw [hx1] at h0; exact h0), rfl, zo, rfl, zo, (by have h0 := (s6 r rn cr zo zo); rw [hx4] at h0; exact h0), (by have h0 := (lQ m c cm cn zo zo zo zo (qD : MsW m)); rw [hx5] at h0; exact h0), (by have h0 := (s6 s sn cz zo zo); rw [hx6] at h0; exact h0)⟩ ?_
      refine AW.ret ?_
      exact kA (.inr rfl) [] (P := ((iA k r rn m s sn (q : Int) cr cm cz) = false)) zk i0
    ·refine kK (.no :: .no :: .no :: .call [] (bV true) [] 0 [] none :: qE 6 (.n q :: .i (dE (k / (((2 ^ q) : Nat) : Int))) :: .b true :: qE 7 (.call [] (bV true) [] 0 [] none :: qE 7 (.call [] (bV false) [] 0 [] none :: qE 4 [])))) ((Fun 54 [uE q] (kH []) 0 (bV true) (kH []) 0) ∧ (kN (q : Int)) ∧ (q ≤ 64) ∧ (qG .and .i64 (k / (((2 ^ q) : Nat) : Int)) 1 = (dE (k / (((2 ^ q) : Nat) : Int)))) ∧ (((dE (k / (((2 ^ q) : Nat) : Int))) = 1)) ∧ (Fun 95 [.agg [.d (dl r rn)], iE cr] (kH []) 0 (bV true) (kH []) 0) ∧ (Fun 96 [.c (.d (D.sl (kI m) c)), .c (.d (dl cm cn))] (kH []) 0 (bV false) (kH []) 0)) [(4, bV false)] [] 2 ⟨(by have h0 := (pZ (q : Int)); rw [hx1] at h0; exact h0), rfl, zo, rfl, zo, (by have h0 := (s6 r rn cr zo zo); rw [hx4] at h0; exact h0), (by have h0 := (lQ m c cm cn zo zo zo zo (qD : MsW m)); rw [hx5] at h0; exact h0)⟩ ?_
     refine AW.ret ?_
     exact kA (.inr rfl) [] (P := ((iA k r rn m s sn (q : Int) cr cm cz) = false)) zk i0
   ·refine kK (.no :: .no :: .no :: .call [] (bV true) [] 0 [] none :: qE 6 (.n q :: .i (dE (k / (((2 ^ q) : Nat) : Int))) :: .b true :: qE 7 (.call [] (bV false) [] 0 [] none :: qE 6 []))) ((Fun 54 [uE q] (kH []) 0 (bV true) (kH []) 0) ∧ (kN (q : Int)) ∧ (q ≤ 64) ∧ (qG .and .i64 (k / (((2 ^ q) : Nat) : Int)) 1 = (dE (k / (((2 ^ q) : Nat) : Int)))) ∧ (((dE (k / (((2 ^ q) : Nat) : Int))) = 1)) ∧ (Fun 95 [.agg [.d (dl r rn)], iE cr] (kH []) 0 (bV false) (kH []) 0)) [(4, bV false)] [] 2 ⟨(by have h0 := (pZ (q : Int)); rw [hx1] at h0; exact h0), rfl, zo, rfl, zo, (by have h0 := (s6 r rn cr zo zo); rw [hx4] at h0; exact h0)⟩ ?_
    refine AW.ret ?_
    exact kA (.inr rfl) [] (P := ((iA k r rn m s sn (q : Int) cr cm cz) = false)) zk i0
  ·refine kK (.no :: .no :: .no :: .call [] (bV true) [] 0 [] none :: qE 6 (.n q :: .i (dE (k / (((2 ^ q) : Nat) : Int))) :: .b false :: qE 8 [])) ((Fun 54 [uE q] (kH []) 0 (bV true) (kH []) 0) ∧ (kN (q : Int)) ∧ (q ≤ 64) ∧ (qG .and .i64 (k / (((2 ^ q) : Nat) : Int)) 1 = (dE (k / (((2 ^ q) : Nat) : Int)))) ∧ (¬ ((dE (k / (((2 ^ q) : Nat) : Int))) = 1))) [(4, bV false)] [] 2 ⟨(by have h0 := (pZ (q : Int)); rw [hx1] at h0; exact h0), rfl, zo, rfl, zo⟩ ?_
   refine AW.ret ?_
   exact kA (.inr rfl) [] (P := ((iA k r rn m s sn (q : Int) cr cm cz) = false)) zk i0
 ·have hx7 : ¬ (((1 : Int) ≤ ((q : Nat) : Int)) ∧ (((q : Nat) : Int) ≤ 7)) := of_decide_eq_false hx1
  refine kK (.no :: .no :: .no :: .call [] (bV false) [] 0 [] none :: qE 9 []) (Fun 54 [uE q] (kH []) 0 (bV false) (kH []) 0) [(4, bV false)] [] 2 (by have h0 := (pZ (q : Int)); rw [hx1] at h0; exact h0) ?_
  refine AW.ret ?_
  exact kA (.inr rfl) [] (P := ((iA k r rn m s sn (q : Int) cr cm cz) = false)) zk i0
theorem v1m (k : Int) (r : List Int) (rn : Nat) (m : List (List Int)) (c : Nat) (s : List Int) (sn : Nat) (ck cr : Int) (cm : List Int) (cn : Nat) (cz : Int) (hr : ka0 r = rn * 2) (hs : ka0 s = sn * 2) (hc : ka0 m = c) (h1 : rn ≤ 1000000) (h2 : sn ≤ 1000000) (h3 : c ≤ 1000000) (hW : MsW m) (hm : ka0 cm = cn) (h4 : cn ≤ 1000000) (hq : ¬ (1 ≤ ck ∧ ck ≤ 7)) : Fun 51 [.agg [iC k, .d (D.sl (dI .i64 r) rn), .d (D.sl (kI m) c), .d (D.sl (dI .i64 s) sn)], .agg [iC ck, iC cr, .d (D.sl (dI .i64 cm) cn), iC cz]] (kH []) 0 (uP (D.lit (.bool (iA k r rn m s sn ck cr cm cz)))) (kH []) 0 := by
 refine Fun.mk (n := 42) Tryz.func51 rfl rfl (ka4 rfl) ?_
 intro cx hcx
 refine kK [.no, .no, .no] True [(2, rV 0 0), (3, rV 1 0)] [(0, some (59, .ds [iD k, dl r rn, D.sl (kI m) c, dl s sn])), (1, some (27, .ds [iD ck, iD cr, dl cm cn, iD cz]))] 2 trivial ?_
 refine kK (.no :: .no :: .no :: .call [] (bV false) [] 0 [] none :: qE 9 []) _ [(4, bV false)] [] 2 (Fun.y (pZ ck) (y' := bV false) (congrArg (fun b => LV (.bool b)) (decide_eq_false zo))) ?_
 refine AW.ret ?_
 exact kA (.inr rfl) [] (P := ((iA k r rn m s sn ck cr cm cz) = false)) zk i0
theorem v31 (k : Int) (r : List Int) (rn : Nat) (m : List (List Int)) (c : Nat) (s : List Int) (sn : Nat) (ck cr : Int) (cm : List Int) (cn : Nat) (cz : Int) (hr : ka0 r = rn * 2) (hs : ka0 s = sn * 2) (hc : ka0 m = c) (h1 : rn ≤ 1000000) (h2 : sn ≤ 1000000) (h3 : c ≤ 1000000) (hW : MsW m) (hm : ka0 cm = cn) (h4 : cn ≤ 1000000) : Fun 51 [.agg [iC k, .d (D.sl (dI .i64 r) rn), .d (D.sl (kI m) c), .d (D.sl (dI .i64 s) sn)], .agg [iC ck, iC cr, .d (D.sl (dI .i64 cm) cn), iC cz]] (kH []) 0 (uP (D.lit (.bool (iA k r rn m s sn ck cr cm cz)))) (kH []) 0 := by
 by_cases h9 : 1 ≤ ck ∧ ck ≤ 7
 ·obtain ⟨q, rfl⟩ : ∃ q : Nat, ck = (q : Int) := ⟨Int.toNat ck, by omega⟩
  exact v1n k r rn m c s sn q cr cm cn cz hr hs hc h1 h2 h3 hW hm h4 (by omega)
 ·exact v1m k r rn m c s sn ck cr cm cn cz hr hs hc h1 h2 h3 hW hm h4 h9
theorem k4p (k : Int) (r : List Int) (rn : Nat) (m : List (List Int)) (c : Nat) (s : List Int) (sn : Nat) (ck cr : Int) (cm : List Int) (cn : Nat) (cz : Int) (hr : ka0 r = rn * 2) (hs : ka0 s = sn * 2) (hc : ka0 m = c) (h1 : rn ≤ 1000000) (h2 : sn ≤ 1000000) (h3 : c ≤ 1000000) (hW : MsW m) (hm : ka0 cm = cn) (h4 : cn ≤ 1000000) : Fun 50 [.agg [iC k, .d (D.sl (dI .i64 r) rn), .d (D.sl (kI m) c), .d (D.sl (dI .i64 s) sn)], .c (.ptr 0 0)] (kH [(0, some (27, .ds [iD ck, iD cr, D.sl (dI .i64 cm) cn, iD cz]))]) 1 (uP (D.lit (.bool (iA k r rn m s sn ck cr cm cz)))) (kH [(0, some (27, .ds [iD ck, iD cr, D.sl (dI .i64 cm) cn, iD cz]))]) 1 := by
 refine Fun.mk (n := 7) Tryz.func50 rfl rfl (ka4 rfl) ?_
 intro cx hcx
 refine kK [.no, .no] True [(1, rV 0 0), (2, rV 1 0)] [(0, some (27, .ds [iD ck, iD cr, dl cm cn, iD cz])), (1, some (59, .ds [iD k, dl r rn, D.sl (kI m) c, dl s sn]))] 2 trivial ?_
 refine kK [.no, .no, .call [] (uP (D.lit (.bool (iA k r rn m s sn ck cr cm cz)))) [] 0 [] none, .no] _ [(3, uP (D.lit (.bool (iA k r rn m s sn ck cr cm cz))))] [(0, some (27, .ds [iD ck, iD cr, dl cm cn, iD cz]))] 2 (v31 k r rn m c s sn ck cr cm cn cz zo zo zo zo zo zo (qD : MsW m) zo zo) ?_
 refine AW.ret ?_
 exact kA (.inr rfl) [] (P := ((iA k r rn m s sn ck cr cm cz) = (iA k r rn m s sn ck cr cm cz)) ∧ (kM [iD ck, iD cr, dl cm cn, iD cz])) zk ⟨rfl, rfl⟩
abbrev vR (ck : Int) (cr : Int) (cm : List Int) (cn : Nat) (cz : Int) : BC := .ds [iD ck, iD cr, D.sl (dI .i64 cm) cn, iD cz]
theorem u5d (bs : List Bx) (n : Nat) (ck cr : Int) (cm : List Int) (cn : Nat) (cz : Int) (hn : ka0 bs = n) (h1 : n ≤ 1000000) (hW : BsW bs) (hm : ka0 cm = cn) (h4 : cn ≤ 1000000) : Fun 90 [.c (.d (D.sl (kE bs) n)), .c (.fn 50 [(0, 0)])] (kH [(0, some (27, .ds [iD ck, iD cr, D.sl (dI .i64 cm) cn, iD cz]))]) 1 (iV (biK bs ck cr cm cz n)) (kH [(0, some (27, .ds [iD ck, iD cr, D.sl (dI .i64 cm) cn, iD cz]))]) 1 := by
 refine Fun.mk (n := 19) Tryz.func90 rfl rfl (ka4 rfl) ?_
 intro cx hcx
 refine kK [.no] True [(0, kG (kE bs) n), (1, .e (.c (.fn 50 [(0, 0)])))] [(0, some (27, (vR ck cr cm cn cz)))] 1 trivial ?_
 refine AW.seq ?_
 refine kO [.no, .no, .no] True [(0, kG (kE bs) n), (1, .e (.c (.fn 50 [(0, 0)]))), (7, uV n), (8, iV 0)] trivial ?_
 refine AW.block ?_
 refine kY 1 hcx (fun (x : {x : Nat // match x with | k => (k ≤ n) ∧ (biK bs ck cr cm cz k = -1)}) => match x with | ⟨k, _⟩ => (⟨[(0, kG (kE bs) n), (1, .e (.c (.fn 50 [(0, 0)]))), (7, uV n), (8, uV k)], [(0, some (27, (vR ck cr cm cn cz)))], 1⟩ : ES)) (fun x => match x with | ⟨k, _⟩ => n - k) ⟨(0 : Nat), ⟨fR, rfl⟩⟩ [] (P := (kM (kE bs)) ∧ (kJ n) ∧ (kN (n : Int)) ∧ (kN 0) ∧ (kM [iD ck, iD cr, dl cm cn, iD cz])) zk ⟨rfl, rfl, rfl, rfl, rfl⟩ ?_
 rintro ⟨k, hinv0⟩
 obtain ⟨hk, hi⟩ : (k ≤ n) ∧ (biK bs ck cr cm cz k = -1) := hinv0
 refine qR (l := [(0, kG (kE bs) n), (1, .e (.c (.fn 50 [(0, 0)]))), (7, uV n), (8, uV k)]) (g := [(0, some (27, (vR ck cr cm cn cz)))]) (nx := 1) rfl rfl rfl ?_
 by_cases hx1 : (((k : Nat) : Int) < ((n : Nat) : Int))
 ·refine kK [.b true] (((k : Int) < (n : Int))) [(0, kG (kE bs) n), (1, .e (.c (.fn 50 [(0, 0)]))), (7, uV n), (8, uV k), (9, bV true)] [(0, some (27, (vR ck cr cm cn cz)))] 1 zo ?_
  refine AW.seq ?_
  refine vB ?_
  refine AW.seq ?_
  refine AW.block ?_
  refine kO [.no, .no] True [(0, kG (kE bs) n), (1, .e (.c (.fn 50 [(0, 0)]))), (5, uV k), (7, uV n), (8, uV k)] trivial ?_
  rcases ka9 (iA (kQ bs k) (kZ bs k) (kX bs k) (kL bs k) (qA bs k) (k8 bs k) ck cr cm cz) with hx7 | hx7
  ·obtain ⟨hx8, hx9, hx10, hx11, hx12⟩ := BsW.at (qD : BsW bs) (k)
   refine kK [.no, .no, .no, .n k, .ds [iD (kQ bs k), dl (kZ bs k) (kX bs k), D.sl (kI (kL bs k)) (ka0 (kL bs k)), dl (qA bs k) (k8 bs k)], .call [0] (bV true) [(0, some (27, (vR ck cr cm cn cz)))] 1 [] none] ((kN (k : Int)) ∧ (k < n) ∧ (ka5 4 (ka3 (k * 4) (kE bs)) = [iD (kQ bs k), dl (kZ bs k) (kX bs k), D.sl (kI (kL bs k)) (ka0 (kL bs k)), dl (qA bs k) (k8 bs k)]) ∧ (([iD (kQ bs k), dl (kZ bs k) (kX bs k), D.sl (kI (kL bs k)) (ka0 (kL bs k)), dl (qA bs k) (k8 bs k)] : List D).length = 4) ∧ (Fun 50 [.agg [iC (kQ bs k), .d (dl (kZ bs k) (kX bs k)), .d (D.sl (kI (kL bs k)) (ka0 (kL bs k))), .d (dl (qA bs k) (k8 bs k))], .c (.ptr 0 0)] (kH [(0, some (27, (vR ck cr cm cn cz)))]) 1 (bV true) (kH [(0, some (27, (vR ck cr cm cn cz)))]) 1)) [(0, kG (kE bs) n), (1, .e (.c (.fn 50 [(0, 0)]))), (5, uV k), (7, uV n), (8, uV k), (16, bV true)] [(0, some (27, (vR ck cr cm cn cz)))] 1 ⟨rfl, zo, (yV iZ), rfl, (by have h0 := (k4p (kQ bs k) (kZ bs k) (kX bs k) (kL bs k) (ka0 (kL bs k)) (qA bs k) (k8 bs k) ck cr cm cn cz uQ uQ rfl uQ uQ uQ (BsW.ms (qD : BsW bs) _) zo zo); rw [hx7] at h0; exact h0)⟩ ?_
   refine zt ?_
   refine kO [.no, .no] True [(4, uV k)] trivial ?_
   refine AW.ret ?_
   exact kA (.inr rfl) [] (P := (((biK bs ck cr cm cz n) : Int) = (k : Int)) ∧ (kM [iD ck, iD cr, dl cm cn, iD cz])) zk ⟨(by first | rfl | exact u4y hi (by assumption) zo | (rw [show n = k by omega]; exact hi) | omega), rfl⟩
  ·obtain ⟨hx13, hx14, hx15, hx16, hx17⟩ := BsW.at (qD : BsW bs) (k)
   refine kK [.no, .no, .no, .n k, .ds [iD (kQ bs k), dl (kZ bs k) (kX bs k), D.sl (kI (kL bs k)) (ka0 (kL bs k)), dl (qA bs k) (k8 bs k)], .call [0] (bV false) [(0, some (27, (vR ck cr cm cn cz)))] 1 [] none] ((kN (k : Int)) ∧ (k < n) ∧ (ka5 4 (ka3 (k * 4) (kE bs)) = [iD (kQ bs k), dl (kZ bs k) (kX bs k), D.sl (kI (kL bs k)) (ka0 (kL bs k)), dl (qA bs k) (k8 bs k)]) ∧ (([iD (kQ bs k), dl (kZ bs k) (kX bs k), D.sl (kI (kL bs k)) (ka0 (kL bs k)), dl (qA bs k) (k8 bs k)] : List D).length = 4) ∧ (Fun 50 [.agg [iC (kQ bs k), .d (dl (kZ bs k) (kX bs k)), .d (D.sl (kI (kL bs k)) (ka0 (kL bs k))), .d (dl (qA bs k) (k8 bs k))], .c (.ptr 0 0)] (kH [(0, some (27, (vR ck cr cm cn cz)))]) 1 (bV false) (kH [(0, some (27, (vR ck cr cm cn cz)))]) 1)) [(0, kG (kE bs) n), (1, .e (.c (.fn 50 [(0, 0)]))), (5, uV k), (7, uV n), (8, uV k), (16, bV false)] [(0, some (27, (vR ck cr cm cn cz)))] 1 ⟨rfl, zo, (yV iZ), rfl, (by have h0 := (k4p (kQ bs k) (kZ bs k) (kX bs k) (kL bs k) (ka0 (kL bs k)) (qA bs k) (k8 bs k) ck cr cm cn cz uQ uQ rfl uQ uQ uQ (BsW.ms (qD : BsW bs) _) zo zo); rw [hx7] at h0; exact h0)⟩ ?_
   refine q8 ?_
   refine uT [.w, .no] ((-9223372036854775808) ≤ ((k : Int) + 1) ∧ ((k : Int) + 1) ≤ 9223372036854775807) [(0, kG (kE bs) n), (1, .e (.c (.fn 50 [(0, 0)]))), (7, uV n), (8, iV (↑k + 1))] ⟨by omega, by omega⟩ ?_
   exact kW ⟨((k + 1) : Nat), ⟨fR, (v11 hi (by assumption))⟩⟩ [] (P := (kM (kE bs)) ∧ (kJ n) ∧ (kN (n : Int)) ∧ (((((k + 1) : Nat) : Int) : Int) = ((k : Int) + 1)) ∧ (kM [iD ck, iD cr, dl cm cn, iD cz])) zk ⟨rfl, rfl, rfl, tC, rfl⟩ (show n - (k + 1) < n - k from (by first | omega | (show _ < _; simp; omega)))
 ·refine kK [.b false] (¬ ((k : Int) < (n : Int))) [(0, kG (kE bs) n), (1, .e (.c (.fn 50 [(0, 0)]))), (7, uV n), (8, uV k), (9, bV false)] [(0, some (27, (vR ck cr cm cn cz)))] 1 zo ?_
  refine AW.seq ?_
  refine zf ?_
  refine AW.exit ?_
  refine kK [.no] True [(4, iV (-1))] [(0, some (27, (vR ck cr cm cn cz)))] 1 trivial ?_
  refine AW.ret ?_
  exact kA (.inr rfl) [] (P := (((biK bs ck cr cm cz n) : Int) = (-1)) ∧ (kM [iD ck, iD cr, dl cm cn, iD cz])) zk ⟨(by first | rfl | exact u4y hi (by assumption) zo | (rw [show n = k by omega]; exact hi) | omega), rfl⟩
theorem v1l (bs : List Bx) (n : Nat) (ck cr : Int) (cm : List Int) (cn : Nat) (cz : Int) (hn : ka0 bs = n) (h1 : n ≤ 1000000) (hW : BsW bs) (hm : ka0 cm = cn) (h4 : cn ≤ 1000000) : Fun 45 [.c (.d (D.sl (kE bs) n)), .c (.fn 50 [(0, 0)])] (kH [(0, some (27, .ds [iD ck, iD cr, D.sl (dI .i64 cm) cn, iD cz]))]) 1 (uP (D.lit (.bool (haB bs ck cr cm cz)))) (kH [(0, some (27, .ds [iD ck, iD cr, D.sl (dI .i64 cm) cn, iD cz]))]) 1 := by
 refine Fun.mk (n := 9) Tryz.func45 rfl rfl (ka4 rfl) ?_
 intro cx hcx
 refine kK [.no] True [(0, kG (kE bs) n), (1, .e (.c (.fn 50 [(0, 0)])))] [(0, some (27, .ds [iD ck, iD cr, dl cm cn, iD cz]))] 1 trivial ?_
 by_cases hx1 : ((0 : Int) ≤ (biK bs ck cr cm cz n))
 ·refine kO [.no, .no, .call [0] (iV (biK bs ck cr cm cz n)) [(0, some (27, .ds [iD ck, iD cr, dl cm cn, iD cz]))] 1 [] none, .b true, .no] ((_) ∧ (((0 : Int) ≤ (biK bs ck cr cm cz n)))) [(4, bV true)] ⟨(u5d bs n ck cr cm cn cz zo zo (qD : BsW bs) zo zo), zo⟩ ?_
  refine AW.ret ?_
  exact kA (.inr rfl) [] (P := ((haB bs ck cr cm cz) = true) ∧ (kM [iD ck, iD cr, dl cm cn, iD cz])) zk ⟨(by first | exact v0g hn zo | exact v0h hn zo), rfl⟩
 ·refine kO [.no, .no, .call [0] (iV (biK bs ck cr cm cz n)) [(0, some (27, .ds [iD ck, iD cr, dl cm cn, iD cz]))] 1 [] none, .b false, .no] ((_) ∧ (¬ ((0 : Int) ≤ (biK bs ck cr cm cz n)))) [(4, bV false)] ⟨(u5d bs n ck cr cm cn cz zo zo (qD : BsW bs) zo zo), zo⟩ ?_
  refine AW.ret ?_
  exact kA (.inr rfl) [] (P := ((haB bs ck cr cm cz) = false) ∧ (kM [iD ck, iD cr, dl cm cn, iD cz])) zk ⟨(by first | exact v0g hn zo | exact v0h hn zo), rfl⟩
theorem v1o (bs : List Bx) (n : Nat) (ck cr : Int) (cm : List Int) (cn : Nat) (cz : Int) (hn : ka0 bs = n) (h1 : n ≤ 1000000) (hW : BsW bs) (hm : ka0 cm = cn) (h4 : cn ≤ 1000000) : Fun 21 [.c (.d (D.sl (kE bs) n)), .agg [iC ck, iC cr, .d (D.sl (dI .i64 cm) cn), iC cz]] (kH []) 0 (uP (D.lit (.bool (haB (kF bs) ck cr cm cz)))) (kH []) 0 := by
 refine Fun.mk (n := 9) Tryz.func21 rfl rfl (ka4 rfl) ?_
 intro cx hcx
 refine kK [.no, .no] True [(0, kG (kE bs) n), (3, rV 0 0)] [(0, some (27, .ds [iD ck, iD cr, dl cm cn, iD cz]))] 1 trivial ?_
 have hx1 : ((ka0 (kF bs)) ≤ n) := (by have h9 := mV bs; omega)
 refine kK [.no, .call [] (kG (kE (kF bs)) (ka0 (kF bs))) [] 0 [] none, .no, .call [0] (uP (D.lit (.bool (haB (kF bs) ck cr cm cz)))) [(0, some (27, .ds [iD ck, iD cr, dl cm cn, iD cz]))] 1 [] none, .no] ((_) ∧ (_)) [(4, uP (D.lit (.bool (haB (kF bs) ck cr cm cz))))] [] 1 ⟨(oH bs n zo zo (qD : BsW bs)), (v1l (kF bs) (ka0 (kF bs)) ck cr cm cn cz rfl uQ (bK (qD : BsW bs)) zo zo)⟩ ?_
 refine AW.ret ?_
 exact kA (.inr rfl) [] (P := ((haB (kF bs) ck cr cm cz) = (haB (kF bs) ck cr cm cz))) zk rfl
end Go.Proofs.YtcfmjpnffembpaaGreat
