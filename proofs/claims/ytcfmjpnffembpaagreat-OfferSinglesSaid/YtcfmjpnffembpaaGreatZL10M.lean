/- Boxes of the code. No statement is proved here. -/
import Derived.Test.YtcfmjpnffembpaaGreatZL10D
namespace Go.Proofs.YtcfmjpnffembpaaGreat
open Go.ChangeShapes Go.WideShapes Go.ChangeAt Go.RowKit
set_option linter.unusedVariables false
set_option linter.unusedSimpArgs false
/-! chapter 10: the code's lists of boxes -/
set_option maxHeartbeats 4000000
set_option maxRecDepth 100000
def fiK (p : Nat → Bool) : Nat → Int
 | 0 => -1
 | k + 1 => if 0 ≤ fiK p k then fiK p k else if p k = true then (k : Int) else -1
theorem fi_miss {p : Nat → Bool} {k : Nat} (h : fiK p k = -1) (h2 : p k = false) : fiK p (k + 1) = -1 := by
 show (if 0 ≤ fiK p k then _ else _) = _
 rw [if_neg (by omega), if_neg (by rw [h2]; decide)]
theorem fi_hit {p : Nat → Bool} {k : Nat} (h : fiK p k = -1) (h2 : p k = true) : ∀ n, k < n → fiK p n = (k : Int)
 | 0, h3 => absurd h3 (Nat.not_lt_zero k)
 | n + 1, h3 => by
  show (if 0 ≤ fiK p n then _ else _) = _
  by_cases e : k = n
  ·subst e; rw [if_neg (by omega), if_pos h2]
  ·have h4 := fi_hit h h2 n (by omega)
   rw [if_pos (by omega), h4]
theorem fi_spec (p : Nat → Bool) : ∀ n, (fiK p n = -1 ∧ ∀ j, j < n → p j = false) ∨ ∃ k, k < n ∧ fiK p n = (k : Int) ∧ p k = true
 | 0 => .inl ⟨rfl, fun j h => absurd h (Nat.not_lt_zero j)⟩
 | n + 1 => by
  rcases fi_spec p n with ⟨h1, h2⟩ | ⟨k, hk, h1, h2⟩
  ·cases e : p n with
   | false => exact .inl ⟨fi_miss h1 e, fun j hj => (Nat.lt_succ_iff_lt_or_eq.1 hj).elim (h2 j) fun e9 => e9 ▸ e⟩
   | true => exact .inr ⟨n, Nat.lt_succ_self n, fi_hit h1 e _ (Nat.lt_succ_self n), e⟩
  ·refine .inr ⟨k, by omega, ?_, h2⟩
   show (if 0 ≤ fiK p n then _ else _) = _
   rw [if_pos (by omega)]; exact h1
theorem fi_in {p : Nat → Bool} {n : Nat} (h : 0 ≤ fiK p n) : ∃ k, k < n ∧ p k = true := by
 rcases fi_spec p n with ⟨h1, _⟩ | ⟨k, hk, _, h2⟩
 ·omega
 ·exact ⟨k, hk, h2⟩
theorem fi_out {p : Nat → Bool} {n : Nat} (h : ¬ 0 ≤ fiK p n) : ∀ j, j < n → p j = false := by
 rcases fi_spec p n with ⟨_, h2⟩ | ⟨k, hk, h1, _⟩
 ·exact h2
 ·omega
def hmK (ms : List (List Int)) (m : List Int) : Nat → Int := fiK fun j => sqB (List.getD ms j []) m
theorem hmK_t {ms : List (List Int)} {m : List Int} {c : Nat} (hc : ms.length = c) (h : 0 ≤ hmK ms m c) : hmB ms m = true := by
 obtain ⟨k, hk, h1⟩ := fi_in h
 exact hm_t (k := k) (by omega) h1
theorem hmK_f {ms : List (List Int)} {m : List Int} {c : Nat} (hc : ms.length = c) (h : ¬ 0 ≤ hmK ms m c) : hmB ms m = false :=
 hm_f fun j hj => fi_out h j (by omega)
def vbK (bs : List Bx) : Nat → Int := fiK fun j => !(vbE bs j)
theorem vbK_t {bs : List Bx} {n : Nat} (hn : bs.length = n) (h : 0 ≤ vbK bs n) : vbB bs = false := by
 obtain ⟨k, hk, h1⟩ := fi_in h
 exact vb_f (k := k) (by omega) (by simpa using h1)
theorem vbK_f {bs : List Bx} {n : Nat} (hn : bs.length = n) (h2 : n ≤ 64) (h : ¬ 0 ≤ vbK bs n) : vbB bs = true :=
 vb_t (by omega) fun j hj => by
  have h3 := fi_out h j (by omega)
  simpa using h3
def kjB (b q : Int) : Bool := decide (1 ≤ q ∧ q ≤ 7) && kiB b q.toNat
theorem kj_n {b q : Int} (h : ¬ (1 ≤ q ∧ q ≤ 7)) : kjB b q = false := by unfold kjB; rw [decide_eq_false h]; rfl
theorem kj_i {b : Int} {q : Nat} : kjB b (q : Int) = kiB b q := by
 unfold kjB
 rw [Int.toNat_natCast]
 by_cases h : 1 ≤ q ∧ q ≤ 7
 ·rw [decide_eq_true (by omega : 1 ≤ (q : Int) ∧ (q : Int) ≤ 7)]; rfl
 ·rw [decide_eq_false (by omega : ¬ (1 ≤ (q : Int) ∧ (q : Int) ≤ 7))]
  exact (decide_eq_false fun e => h ⟨e.1, e.2.1⟩).symm
def biB (k : Int) (r : List Int) (rn : Nat) (m : List (List Int)) (s : List Int) (sn : Nat) (ck cr : Int) (cm : List Int) (cz : Int) : Bool := kjB k ck && (hsB (spS r rn) cr && (hmB m cm && hsB (spS s sn) cz))
def biE (bs : List Bx) (ck cr : Int) (cm : List Int) (cz : Int) (i : Nat) : Bool := biB (qbK bs i) (qbR bs i) (qbN bs i) (qbM bs i) (qbS bs i) (qbT bs i) ck cr cm cz
def haB (bs : List Bx) (ck cr : Int) (cm : List Int) (cz : Int) : Bool := decide (∃ i, i < bs.length ∧ biE bs ck cr cm cz i = true)
def biK (bs : List Bx) (ck cr : Int) (cm : List Int) (cz : Int) : Nat → Int := fiK (biE bs ck cr cm cz)
theorem ha_t {bs : List Bx} {ck cr : Int} {cm : List Int} {cz : Int} {n : Nat} (hn : bs.length = n) (h : 0 ≤ biK bs ck cr cm cz n) : haB bs ck cr cm cz = true := by
 obtain ⟨k, hk, h1⟩ := fi_in h
 exact decide_eq_true ⟨k, by omega, h1⟩
theorem ha_f {bs : List Bx} {ck cr : Int} {cm : List Int} {cz : Int} {n : Nat} (hn : bs.length = n) (h : ¬ 0 ≤ biK bs ck cr cm cz n) : haB bs ck cr cm cz = false :=
 decide_eq_false fun ⟨j, hj, e⟩ => by
  have := fi_out h j (by omega); rw [e] at this; cases this
theorem bi_t {k : Int} {r : List Int} {rn : Nat} {m : List (List Int)} {s : List Int} {sn : Nat} {ck cr : Int} {cm : List Int} {cz : Int} (h1 : kjB k ck = true) (h2 : hsB (spS r rn) cr = true) (h3 : hmB m cm = true) (h4 : hsB (spS s sn) cz = true) : biB k r rn m s sn ck cr cm cz = true := by
 unfold biB; rw [h1, h2, h3, h4]; rfl
theorem bi_k {k : Int} {r : List Int} {rn : Nat} {m : List (List Int)} {s : List Int} {sn : Nat} {ck cr : Int} {cm : List Int} {cz : Int} (h1 : kjB k ck = false) : biB k r rn m s sn ck cr cm cz = false := by
 unfold biB; rw [h1]; rfl
theorem bi_r {k : Int} {r : List Int} {rn : Nat} {m : List (List Int)} {s : List Int} {sn : Nat} {ck cr : Int} {cm : List Int} {cz : Int} (h2 : hsB (spS r rn) cr = false) : biB k r rn m s sn ck cr cm cz = false := by
 unfold biB; rw [h2, Bool.false_and, Bool.and_false]
theorem bi_m {k : Int} {r : List Int} {rn : Nat} {m : List (List Int)} {s : List Int} {sn : Nat} {ck cr : Int} {cm : List Int} {cz : Int} (h3 : hmB m cm = false) : biB k r rn m s sn ck cr cm cz = false := by
 unfold biB; rw [h3, Bool.false_and, Bool.and_false, Bool.and_false]
theorem bi_s {k : Int} {r : List Int} {rn : Nat} {m : List (List Int)} {s : List Int} {sn : Nat} {ck cr : Int} {cm : List Int} {cz : Int} (h4 : hsB (spS s sn) cz = false) : biB k r rn m s sn ck cr cm cz = false := by
 unfold biB; rw [h4, Bool.and_false, Bool.and_false, Bool.and_false]
def cmS (a b : List (List Int)) : Nat → List (List Int)
 | 0 => []
 | i + 1 => if hmB b (List.getD a i []) = true then cmS a b i ++ [List.getD a i []] else cmS a b i
theorem cmS_y {a b o : List (List Int)} {i : Nat} (h : cmS a b i = o) (h1 : hmB b (List.getD a i []) = true) : cmS a b (i + 1) = o ++ [List.getD a i []] := by subst h; exact if_pos h1
theorem cmS_n {a b o : List (List Int)} {i : Nat} (h : cmS a b i = o) (h1 : hmB b (List.getD a i []) = false) : cmS a b (i + 1) = o := by subst h; exact if_neg (by rw [h1]; decide)
theorem cmS_W {a : List (List Int)} (h : MsW a) (b : List (List Int)) : ∀ i, MsW (cmS a b i)
 | 0 => MsW.nil
 | i + 1 => by
  rw [cmS]; split
  ·exact (cmS_W h b i).snoc (h.at i)
  ·exact cmS_W h b i
theorem cmS_le (a b : List (List Int)) : ∀ i, List.length (cmS a b i) ≤ i
 | 0 => Nat.le_refl _
 | i + 1 => by
  have := cmS_le a b i
  rw [cmS]; split
  ·rw [List.length_append, List.length_singleton]; omega
  ·omega
theorem hmK_m {ms : List (List Int)} {m : List Int} {k : Nat} (h : hmK ms m k = -1) (h2 : sqB (List.getD ms k []) m = false) : hmK ms m (k + 1) = -1 := fi_miss h h2
theorem hmK_h {ms : List (List Int)} {m : List Int} {k : Nat} (h : hmK ms m k = -1) (h2 : sqB (List.getD ms k []) m = true) {n : Nat} (hn : k < n) : hmK ms m n = (k : Int) := fi_hit h h2 n hn
def nxB (k : Int) (r : List Int) (rn : Nat) (m : List (List Int)) (s : List Int) (sn : Nat) : Bool := !(bxB k r rn m s sn)
theorem nx_t {k : Int} {r : List Int} {rn : Nat} {m : List (List Int)} {s : List Int} {sn : Nat} (h : bxB k r rn m s sn = false) : nxB k r rn m s sn = true := by unfold nxB; rw [h]; rfl
theorem nx_f {k : Int} {r : List Int} {rn : Nat} {m : List (List Int)} {s : List Int} {sn : Nat} (h : bxB k r rn m s sn = true) : nxB k r rn m s sn = false := by unfold nxB; rw [h]; rfl
theorem vbK_m {bs : List Bx} {k : Nat} (h : vbK bs k = -1) (h2 : nxB (qbK bs k) (qbR bs k) (qbN bs k) (qbM bs k) (qbS bs k) (qbT bs k) = false) : vbK bs (k + 1) = -1 := fi_miss h h2
theorem vbK_h {bs : List Bx} {k : Nat} (h : vbK bs k = -1) (h2 : nxB (qbK bs k) (qbR bs k) (qbN bs k) (qbM bs k) (qbS bs k) (qbT bs k) = true) {n : Nat} (hn : k < n) : vbK bs n = (k : Int) := fi_hit h h2 n hn
def naB (bs : List Bx) (n : Nat) : Bool := decide (0 ≤ vbK bs n)
theorem na_v {bs : List Bx} {n : Nat} (hn : bs.length = n) (h : naB bs n = true) : vbB bs = false := vbK_t hn (of_decide_eq_true h)
theorem na_w {bs : List Bx} {n : Nat} (hn : bs.length = n) (h2 : n ≤ 64) (h : naB bs n = false) : vbB bs = true := vbK_f hn h2 (of_decide_eq_false h)
theorem kj_y {b : Int} {q : Nat} (h1 : 1 ≤ q ∧ q ≤ 7) (h : odV (b / ((2 ^ q : Nat) : Int)) = 1) : kjB b (q : Int) = true := by
 rw [kj_i]; exact decide_eq_true ⟨h1.1, h1.2, h⟩
theorem kj_o {b : Int} {q : Nat} (h : ¬ odV (b / ((2 ^ q : Nat) : Int)) = 1) : kjB b (q : Int) = false := by
 rw [kj_i]; exact decide_eq_false fun e => h e.2.2
theorem biK_m {bs : List Bx} {ck cr : Int} {cm : List Int} {cz : Int} {k : Nat} (h : biK bs ck cr cm cz k = -1) (h2 : biB (qbK bs k) (qbR bs k) (qbN bs k) (qbM bs k) (qbS bs k) (qbT bs k) ck cr cm cz = false) : biK bs ck cr cm cz (k + 1) = -1 := fi_miss h h2
theorem biK_h {bs : List Bx} {ck cr : Int} {cm : List Int} {cz : Int} {k : Nat} (h : biK bs ck cr cm cz k = -1) (h2 : biB (qbK bs k) (qbR bs k) (qbN bs k) (qbM bs k) (qbS bs k) (qbT bs k) ck cr cm cz = true) {n : Nat} (hn : k < n) : biK bs ck cr cm cz n = (k : Int) := fi_hit h h2 n hn
theorem M_has1 (w a : List Int) (o n : Nat) (ho : List.length w = o) (hn : List.length a = n) (h1 : o ≤ 1000000) (h2 : n ≤ 1000000) : Fun 136 [.c (.d (D.sl (dI .i64 a) n)), .c (.ptr 0 0)] (toG [(0, some (23, .ds [D.sl (dI .i64 w) o]))]) 1 (.e (.c (.d (D.lit (.bool (sqB a w)))))) (toG [(0, some (23, .ds [D.sl (dI .i64 w) o]))]) 1 := by
 refine Fun.mk (n := 7) Tryz.func136 rfl rfl (Nat.le_of_ble_eq_true rfl) ?_
 intro cx hcx
 refine y9r [.no] True [(0, sV .i64 a n), (1, rV 0 0)] [(0, some (23, .ds [dl w o]))] 1 trivial ?_
 refine y9s [.no, .no, .call [] (.e (.c (.d (D.lit (.bool (sqB a w)))))) [] 0 [] none, .no] _ [(3, .e (.c (.d (D.lit (.bool (sqB a w))))))] (V_Same a w n o zo zo zo zo) ?_
 refine AW.ret ?_
 exact EndP.of (.inr rfl) [] (P := ((sqB a w) = (sqB a w)) ∧ (q9d [dl w o])) zk ⟨rfl, rfl⟩
theorem zl10m8 {p : Prop} (h : p := by first | omega | assumption | simp) : p := h
theorem zl10m3 {p : Prop} (h : p := by first | omega | (simp only [msD_len, bxD_len, List.length_append, List.length_cons, List.length_nil, List.length_take, List.length_drop] <;> omega)) : p := h
theorem zl10m1 {p : Prop} (h : p := by first | omega | with_reducible assumption | (simp only [msD_len, bxD_len, List.length_append, List.length_cons, List.length_nil, List.length_take, List.length_drop, List.length_replicate, List.length_set] <;> omega) | rfl | assumption) : p := h
theorem zl10m6 {p : Prop} (h : p := by first | rfl | omega | assumption | (simp; done) | (simp; omega)) : p := h
theorem M_ixm (ms : List (List Int)) (c : Nat) (w : List Int) (o : Nat) (hc : List.length ms = c) (ho : List.length w = o) (h1 : c ≤ 1000000) (h2 : o ≤ 1000000) (hW : MsW ms) : Fun 146 [.c (.d (D.sl (msD ms) c)), .c (.fn 136 [(0, 0)])] (toG [(0, some (23, .ds [D.sl (dI .i64 w) o]))]) 1 (iV (hmK ms w c)) (toG [(0, some (23, .ds [D.sl (dI .i64 w) o]))]) 1 := by
 refine Fun.mk (n := 19) Tryz.func146 rfl rfl (Nat.le_of_ble_eq_true rfl) ?_
 intro cx hcx
 refine y9r [.no] True [(0, .e (.c (.d (D.sl (msD ms) c)))), (1, .e (.c (.fn 136 [(0, 0)])))] [(0, some (23, .ds [dl w o]))] 1 trivial ?_
 refine AW.seq ?_
 refine y9s [.no, .no, .no] True [(0, .e (.c (.d (D.sl (msD ms) c)))), (1, .e (.c (.fn 136 [(0, 0)]))), (7, uV c), (8, iV 0)] trivial ?_
 refine AW.block ?_
 refine AW.loopE 1 hcx (fun (x : {x : Nat // match x with | k => (k ≤ c) ∧ (hmK ms w k = -1)}) => match x with | ⟨k, _⟩ => (⟨[(0, .e (.c (.d (D.sl (msD ms) c)))), (1, .e (.c (.fn 136 [(0, 0)]))), (7, uV c), (8, uV k)], [(0, some (23, .ds [dl w o]))], 1⟩ : ES)) (fun x => match x with | ⟨k, _⟩ => c - k) ⟨(0 : Nat), ⟨zl10m8, rfl⟩⟩ [] (P := (q9d (msD ms)) ∧ (q9n c) ∧ (q9i (c : Int)) ∧ (q9i 0) ∧ (q9d [dl w o])) zk ⟨rfl, rfl, rfl, rfl, rfl⟩ ?_
 rintro ⟨k, hinv0⟩
 obtain ⟨hk, hi⟩ : (k ≤ c) ∧ (hmK ms w k = -1) := hinv0
 refine AW.es (l := [(0, .e (.c (.d (D.sl (msD ms) c)))), (1, .e (.c (.fn 136 [(0, 0)]))), (7, uV c), (8, uV k)]) (g := [(0, some (23, .ds [dl w o]))]) (nx := 1) rfl rfl rfl ?_
 by_cases hx1 : (((k : Nat) : Int) < ((c : Nat) : Int))
 ·refine y9r [.b true] (((k : Int) < (c : Int))) [(0, .e (.c (.d (D.sl (msD ms) c)))), (1, .e (.c (.fn 136 [(0, 0)]))), (7, uV c), (8, uV k), (9, bV true)] [(0, some (23, .ds [dl w o]))] 1 zo ?_
  refine AW.seq ?_
  refine zts ?_
  refine AW.seq ?_
  refine AW.block ?_
  refine y9s [.no, .no] True [(0, .e (.c (.d (D.sl (msD ms) c)))), (1, .e (.c (.fn 136 [(0, 0)]))), (5, uV k), (7, uV c), (8, uV k)] trivial ?_
  rcases Bool.eq_false_or_eq_true (sqB (List.getD ms k ([] : List Int)) w) with hx3 | hx3
  ·have hx4 : ((List.length (List.getD ms k ([] : List Int))) ≤ 1000000) := MsW.at (show MsW ms by with_reducible assumption) _
   refine y9s [.no, .no, .no, .n k, .d (dl (List.getD ms k ([] : List Int)) (List.length (List.getD ms k ([] : List Int)))), .call [0] (bV true) [(0, some (23, .ds [dl w o]))] 1 [] none] ((q9i (k : Int)) ∧ (k < c) ∧ ((List.drop k (msD ms))[0]? = some (dl (List.getD ms k ([] : List Int)) (List.length (List.getD ms k ([] : List Int))))) ∧ (Fun 136 [.c (.d (dl (List.getD ms k ([] : List Int)) (List.length (List.getD ms k ([] : List Int))))), .c (.ptr 0 0)] (toG [(0, some (23, .ds [dl w o]))]) 1 (bV true) (toG [(0, some (23, .ds [dl w o]))]) 1)) [(0, .e (.c (.d (D.sl (msD ms) c)))), (1, .e (.c (.fn 136 [(0, 0)]))), (5, uV k), (7, uV c), (8, uV k), (16, bV true)] ⟨rfl, zo, (msD_at _ _ zl10m3), (by have h0 := (M_has1 w (List.getD ms k ([] : List Int)) o (List.length (List.getD ms k ([] : List Int))) zo rfl zo zl10m1); rw [hx3] at h0; exact h0)⟩ ?_
   refine zt ?_
   refine y9s [.no, .no] True [(4, uV k)] trivial ?_
   refine AW.ret ?_
   exact EndP.of (.inr rfl) [] (P := (((hmK ms w c) : Int) = (k : Int)) ∧ (q9d [dl w o])) zk ⟨(by first | rfl | exact hmK_h hi (by assumption) zo | (rw [show c = k by omega]; exact hi) | omega), rfl⟩
  ·have hx5 : ((List.length (List.getD ms k ([] : List Int))) ≤ 1000000) := MsW.at (show MsW ms by with_reducible assumption) _
   refine y9s [.no, .no, .no, .n k, .d (dl (List.getD ms k ([] : List Int)) (List.length (List.getD ms k ([] : List Int)))), .call [0] (bV false) [(0, some (23, .ds [dl w o]))] 1 [] none] ((q9i (k : Int)) ∧ (k < c) ∧ ((List.drop k (msD ms))[0]? = some (dl (List.getD ms k ([] : List Int)) (List.length (List.getD ms k ([] : List Int))))) ∧ (Fun 136 [.c (.d (dl (List.getD ms k ([] : List Int)) (List.length (List.getD ms k ([] : List Int))))), .c (.ptr 0 0)] (toG [(0, some (23, .ds [dl w o]))]) 1 (bV false) (toG [(0, some (23, .ds [dl w o]))]) 1)) [(0, .e (.c (.d (D.sl (msD ms) c)))), (1, .e (.c (.fn 136 [(0, 0)]))), (5, uV k), (7, uV c), (8, uV k), (16, bV false)] ⟨rfl, zo, (msD_at _ _ zl10m3), (by have h0 := (M_has1 w (List.getD ms k ([] : List Int)) o (List.length (List.getD ms k ([] : List Int))) zo rfl zo zl10m1); rw [hx3] at h0; exact h0)⟩ ?_
   refine zfs ?_
   refine y9h [.w, .no] ((-9223372036854775808) ≤ ((k : Int) + 1) ∧ ((k : Int) + 1) ≤ 9223372036854775807) [(0, .e (.c (.d (D.sl (msD ms) c)))), (1, .e (.c (.fn 136 [(0, 0)]))), (7, uV c), (8, iV (↑k + 1))] ⟨by omega, by omega⟩ ?_
   exact Rd.of ⟨((k + 1) : Nat), ⟨zl10m8, (hmK_m hi (by assumption))⟩⟩ [] (P := (q9d (msD ms)) ∧ (q9n c) ∧ (q9i (c : Int)) ∧ (((((k + 1) : Nat) : Int) : Int) = ((k : Int) + 1)) ∧ (q9d [dl w o])) zk ⟨rfl, rfl, rfl, zl10m6, rfl⟩ (show c - (k + 1) < c - k from (by first | omega | (show _ < _; simp; omega)))
 ·refine y9r [.b false] (¬ ((k : Int) < (c : Int))) [(0, .e (.c (.d (D.sl (msD ms) c)))), (1, .e (.c (.fn 136 [(0, 0)]))), (7, uV c), (8, uV k), (9, bV false)] [(0, some (23, .ds [dl w o]))] 1 zo ?_
  refine AW.seq ?_
  refine zf ?_
  refine AW.exit ?_
  refine y9r [.no] True [(4, iV (-1))] [(0, some (23, .ds [dl w o]))] 1 trivial ?_
  refine AW.ret ?_
  exact EndP.of (.inr rfl) [] (P := (((hmK ms w c) : Int) = (-1)) ∧ (q9d [dl w o])) zk ⟨(by first | rfl | exact hmK_h hi (by assumption) zo | (rw [show c = k by omega]; exact hi) | omega), rfl⟩
theorem M_cfm (ms : List (List Int)) (c : Nat) (w : List Int) (o : Nat) (hc : List.length ms = c) (ho : List.length w = o) (h1 : c ≤ 1000000) (h2 : o ≤ 1000000) (hW : MsW ms) : Fun 126 [.c (.d (D.sl (msD ms) c)), .c (.fn 136 [(0, 0)])] (toG [(0, some (23, .ds [D.sl (dI .i64 w) o]))]) 1 (.e (.c (.d (D.lit (.bool (hmB ms w)))))) (toG [(0, some (23, .ds [D.sl (dI .i64 w) o]))]) 1 := by
 refine Fun.mk (n := 9) Tryz.func126 rfl rfl (Nat.le_of_ble_eq_true rfl) ?_
 intro cx hcx
 refine y9r [.no] True [(0, .e (.c (.d (D.sl (msD ms) c)))), (1, .e (.c (.fn 136 [(0, 0)])))] [(0, some (23, .ds [dl w o]))] 1 trivial ?_
 by_cases hx1 : ((0 : Int) ≤ (hmK ms w c))
 ·refine y9s [.no, .no, .call [0] (iV (hmK ms w c)) [(0, some (23, .ds [dl w o]))] 1 [] none, .b true, .no] ((_) ∧ (((0 : Int) ≤ (hmK ms w c)))) [(4, bV true)] ⟨(M_ixm ms c w o zo zo zo zo (show MsW ms by with_reducible assumption)), zo⟩ ?_
  refine AW.ret ?_
  exact EndP.of (.inr rfl) [] (P := ((hmB ms w) = true) ∧ (q9d [dl w o])) zk ⟨(by first | exact hmK_t hc zo | exact hmK_f hc zo), rfl⟩
 ·refine y9s [.no, .no, .call [0] (iV (hmK ms w c)) [(0, some (23, .ds [dl w o]))] 1 [] none, .b false, .no] ((_) ∧ (¬ ((0 : Int) ≤ (hmK ms w c)))) [(4, bV false)] ⟨(M_ixm ms c w o zo zo zo zo (show MsW ms by with_reducible assumption)), zo⟩ ?_
  refine AW.ret ?_
  exact EndP.of (.inr rfl) [] (P := ((hmB ms w) = false) ∧ (q9d [dl w o])) zk ⟨(by first | exact hmK_t hc zo | exact hmK_f hc zo), rfl⟩
theorem M_has (ms : List (List Int)) (c : Nat) (w : List Int) (o : Nat) (hc : List.length ms = c) (ho : List.length w = o) (h1 : c ≤ 1000000) (h2 : o ≤ 1000000) (hW : MsW ms) : Fun 96 [.c (.d (D.sl (msD ms) c)), .c (.d (D.sl (dI .i64 w) o))] (toG []) 0 (.e (.c (.d (D.lit (.bool (hmB ms w)))))) (toG []) 0 := by
 refine Fun.mk (n := 8) Tryz.func96 rfl rfl (Nat.le_of_ble_eq_true rfl) ?_
 intro cx hcx
 refine y9r [.no, .no] True [(0, .e (.c (.d (D.sl (msD ms) c)))), (3, rV 0 0)] [(0, some (23, .ds [dl w o]))] 1 trivial ?_
 refine y9r [.no, .no, .call [0] (.e (.c (.d (D.lit (.bool (hmB ms w)))))) [(0, some (23, .ds [dl w o]))] 1 [] none, .no] _ [(4, .e (.c (.d (D.lit (.bool (hmB ms w))))))] [] 1 (M_cfm ms c w o zo zo zo zo (show MsW ms by with_reducible assumption)) ?_
 refine AW.ret ?_
 exact EndP.of (.inr rfl) [] (P := ((hmB ms w) = (hmB ms w))) zk rfl
theorem zl10m5 {p : Prop} (h : p := by first | exact vmE_c (by assumption) | exact vmE_h (by assumption)) : p := h
theorem M_vmaps (m : List (List Int)) (c : Nat) (hc : List.length m = c) (h1 : c ≤ 1000000) (hW : MsW m) : Fun 88 [.c (.d (D.sl (msD m) c))] (toG []) 0 (.e (.c (.d (D.lit (.bool (vmB m)))))) (toG []) 0 := by
 refine Fun.mk (n := 31) Tryz.func88 rfl rfl (Nat.le_of_ble_eq_true rfl) ?_
 intro cx hcx
 refine y9r [.no] True [(0, .e (.c (.d (D.sl (msD m) c))))] [] 0 trivial ?_
 refine AW.seq ?_
 by_cases hx1 : (((c : Nat) : Int) < 1)
 ·refine y9s [.no, .no, .b true, .no, .no] (((c : Int) < 1)) [(0, .e (.c (.d (D.sl (msD m) c)))), (12, bV true)] zo ?_
  refine zt ?_
  refine y9s [.no] True [(2, bV false)] trivial ?_
  refine AW.ret ?_
  exact EndP.of (.inr rfl) [] (P := ((vmB m) = false)) zk (by first | exact vm_t zo zo (fun j hj => ha j zo) | exact vm_s zo | exact vm_f (k := i) zo zl10m5)
 ·by_cases hx2 : ((16 : Int) < ((c : Nat) : Int))
  ·refine y9s [.no, .no, .b false, .no, .no, .no, .b true, .no] ((¬ ((c : Int) < 1)) ∧ (((16 : Int) < (c : Int)))) [(0, .e (.c (.d (D.sl (msD m) c)))), (12, bV true)] ⟨zo, zo⟩ ?_
   refine zt ?_
   refine y9s [.no] True [(2, bV false)] trivial ?_
   refine AW.ret ?_
   exact EndP.of (.inr rfl) [] (P := ((vmB m) = false)) zk (by first | exact vm_t zo zo (fun j hj => ha j zo) | exact vm_s zo | exact vm_f (k := i) zo zl10m5)
  ·refine y9s [.no, .no, .b false, .no, .no, .no, .b false, .no] ((¬ ((c : Int) < 1)) ∧ (¬ ((16 : Int) < (c : Int)))) [(0, .e (.c (.d (D.sl (msD m) c)))), (12, bV false)] ⟨zo, zo⟩ ?_
   refine zfs ?_
   refine AW.seq ?_
   refine y9s [.no, .no, .no] True [(0, .e (.c (.d (D.sl (msD m) c)))), (13, .e (.c (.d (D.sl (msD m) c)))), (14, uV c), (15, iV 0)] trivial ?_
   refine AW.block ?_
   refine AW.loopE 0 hcx (fun (x : {x : Nat // match x with | i => (i ≤ c) ∧ (∀ j, j < i → vmE m j = true)}) => match x with | ⟨i, _⟩ => (⟨[(0, .e (.c (.d (D.sl (msD m) c)))), (13, .e (.c (.d (D.sl (msD m) c)))), (14, uV c), (15, uV i)], [], 0⟩ : ES)) (fun x => match x with | ⟨i, _⟩ => c - i) ⟨(0 : Nat), ⟨zl10m8, (fun j hj => absurd hj (Nat.not_lt_zero j))⟩⟩ [] (P := (q9d (msD m)) ∧ (q9n c) ∧ (q9d (msD m)) ∧ (q9n c) ∧ (q9i (c : Int)) ∧ (q9i 0)) zk ⟨rfl, rfl, rfl, rfl, rfl, rfl⟩ ?_
   rintro ⟨i, hinv0⟩
   obtain ⟨hi, ha⟩ : (i ≤ c) ∧ (∀ j, j < i → vmE m j = true) := hinv0
   refine AW.es (l := [(0, .e (.c (.d (D.sl (msD m) c)))), (13, .e (.c (.d (D.sl (msD m) c)))), (14, uV c), (15, uV i)]) (g := []) (nx := 0) rfl rfl rfl ?_
   by_cases hx3 : (((i : Nat) : Int) < ((c : Nat) : Int))
   ·refine y9r [.b true] (((i : Int) < (c : Int))) [(0, .e (.c (.d (D.sl (msD m) c)))), (13, .e (.c (.d (D.sl (msD m) c)))), (14, uV c), (15, uV i), (16, bV true)] [] 0 zo ?_
    refine AW.seq ?_
    refine zts ?_
    refine AW.seq ?_
    refine AW.block ?_
    have hx4 : ((List.length (List.getD m i ([] : List Int))) ≤ 1000000) := MsW.at (show MsW m by with_reducible assumption) _
    refine y9s [.no, .n i, .d (dl (List.getD m i ([] : List Int)) (List.length (List.getD m i ([] : List Int)))), .no, .no] ((q9i (i : Int)) ∧ (i < c) ∧ ((List.drop i (msD m))[0]? = some (dl (List.getD m i ([] : List Int)) (List.length (List.getD m i ([] : List Int)))))) [(0, .e (.c (.d (D.sl (msD m) c)))), (3, uV i), (4, sV .i64 (List.getD m i ([] : List Int)) (List.length (List.getD m i ([] : List Int)))), (13, .e (.c (.d (D.sl (msD m) c)))), (14, uV c), (15, uV i)] ⟨rfl, zo, (msD_at _ _ zl10m3)⟩ ?_
    rcases Bool.eq_false_or_eq_true (chB (List.getD m i ([] : List Int)) (List.length (List.getD m i ([] : List Int)))) with hx5 | hx5
    ·rcases Bool.eq_false_or_eq_true (hmB (List.take i m) (List.getD m i ([] : List Int))) with hx6 | hx6
     ·refine y9s (.no :: .call [] (bV true) [] 0 [] none :: nz9 4 [.sls 0 i i (msD (List.take i m)), .no, .call [] (bV true) [] 0 [] none, .no]) ((Fun 131 [.c (.d (dl (List.getD m i ([] : List Int)) (List.length (List.getD m i ([] : List Int)))))] (toG []) 0 (bV true) (toG []) 0) ∧ (q9n 0) ∧ (q9i (i : Int)) ∧ ((0 : Nat) ≤ i) ∧ (i ≤ c) ∧ (i - 0 = i) ∧ (List.take (i * 1) (List.drop (0 * 1) (msD m)) = (msD (List.take i m))) ∧ (Fun 96 [.c (.d (D.sl (msD (List.take i m)) i)), .c (.d (dl (List.getD m i ([] : List Int)) (List.length (List.getD m i ([] : List Int)))))] (toG []) 0 (bV true) (toG []) 0)) [(0, .e (.c (.d (D.sl (msD m) c)))), (13, .e (.c (.d (D.sl (msD m) c)))), (14, uV c), (15, uV i), (29, bV true)] ⟨(by have h0 := (V_Valid (List.getD m i ([] : List Int)) (List.length (List.getD m i ([] : List Int))) rfl zl10m1); rw [hx5] at h0; exact h0), rfl, rfl, zo, zo, zo, (msD_take _ _), (by have h0 := (M_has (List.take i m) i (List.getD m i ([] : List Int)) (List.length (List.getD m i ([] : List Int))) zl10m1 rfl zo zl10m1 (MsW.take (show MsW m by with_reducible assumption) _)); rw [hx6] at h0; exact h0)⟩ ?_
      refine zt ?_
      refine y9s [.no] True [(2, bV false)] trivial ?_
      refine AW.ret ?_
      exact EndP.of (.inr rfl) [] (P := ((vmB m) = false)) zk (by first | exact vm_t zo zo (fun j hj => ha j zo) | exact vm_s zo | exact vm_f (k := i) zo zl10m5)
     ·refine y9s (.no :: .call [] (bV true) [] 0 [] none :: nz9 4 [.sls 0 i i (msD (List.take i m)), .no, .call [] (bV false) [] 0 [] none, .no]) ((Fun 131 [.c (.d (dl (List.getD m i ([] : List Int)) (List.length (List.getD m i ([] : List Int)))))] (toG []) 0 (bV true) (toG []) 0) ∧ (q9n 0) ∧ (q9i (i : Int)) ∧ ((0 : Nat) ≤ i) ∧ (i ≤ c) ∧ (i - 0 = i) ∧ (List.take (i * 1) (List.drop (0 * 1) (msD m)) = (msD (List.take i m))) ∧ (Fun 96 [.c (.d (D.sl (msD (List.take i m)) i)), .c (.d (dl (List.getD m i ([] : List Int)) (List.length (List.getD m i ([] : List Int)))))] (toG []) 0 (bV false) (toG []) 0)) [(0, .e (.c (.d (D.sl (msD m) c)))), (13, .e (.c (.d (D.sl (msD m) c)))), (14, uV c), (15, uV i), (29, bV false)] ⟨(by have h0 := (V_Valid (List.getD m i ([] : List Int)) (List.length (List.getD m i ([] : List Int))) rfl zl10m1); rw [hx5] at h0; exact h0), rfl, rfl, zo, zo, zo, (msD_take _ _), (by have h0 := (M_has (List.take i m) i (List.getD m i ([] : List Int)) (List.length (List.getD m i ([] : List Int))) zl10m1 rfl zo zl10m1 (MsW.take (show MsW m by with_reducible assumption) _)); rw [hx6] at h0; exact h0)⟩ ?_
      refine zfs ?_
      refine y9h [.w, .no] ((-9223372036854775808) ≤ ((i : Int) + 1) ∧ ((i : Int) + 1) ≤ 9223372036854775807) [(0, .e (.c (.d (D.sl (msD m) c)))), (13, .e (.c (.d (D.sl (msD m) c)))), (14, uV c), (15, iV (↑i + 1))] ⟨by omega, by omega⟩ ?_
      exact Rd.of ⟨((i + 1) : Nat), ⟨zl10m8, (fun j hj => (Nat.lt_succ_iff_lt_or_eq.1 hj).elim (ha j) (fun e9 => by subst e9; exact vmE_y (by assumption) (by assumption)))⟩⟩ [] (P := (q9d (msD m)) ∧ (q9n c) ∧ (q9d (msD m)) ∧ (q9n c) ∧ (q9i (c : Int)) ∧ (((((i + 1) : Nat) : Int) : Int) = ((i : Int) + 1))) zk ⟨rfl, rfl, rfl, rfl, rfl, zl10m6⟩ (show c - (i + 1) < c - i from (by first | omega | (show _ < _; simp; omega)))
    ·refine y9s [.no, .call [] (bV false) [] 0 [] none, .no, .no, .no] (Fun 131 [.c (.d (dl (List.getD m i ([] : List Int)) (List.length (List.getD m i ([] : List Int)))))] (toG []) 0 (bV false) (toG []) 0) [(0, .e (.c (.d (D.sl (msD m) c)))), (13, .e (.c (.d (D.sl (msD m) c)))), (14, uV c), (15, uV i), (29, bV true)] (by have h0 := (V_Valid (List.getD m i ([] : List Int)) (List.length (List.getD m i ([] : List Int))) rfl zl10m1); rw [hx5] at h0; exact h0) ?_
     refine zt ?_
     refine y9s [.no] True [(2, bV false)] trivial ?_
     refine AW.ret ?_
     exact EndP.of (.inr rfl) [] (P := ((vmB m) = false)) zk (by first | exact vm_t zo zo (fun j hj => ha j zo) | exact vm_s zo | exact vm_f (k := i) zo zl10m5)
   ·refine y9r [.b false] (¬ ((i : Int) < (c : Int))) [(0, .e (.c (.d (D.sl (msD m) c)))), (13, .e (.c (.d (D.sl (msD m) c)))), (14, uV c), (15, uV i), (16, bV false)] [] 0 zo ?_
    refine AW.seq ?_
    refine zf ?_
    refine AW.exit ?_
    refine y9r [.no] True [(2, bV true)] [] 0 trivial ?_
    refine AW.ret ?_
    exact EndP.of (.inr rfl) [] (P := ((vmB m) = true)) zk (by first | exact vm_t zo zo (fun j hj => ha j zo) | exact vm_s zo | exact vm_f (k := i) zo zl10m5)
theorem zl10m2 {p : Prop} (h : p := by first | exact bx_t (by omega) (by assumption) (by assumption) (by assumption) | exact bx_k (by omega) | exact bx_m (by assumption) | exact bx_r (by assumption) | exact bx_s (by assumption)) : p := h
theorem M_vbox (k : Int) (r : List Int) (rn : Nat) (m : List (List Int)) (c : Nat) (s : List Int) (sn : Nat) (hr : List.length r = rn * 2) (hs : List.length s = sn * 2) (hc : List.length m = c) (h1 : rn ≤ 1000000) (h2 : sn ≤ 1000000) (h3 : c ≤ 1000000) (hW : MsW m) : Fun 43 [.agg [iC k, .d (D.sl (dI .i64 r) rn), .d (D.sl (msD m) c), .d (D.sl (dI .i64 s) sn)]] (toG []) 0 (.e (.c (.d (D.lit (.bool (bxB k r rn m s sn)))))) (toG []) 0 := by
 refine Fun.mk (n := 27) Tryz.func43 rfl rfl (Nat.le_of_ble_eq_true rfl) ?_
 intro cx hcx
 refine y9r [.no, .no] True [(1, rV 0 0)] [(0, some (59, .ds [iD k, dl r rn, D.sl (msD m) c, dl s sn]))] 1 trivial ?_
 by_cases hx1 : (k ≠ 0)
 ·by_cases hx2 : ((anV k) = 0)
  ·rcases Bool.eq_false_or_eq_true (wiB r rn 1000 768000) with hx3 | hx3
   ·rcases Bool.eq_false_or_eq_true (vmB m) with hx4 | hx4
    ·rcases Bool.eq_false_or_eq_true (wiB s sn 1 65536) with hx5 | hx5
     ·refine y9r (.no :: .no :: .b true :: .no :: .no :: .no :: .i (anV k) :: .b true :: nz9 4 (.call [] (bV true) [] 0 [] none :: nz9 4 (.call [] (bV true) [] 0 [] none :: nz9 4 [.call [] (bV true) [] 0 [] none, .no, .no]))) (((k ≠ 0)) ∧ (bitsI .andNot .i64 k 254 = (anV k)) ∧ (((anV k) = 0)) ∧ (Fun 87 [.agg [.d (dl r rn)], iE 1000, iE 768000] (toG []) 0 (bV true) (toG []) 0) ∧ (Fun 88 [.c (.d (D.sl (msD m) c))] (toG []) 0 (bV true) (toG []) 0) ∧ (Fun 87 [.agg [.d (dl s sn)], iE 1, iE 65536] (toG []) 0 (bV true) (toG []) 0)) [(2, bV true)] [] 1 ⟨zo, rfl, zo, (by have h0 := (Z_lies r rn 1000 768000 zo zo); rw [hx3] at h0; exact h0), (by have h0 := (M_vmaps m c zo zo (show MsW m by with_reducible assumption)); rw [hx4] at h0; exact h0), (by have h0 := (Z_lies s sn 1 65536 zo zo); rw [hx5] at h0; exact h0)⟩ ?_
      refine AW.ret ?_
      exact EndP.of (.inr rfl) [] (P := ((bxB k r rn m s sn) = true)) zk zl10m2
     ·refine y9r (.no :: .no :: .b true :: .no :: .no :: .no :: .i (anV k) :: .b true :: nz9 4 (.call [] (bV true) [] 0 [] none :: nz9 4 (.call [] (bV true) [] 0 [] none :: nz9 4 [.call [] (bV false) [] 0 [] none, .no, .no]))) (((k ≠ 0)) ∧ (bitsI .andNot .i64 k 254 = (anV k)) ∧ (((anV k) = 0)) ∧ (Fun 87 [.agg [.d (dl r rn)], iE 1000, iE 768000] (toG []) 0 (bV true) (toG []) 0) ∧ (Fun 88 [.c (.d (D.sl (msD m) c))] (toG []) 0 (bV true) (toG []) 0) ∧ (Fun 87 [.agg [.d (dl s sn)], iE 1, iE 65536] (toG []) 0 (bV false) (toG []) 0)) [(2, bV false)] [] 1 ⟨zo, rfl, zo, (by have h0 := (Z_lies r rn 1000 768000 zo zo); rw [hx3] at h0; exact h0), (by have h0 := (M_vmaps m c zo zo (show MsW m by with_reducible assumption)); rw [hx4] at h0; exact h0), (by have h0 := (Z_lies s sn 1 65536 zo zo); rw [hx5] at h0; exact h0)⟩ ?_
      refine AW.ret ?_
      exact EndP.of (.inr rfl) [] (P := ((bxB k r rn m s sn) = false)) zk zl10m2
    ·refine y9r (.no :: .no :: .b true :: .no :: .no :: .no :: .i (anV k) :: .b true :: nz9 4 (.call [] (bV true) [] 0 [] none :: nz9 4 (.call [] (bV false) [] 0 [] none :: nz9 4 []))) (((k ≠ 0)) ∧ (bitsI .andNot .i64 k 254 = (anV k)) ∧ (((anV k) = 0)) ∧ (Fun 87 [.agg [.d (dl r rn)], iE 1000, iE 768000] (toG []) 0 (bV true) (toG []) 0) ∧ (Fun 88 [.c (.d (D.sl (msD m) c))] (toG []) 0 (bV false) (toG []) 0)) [(2, bV false)] [] 1 ⟨zo, rfl, zo, (by have h0 := (Z_lies r rn 1000 768000 zo zo); rw [hx3] at h0; exact h0), (by have h0 := (M_vmaps m c zo zo (show MsW m by with_reducible assumption)); rw [hx4] at h0; exact h0)⟩ ?_
     refine AW.ret ?_
     exact EndP.of (.inr rfl) [] (P := ((bxB k r rn m s sn) = false)) zk zl10m2
   ·refine y9r (.no :: .no :: .b true :: .no :: .no :: .no :: .i (anV k) :: .b true :: nz9 4 (.call [] (bV false) [] 0 [] none :: nz9 6 [])) (((k ≠ 0)) ∧ (bitsI .andNot .i64 k 254 = (anV k)) ∧ (((anV k) = 0)) ∧ (Fun 87 [.agg [.d (dl r rn)], iE 1000, iE 768000] (toG []) 0 (bV false) (toG []) 0)) [(2, bV false)] [] 1 ⟨zo, rfl, zo, (by have h0 := (Z_lies r rn 1000 768000 zo zo); rw [hx3] at h0; exact h0)⟩ ?_
    refine AW.ret ?_
    exact EndP.of (.inr rfl) [] (P := ((bxB k r rn m s sn) = false)) zk zl10m2
  ·refine y9r (.no :: .no :: .b true :: .no :: .no :: .no :: .i (anV k) :: .b false :: nz9 8 []) (((k ≠ 0)) ∧ (bitsI .andNot .i64 k 254 = (anV k)) ∧ (¬ ((anV k) = 0))) [(2, bV false)] [] 1 ⟨zo, rfl, zo⟩ ?_
   refine AW.ret ?_
   exact EndP.of (.inr rfl) [] (P := ((bxB k r rn m s sn) = false)) zk zl10m2
 ·refine y9r (.no :: .no :: .b false :: nz9 9 []) (¬ (k ≠ 0)) [(2, bV false)] [] 1 zo ?_
  refine AW.ret ?_
  exact EndP.of (.inr rfl) [] (P := ((bxB k r rn m s sn) = false)) zk zl10m2
theorem M_valid1 (k : Int) (r : List Int) (rn : Nat) (m : List (List Int)) (c : Nat) (s : List Int) (sn : Nat) (hr : List.length r = rn * 2) (hs : List.length s = sn * 2) (hc : List.length m = c) (h1 : rn ≤ 1000000) (h2 : sn ≤ 1000000) (h3 : c ≤ 1000000) (hW : MsW m) : Fun 46 [.agg [iC k, .d (D.sl (dI .i64 r) rn), .d (D.sl (msD m) c), .d (D.sl (dI .i64 s) sn)]] (toG []) 0 (.e (.c (.d (D.lit (.bool (nxB k r rn m s sn)))))) (toG []) 0 := by
 refine Fun.mk (n := 6) Tryz.func46 rfl rfl (Nat.le_of_ble_eq_true rfl) ?_
 intro cx hcx
 refine y9r [.no, .no] True [(1, rV 0 0)] [(0, some (59, .ds [iD k, dl r rn, D.sl (msD m) c, dl s sn]))] 1 trivial ?_
 rcases Bool.eq_false_or_eq_true (bxB k r rn m s sn) with hx1 | hx1
 ·refine y9r [.no, .call [] (bV true) [] 0 [] none, .no, .no] (Fun 43 [.agg [iC k, .d (dl r rn), .d (D.sl (msD m) c), .d (dl s sn)]] (toG []) 0 (bV true) (toG []) 0) [(2, bV false)] [] 1 (by have h0 := (M_vbox k r rn m c s sn zo zo zo zo zo zo (show MsW m by with_reducible assumption)); rw [hx1] at h0; exact h0) ?_
  refine AW.ret ?_
  exact EndP.of (.inr rfl) [] (P := ((nxB k r rn m s sn) = false)) zk (by first | exact nx_t (by assumption) | exact nx_f (by assumption))
 ·refine y9r [.no, .call [] (bV false) [] 0 [] none, .no, .no] (Fun 43 [.agg [iC k, .d (dl r rn), .d (D.sl (msD m) c), .d (dl s sn)]] (toG []) 0 (bV false) (toG []) 0) [(2, bV true)] [] 1 (by have h0 := (M_vbox k r rn m c s sn zo zo zo zo zo zo (show MsW m by with_reducible assumption)); rw [hx1] at h0; exact h0) ?_
  refine AW.ret ?_
  exact EndP.of (.inr rfl) [] (P := ((nxB k r rn m s sn) = true)) zk (by first | exact nx_t (by assumption) | exact nx_f (by assumption))
theorem M_ixv (bs : List Bx) (n : Nat) (hn : List.length bs = n) (h1 : n ≤ 1000000) (hW : BsW bs) : Fun 90 [.c (.d (D.sl (bxD bs) n)), .c (.fn 46 [])] (toG []) 0 (iV (vbK bs n)) (toG []) 0 := by
 refine Fun.mk (n := 19) Tryz.func90 rfl rfl (Nat.le_of_ble_eq_true rfl) ?_
 intro cx hcx
 refine y9r [.no] True [(0, .e (.c (.d (D.sl (bxD bs) n)))), (1, .e (.c (.fn 46 [])))] [] 0 trivial ?_
 refine AW.seq ?_
 refine y9s [.no, .no, .no] True [(0, .e (.c (.d (D.sl (bxD bs) n)))), (1, .e (.c (.fn 46 []))), (7, uV n), (8, iV 0)] trivial ?_
 refine AW.block ?_
 refine AW.loopE 0 hcx (fun (x : {x : Nat // match x with | k => (k ≤ n) ∧ (vbK bs k = -1)}) => match x with | ⟨k, _⟩ => (⟨[(0, .e (.c (.d (D.sl (bxD bs) n)))), (1, .e (.c (.fn 46 []))), (7, uV n), (8, uV k)], [], 0⟩ : ES)) (fun x => match x with | ⟨k, _⟩ => n - k) ⟨(0 : Nat), ⟨zl10m8, rfl⟩⟩ [] (P := (q9d (bxD bs)) ∧ (q9n n) ∧ (q9i (n : Int)) ∧ (q9i 0)) zk ⟨rfl, rfl, rfl, rfl⟩ ?_
 rintro ⟨k, hinv0⟩
 obtain ⟨hk, hi⟩ : (k ≤ n) ∧ (vbK bs k = -1) := hinv0
 refine AW.es (l := [(0, .e (.c (.d (D.sl (bxD bs) n)))), (1, .e (.c (.fn 46 []))), (7, uV n), (8, uV k)]) (g := []) (nx := 0) rfl rfl rfl ?_
 by_cases hx1 : (((k : Nat) : Int) < ((n : Nat) : Int))
 ·refine y9r [.b true] (((k : Int) < (n : Int))) [(0, .e (.c (.d (D.sl (bxD bs) n)))), (1, .e (.c (.fn 46 []))), (7, uV n), (8, uV k), (9, bV true)] [] 0 zo ?_
  refine AW.seq ?_
  refine zts ?_
  refine AW.seq ?_
  refine AW.block ?_
  refine y9s [.no, .no] True [(0, .e (.c (.d (D.sl (bxD bs) n)))), (1, .e (.c (.fn 46 []))), (5, uV k), (7, uV n), (8, uV k)] trivial ?_
  rcases Bool.eq_false_or_eq_true (nxB (qbK bs k) (qbR bs k) (qbN bs k) (qbM bs k) (qbS bs k) (qbT bs k)) with hx7 | hx7
  ·obtain ⟨hx8, hx9, hx10, hx11, hx12⟩ := BsW.at (show BsW bs by with_reducible assumption) (k)
   refine y9r [.no, .no, .no, .n k, .ds [iD (qbK bs k), dl (qbR bs k) (qbN bs k), D.sl (msD (qbM bs k)) (List.length (qbM bs k)), dl (qbS bs k) (qbT bs k)], .call [] (bV true) [] 0 [] none] ((q9i (k : Int)) ∧ (k < n) ∧ (List.take 4 (List.drop (k * 4) (bxD bs)) = [iD (qbK bs k), dl (qbR bs k) (qbN bs k), D.sl (msD (qbM bs k)) (List.length (qbM bs k)), dl (qbS bs k) (qbT bs k)]) ∧ (([iD (qbK bs k), dl (qbR bs k) (qbN bs k), D.sl (msD (qbM bs k)) (List.length (qbM bs k)), dl (qbS bs k) (qbT bs k)] : List D).length = 4) ∧ (Fun 46 [.agg [iC (qbK bs k), .d (dl (qbR bs k) (qbN bs k)), .d (D.sl (msD (qbM bs k)) (List.length (qbM bs k))), .d (dl (qbS bs k) (qbT bs k))]] (toG []) 0 (bV true) (toG []) 0)) [(0, .e (.c (.d (D.sl (bxD bs) n)))), (1, .e (.c (.fn 46 []))), (5, uV k), (7, uV n), (8, uV k), (16, bV true)] [] 0 ⟨rfl, zo, (bx_at zl10m3), rfl, (by have h0 := (M_valid1 (qbK bs k) (qbR bs k) (qbN bs k) (qbM bs k) (List.length (qbM bs k)) (qbS bs k) (qbT bs k) zl10m1 zl10m1 rfl zl10m1 zl10m1 zl10m1 (BsW.ms (show BsW bs by with_reducible assumption) _)); rw [hx7] at h0; exact h0)⟩ ?_
   refine zt ?_
   refine y9s [.no, .no] True [(4, uV k)] trivial ?_
   refine AW.ret ?_
   exact EndP.of (.inr rfl) [] (P := (((vbK bs n) : Int) = (k : Int))) zk (by first | rfl | exact vbK_h hi (by assumption) zo | (rw [show n = k by omega]; exact hi) | omega)
  ·obtain ⟨hx13, hx14, hx15, hx16, hx17⟩ := BsW.at (show BsW bs by with_reducible assumption) (k)
   refine y9r [.no, .no, .no, .n k, .ds [iD (qbK bs k), dl (qbR bs k) (qbN bs k), D.sl (msD (qbM bs k)) (List.length (qbM bs k)), dl (qbS bs k) (qbT bs k)], .call [] (bV false) [] 0 [] none] ((q9i (k : Int)) ∧ (k < n) ∧ (List.take 4 (List.drop (k * 4) (bxD bs)) = [iD (qbK bs k), dl (qbR bs k) (qbN bs k), D.sl (msD (qbM bs k)) (List.length (qbM bs k)), dl (qbS bs k) (qbT bs k)]) ∧ (([iD (qbK bs k), dl (qbR bs k) (qbN bs k), D.sl (msD (qbM bs k)) (List.length (qbM bs k)), dl (qbS bs k) (qbT bs k)] : List D).length = 4) ∧ (Fun 46 [.agg [iC (qbK bs k), .d (dl (qbR bs k) (qbN bs k)), .d (D.sl (msD (qbM bs k)) (List.length (qbM bs k))), .d (dl (qbS bs k) (qbT bs k))]] (toG []) 0 (bV false) (toG []) 0)) [(0, .e (.c (.d (D.sl (bxD bs) n)))), (1, .e (.c (.fn 46 []))), (5, uV k), (7, uV n), (8, uV k), (16, bV false)] [] 0 ⟨rfl, zo, (bx_at zl10m3), rfl, (by have h0 := (M_valid1 (qbK bs k) (qbR bs k) (qbN bs k) (qbM bs k) (List.length (qbM bs k)) (qbS bs k) (qbT bs k) zl10m1 zl10m1 rfl zl10m1 zl10m1 zl10m1 (BsW.ms (show BsW bs by with_reducible assumption) _)); rw [hx7] at h0; exact h0)⟩ ?_
   refine zfs ?_
   refine y9h [.w, .no] ((-9223372036854775808) ≤ ((k : Int) + 1) ∧ ((k : Int) + 1) ≤ 9223372036854775807) [(0, .e (.c (.d (D.sl (bxD bs) n)))), (1, .e (.c (.fn 46 []))), (7, uV n), (8, iV (↑k + 1))] ⟨by omega, by omega⟩ ?_
   exact Rd.of ⟨((k + 1) : Nat), ⟨zl10m8, (vbK_m hi (by assumption))⟩⟩ [] (P := (q9d (bxD bs)) ∧ (q9n n) ∧ (q9i (n : Int)) ∧ (((((k + 1) : Nat) : Int) : Int) = ((k : Int) + 1))) zk ⟨rfl, rfl, rfl, zl10m6⟩ (show n - (k + 1) < n - k from (by first | omega | (show _ < _; simp; omega)))
 ·refine y9r [.b false] (¬ ((k : Int) < (n : Int))) [(0, .e (.c (.d (D.sl (bxD bs) n)))), (1, .e (.c (.fn 46 []))), (7, uV n), (8, uV k), (9, bV false)] [] 0 zo ?_
  refine AW.seq ?_
  refine zf ?_
  refine AW.exit ?_
  refine y9r [.no] True [(4, iV (-1))] [] 0 trivial ?_
  refine AW.ret ?_
  exact EndP.of (.inr rfl) [] (P := (((vbK bs n) : Int) = (-1))) zk (by first | rfl | exact vbK_h hi (by assumption) zo | (rw [show n = k by omega]; exact hi) | omega)
theorem M_cfv (bs : List Bx) (n : Nat) (hn : List.length bs = n) (h1 : n ≤ 1000000) (hW : BsW bs) : Fun 45 [.c (.d (D.sl (bxD bs) n)), .c (.fn 46 [])] (toG []) 0 (.e (.c (.d (D.lit (.bool (naB bs n)))))) (toG []) 0 := by
 refine Fun.mk (n := 9) Tryz.func45 rfl rfl (Nat.le_of_ble_eq_true rfl) ?_
 intro cx hcx
 refine y9r [.no] True [(0, .e (.c (.d (D.sl (bxD bs) n)))), (1, .e (.c (.fn 46 [])))] [] 0 trivial ?_
 by_cases hx1 : ((0 : Int) ≤ (vbK bs n))
 ·refine y9s [.no, .no, .call [] (iV (vbK bs n)) [] 0 [] none, .b true, .no] ((_) ∧ (((0 : Int) ≤ (vbK bs n)))) [(4, bV true)] ⟨(M_ixv bs n zo zo (show BsW bs by with_reducible assumption)), zo⟩ ?_
  refine AW.ret ?_
  exact EndP.of (.inr rfl) [] (P := ((naB bs n) = true)) zk (by first | exact decide_eq_true zo | exact decide_eq_false zo)
 ·refine y9s [.no, .no, .call [] (iV (vbK bs n)) [] 0 [] none, .b false, .no] ((_) ∧ (¬ ((0 : Int) ≤ (vbK bs n)))) [(4, bV false)] ⟨(M_ixv bs n zo zo (show BsW bs by with_reducible assumption)), zo⟩ ?_
  refine AW.ret ?_
  exact EndP.of (.inr rfl) [] (P := ((naB bs n) = false)) zk (by first | exact decide_eq_true zo | exact decide_eq_false zo)
theorem M_Valid (bs : List Bx) (n : Nat) (hn : List.length bs = n) (h1 : n ≤ 1000000) (hW : BsW bs) : Fun 18 [.c (.d (D.sl (bxD bs) n))] (toG []) 0 (.e (.c (.d (D.lit (.bool (vbB bs)))))) (toG []) 0 := by
 refine Fun.mk (n := 11) Tryz.func18 rfl rfl (Nat.le_of_ble_eq_true rfl) ?_
 intro cx hcx
 refine y9r [.no] True [(0, .e (.c (.d (D.sl (bxD bs) n))))] [] 0 trivial ?_
 by_cases hx1 : (((n : Nat) : Int) ≤ 64)
 ·rcases Bool.eq_false_or_eq_true (naB bs n) with hx2 | hx2
  ·refine y9s [.no, .no, .b true, .no, .no, .call [] (bV true) [] 0 [] none, .no, .no, .no] ((((n : Int) ≤ 64)) ∧ (Fun 45 [.c (.d (D.sl (bxD bs) n)), .c (.fn 46 [])] (toG []) 0 (bV true) (toG []) 0)) [(2, bV false)] ⟨zo, (by have h0 := (M_cfv bs n zo zo (show BsW bs by with_reducible assumption)); rw [hx2] at h0; exact h0)⟩ ?_
   refine AW.ret ?_
   exact EndP.of (.inr rfl) [] (P := ((vbB bs) = false)) zk (by first | exact vb_s zo | exact na_v hn (by assumption) | exact na_w hn zo (by assumption))
  ·refine y9s [.no, .no, .b true, .no, .no, .call [] (bV false) [] 0 [] none, .no, .no, .no] ((((n : Int) ≤ 64)) ∧ (Fun 45 [.c (.d (D.sl (bxD bs) n)), .c (.fn 46 [])] (toG []) 0 (bV false) (toG []) 0)) [(2, bV true)] ⟨zo, (by have h0 := (M_cfv bs n zo zo (show BsW bs by with_reducible assumption)); rw [hx2] at h0; exact h0)⟩ ?_
   refine AW.ret ?_
   exact EndP.of (.inr rfl) [] (P := ((vbB bs) = true)) zk (by first | exact vb_s zo | exact na_v hn (by assumption) | exact na_w hn zo (by assumption))
 ·refine y9s [.no, .no, .b false, .no, .no, .no] (¬ ((n : Int) ≤ 64)) [(2, bV false)] zo ?_
  refine AW.ret ?_
  exact EndP.of (.inr rfl) [] (P := ((vbB bs) = false)) zk (by first | exact vb_s zo | exact na_v hn (by assumption) | exact na_w hn zo (by assumption))
theorem M_boxes (bs : List Bx) (n : Nat) (hn : List.length bs = n) (h1 : n ≤ 1000000) (hW : BsW bs) : Fun 49 [.c (.d (D.sl (bxD bs) n))] (toG []) 0 (.e (.c (.d (D.sl (bxD (bxL bs)) (List.length (bxL bs)))))) (toG []) 0 := by
 refine Fun.mk (n := 7) Tryz.func49 rfl rfl (Nat.le_of_ble_eq_true rfl) ?_
 intro cx hcx
 refine y9r [.no] True [(0, .e (.c (.d (D.sl (bxD bs) n))))] [] 0 trivial ?_
 refine AW.seq ?_
 rcases Bool.eq_false_or_eq_true (vbB bs) with hx1 | hx1
 ·refine y9s [.no, .call [] (bV true) [] 0 [] none, .no] (Fun 18 [.c (.d (D.sl (bxD bs) n))] (toG []) 0 (bV true) (toG []) 0) [(0, .e (.c (.d (D.sl (bxD bs) n)))), (5, bV false)] (by have h0 := (M_Valid bs n zo zo (show BsW bs by with_reducible assumption)); rw [hx1] at h0; exact h0) ?_
  refine zfs ?_
  refine y9s [.no, .no] True [(2, .e (.c (.d (D.sl (bxD bs) n))))] trivial ?_
  have hz1 : bxL bs = bs := bxL_y hx1
  have hz2 : List.length (bxL bs) = n := by rw [hz1]; first | rfl | omega
  refine AW.ret ?_
  exact EndP.of (.inr rfl) [] (P := (((bxD (bxL bs)) : List D) = (bxD bs)) ∧ (((List.length (bxL bs)) : Nat) = n)) zk ⟨(by first | (rw [hz1]; done) | (rw [hz1]; rfl)), (by first | omega | rfl | assumption | (simp; done) | (simp; omega))⟩
 ·refine y9s [.no, .call [] (bV false) [] 0 [] none, .no] (Fun 18 [.c (.d (D.sl (bxD bs) n))] (toG []) 0 (bV false) (toG []) 0) [(0, .e (.c (.d (D.sl (bxD bs) n)))), (5, bV true)] (by have h0 := (M_Valid bs n zo zo (show BsW bs by with_reducible assumption)); rw [hx1] at h0; exact h0) ?_
  refine zt ?_
  refine y9s [.no] True [(2, nV)] trivial ?_
  have hz1 : bxL bs = [] := bxL_n hx1
  have hz2 : List.length (bxL bs) = 0 := by rw [hz1]; first | rfl | omega
  refine AW.rel (l' := [(2, .e (.c (.d (D.sl ([] : List D) 0))))]) (g' := []) (NlS.cons rfl (.e (.c .nil)) NlS.nil) NlG.nil ?_
  refine AW.ret ?_
  exact EndP.of (.inr rfl) [] (P := (((bxD (bxL bs)) : List D) = ([] : List D)) ∧ (((List.length (bxL bs)) : Nat) = 0)) zk ⟨(by first | (rw [hz1]; done) | (rw [hz1]; rfl)), (by first | omega | rfl | assumption | (simp; done) | (simp; omega))⟩
theorem zl10m4 {p : Prop} (h : p := by first | rfl | assumption | exact decide_eq_true (by omega) | exact decide_eq_false (by omega) | (simp; omega)) : p := h
theorem M_isK (q : Int)  : Fun 54 [iE q] (toG []) 0 (.e (.c (.d (D.lit (.bool (decide (1 ≤ q ∧ q ≤ 7))))))) (toG []) 0 := by
 refine Fun.mk (n := 9) Tryz.func54 rfl rfl (Nat.le_of_ble_eq_true rfl) ?_
 intro cx hcx
 refine y9r [.no] True [(0, iV q)] [] 0 trivial ?_
 by_cases hx1 : ((1 : Int) ≤ q)
 ·by_cases hx2 : (q ≤ 7)
  ·refine y9s [.no, .b true, .no, .no, .b true, .no, .no] ((((1 : Int) ≤ q)) ∧ ((q ≤ 7))) [(2, bV true)] ⟨zo, zo⟩ ?_
   refine AW.ret ?_
   exact EndP.of (.inr rfl) [] (P := ((decide (1 ≤ q ∧ q ≤ 7)) = true)) zk zl10m4
  ·refine y9s [.no, .b true, .no, .no, .b false, .no, .no] ((((1 : Int) ≤ q)) ∧ (¬ (q ≤ 7))) [(2, bV false)] ⟨zo, zo⟩ ?_
   refine AW.ret ?_
   exact EndP.of (.inr rfl) [] (P := ((decide (1 ≤ q ∧ q ≤ 7)) = false)) zk zl10m4
 ·refine y9s [.no, .b false, .no, .no, .no] (¬ ((1 : Int) ≤ q)) [(2, bV false)] zo ?_
  refine AW.ret ?_
  exact EndP.of (.inr rfl) [] (P := ((decide (1 ≤ q ∧ q ≤ 7)) = false)) zk zl10m4
theorem zl10m0 {p : Prop} (h : p := by first | exact bi_t (by first | assumption | exact kj_y (by omega) (by omega)) (by assumption) (by assumption) (by assumption) | exact bi_r (by assumption) | exact bi_m (by assumption) | exact bi_s (by assumption) | exact bi_k (kj_n (by omega)) | exact bi_k (kj_o (by omega))) : p := h
theorem M_bh1 (k : Int) (r : List Int) (rn : Nat) (m : List (List Int)) (c : Nat) (s : List Int) (sn : Nat) (q : Nat) (cr : Int) (cm : List Int) (cn : Nat) (cz : Int) (hr : List.length r = rn * 2) (hs : List.length s = sn * 2) (hc : List.length m = c) (h1 : rn ≤ 1000000) (h2 : sn ≤ 1000000) (h3 : c ≤ 1000000) (hW : MsW m) (hm : List.length cm = cn) (h4 : cn ≤ 1000000) (hq : q ≤ 64) : Fun 51 [.agg [iC k, .d (D.sl (dI .i64 r) rn), .d (D.sl (msD m) c), .d (D.sl (dI .i64 s) sn)], .agg [iC ((q : Nat) : Int), iC cr, .d (D.sl (dI .i64 cm) cn), iC cz]] (toG []) 0 (.e (.c (.d (D.lit (.bool (biB k r rn m s sn (q : Int) cr cm cz)))))) (toG []) 0 := by
 refine Fun.mk (n := 42) Tryz.func51 rfl rfl (Nat.le_of_ble_eq_true rfl) ?_
 intro cx hcx
 refine y9r [.no, .no, .no] True [(2, rV 0 0), (3, rV 1 0)] [(0, some (59, .ds [iD k, dl r rn, D.sl (msD m) c, dl s sn])), (1, some (27, .ds [uD q, iD cr, dl cm cn, iD cz]))] 2 trivial ?_
 rcases Bool.eq_false_or_eq_true (decide (1 ≤ ((q : Nat) : Int) ∧ ((q : Nat) : Int) ≤ 7)) with hx1 | hx1
 ·have hx2 : (((1 : Int) ≤ ((q : Nat) : Int)) ∧ (((q : Nat) : Int) ≤ 7)) := of_decide_eq_true hx1
  by_cases hx3 : ((odV (k / (((2 ^ q) : Nat) : Int))) = 1)
  ·rcases Bool.eq_false_or_eq_true (hsB (spS r rn) cr) with hx4 | hx4
   ·rcases Bool.eq_false_or_eq_true (hmB m cm) with hx5 | hx5
    ·rcases Bool.eq_false_or_eq_true (hsB (spS s sn) cz) with hx6 | hx6
     ·refine y9r (.no :: .no :: .no :: .call [] (bV true) [] 0 [] none :: nz9 6 (.n q :: .i (odV (k / (((2 ^ q) : Nat) : Int))) :: .b true :: nz9 7 (.call [] (bV true) [] 0 [] none :: nz9 7 (.call [] (bV true) [] 0 [] none :: nz9 6 [.call [] (bV true) [] 0 [] none, .no, .no])))) ((Fun 54 [uE q] (toG []) 0 (bV true) (toG []) 0) ∧ (q9i (q : Int)) ∧ (q ≤ 64) ∧ (bitsI .and .i64 (k / (((2 ^ q) : Nat) : Int)) 1 = (odV (k / (((2 ^ q) : Nat) : Int)))) ∧ (((odV (k / (((2 ^ q) : Nat) : Int))) = 1)) ∧ (Fun 95 [.agg [.d (dl r rn)], iE cr] (toG []) 0 (bV true) (toG []) 0) ∧ (Fun 96 [.c (.d (D.sl (msD m) c)), .c (.d (dl cm cn))] (toG []) 0 (bV true) (toG []) 0) ∧ (Fun 95 [.agg [.d (dl s sn)], iE cz] (toG []) 0 (bV true) (toG []) 0)) [(4, bV true)] [] 2 ⟨(by have h0 := (M_isK (q : Int)); rw [hx1] at h0; exact h0), rfl, zo, rfl, zo, (by have h0 := (U_Has r rn cr zo zo); rw [hx4] at h0; exact h0), (by have h0 := (M_has m c cm cn zo zo zo zo (show MsW m by with_reducible assumption)); rw [hx5] at h0; exact h0), (by have h0 := (U_Has s sn cz zo zo); rw [hx6] at h0; exact h0)⟩ ?_
      refine AW.ret ?_
      exact EndP.of (.inr rfl) [] (P := ((biB k r rn m s sn (q : Int) cr cm cz) = true)) zk zl10m0
     ·refine y9r (.no :: .no :: .no :: .call [] (bV true) [] 0 [] none :: nz9 6 (.n q :: .i (odV (k / (((2 ^ q) : Nat) : Int))) :: .b true :: nz9 7 (.call [] (bV true) [] 0 [] none :: nz9 7 (.call [] (bV true) [] 0 [] none :: nz9 6 [.call [] (bV false) [] 0 [] none, .no, .no])))) ((Fun 54 [uE q] (toG []) 0 (bV true) (toG []) 0) ∧ (q9i (q : Int)) ∧ (q ≤ 64) ∧ (bitsI .and .i64 (k / (((2 ^ q) : Nat) : Int)) 1 = (odV (k / (((2 ^ q) : Nat) : Int)))) ∧ (((odV (k / (((2 ^ q) : Nat) : Int))) = 1)) ∧ (Fun 95 [.agg [.d (dl r rn)], iE cr] (toG []) 0 (bV true) (toG []) 0) ∧ (Fun 96 [.c (.d (D.sl (msD m) c)), .c (.d (dl cm cn))] (toG []) 0 (bV true) (toG []) 0) ∧ (Fun 95 [.agg [.d (dl s sn)], iE cz] (toG []) 0 (bV false) (toG []) 0)) [(4, bV false)] [] 2 ⟨(by have h0 := (M_isK (q : Int)); rw [hx1] at h0; exact h0), rfl, zo, rfl, zo, (by have h0 := (U_Has r rn cr zo zo); rw [hx4] at h0; exact h0), (by have h0 := (M_has m c cm cn zo zo zo zo (show MsW m by with_reducible assumption)); rw [hx5] at h0; exact h0), (by have h0 := (U_Has s sn cz zo zo); rw [hx6] at h0; exact h0)⟩ ?_
      refine AW.ret ?_
      exact EndP.of (.inr rfl) [] (P := ((biB k r rn m s sn (q : Int) cr cm cz) = false)) zk zl10m0
    ·refine y9r (.no :: .no :: .no :: .call [] (bV true) [] 0 [] none :: nz9 6 (.n q :: .i (odV (k / (((2 ^ q) : Nat) : Int))) :: .b true :: nz9 7 (.call [] (bV true) [] 0 [] none :: nz9 7 (.call [] (bV false) [] 0 [] none :: nz9 4 [])))) ((Fun 54 [uE q] (toG []) 0 (bV true) (toG []) 0) ∧ (q9i (q : Int)) ∧ (q ≤ 64) ∧ (bitsI .and .i64 (k / (((2 ^ q) : Nat) : Int)) 1 = (odV (k / (((2 ^ q) : Nat) : Int)))) ∧ (((odV (k / (((2 ^ q) : Nat) : Int))) = 1)) ∧ (Fun 95 [.agg [.d (dl r rn)], iE cr] (toG []) 0 (bV true) (toG []) 0) ∧ (Fun 96 [.c (.d (D.sl (msD m) c)), .c (.d (dl cm cn))] (toG []) 0 (bV false) (toG []) 0)) [(4, bV false)] [] 2 ⟨(by have h0 := (M_isK (q : Int)); rw [hx1] at h0; exact h0), rfl, zo, rfl, zo, (by have h0 := (U_Has r rn cr zo zo); rw [hx4] at h0; exact h0), (by have h0 := (M_has m c cm cn zo zo zo zo (show MsW m by with_reducible assumption)); rw [hx5] at h0; exact h0)⟩ ?_
     refine AW.ret ?_
     exact EndP.of (.inr rfl) [] (P := ((biB k r rn m s sn (q : Int) cr cm cz) = false)) zk zl10m0
   ·refine y9r (.no :: .no :: .no :: .call [] (bV true) [] 0 [] none :: nz9 6 (.n q :: .i (odV (k / (((2 ^ q) : Nat) : Int))) :: .b true :: nz9 7 (.call [] (bV false) [] 0 [] none :: nz9 6 []))) ((Fun 54 [uE q] (toG []) 0 (bV true) (toG []) 0) ∧ (q9i (q : Int)) ∧ (q ≤ 64) ∧ (bitsI .and .i64 (k / (((2 ^ q) : Nat) : Int)) 1 = (odV (k / (((2 ^ q) : Nat) : Int)))) ∧ (((odV (k / (((2 ^ q) : Nat) : Int))) = 1)) ∧ (Fun 95 [.agg [.d (dl r rn)], iE cr] (toG []) 0 (bV false) (toG []) 0)) [(4, bV false)] [] 2 ⟨(by have h0 := (M_isK (q : Int)); rw [hx1] at h0; exact h0), rfl, zo, rfl, zo, (by have h0 := (U_Has r rn cr zo zo); rw [hx4] at h0; exact h0)⟩ ?_
    refine AW.ret ?_
    exact EndP.of (.inr rfl) [] (P := ((biB k r rn m s sn (q : Int) cr cm cz) = false)) zk zl10m0
  ·refine y9r (.no :: .no :: .no :: .call [] (bV true) [] 0 [] none :: nz9 6 (.n q :: .i (odV (k / (((2 ^ q) : Nat) : Int))) :: .b false :: nz9 8 [])) ((Fun 54 [uE q] (toG []) 0 (bV true) (toG []) 0) ∧ (q9i (q : Int)) ∧ (q ≤ 64) ∧ (bitsI .and .i64 (k / (((2 ^ q) : Nat) : Int)) 1 = (odV (k / (((2 ^ q) : Nat) : Int)))) ∧ (¬ ((odV (k / (((2 ^ q) : Nat) : Int))) = 1))) [(4, bV false)] [] 2 ⟨(by have h0 := (M_isK (q : Int)); rw [hx1] at h0; exact h0), rfl, zo, rfl, zo⟩ ?_
   refine AW.ret ?_
   exact EndP.of (.inr rfl) [] (P := ((biB k r rn m s sn (q : Int) cr cm cz) = false)) zk zl10m0
 ·have hx7 : ¬ (((1 : Int) ≤ ((q : Nat) : Int)) ∧ (((q : Nat) : Int) ≤ 7)) := of_decide_eq_false hx1
  refine y9r (.no :: .no :: .no :: .call [] (bV false) [] 0 [] none :: nz9 9 []) (Fun 54 [uE q] (toG []) 0 (bV false) (toG []) 0) [(4, bV false)] [] 2 (by have h0 := (M_isK (q : Int)); rw [hx1] at h0; exact h0) ?_
  refine AW.ret ?_
  exact EndP.of (.inr rfl) [] (P := ((biB k r rn m s sn (q : Int) cr cm cz) = false)) zk zl10m0
theorem M_bh2 (k : Int) (r : List Int) (rn : Nat) (m : List (List Int)) (c : Nat) (s : List Int) (sn : Nat) (ck cr : Int) (cm : List Int) (cn : Nat) (cz : Int) (hr : List.length r = rn * 2) (hs : List.length s = sn * 2) (hc : List.length m = c) (h1 : rn ≤ 1000000) (h2 : sn ≤ 1000000) (h3 : c ≤ 1000000) (hW : MsW m) (hm : List.length cm = cn) (h4 : cn ≤ 1000000) (hq : ¬ (1 ≤ ck ∧ ck ≤ 7)) : Fun 51 [.agg [iC k, .d (D.sl (dI .i64 r) rn), .d (D.sl (msD m) c), .d (D.sl (dI .i64 s) sn)], .agg [iC ck, iC cr, .d (D.sl (dI .i64 cm) cn), iC cz]] (toG []) 0 (.e (.c (.d (D.lit (.bool (biB k r rn m s sn ck cr cm cz)))))) (toG []) 0 := by
 refine Fun.mk (n := 42) Tryz.func51 rfl rfl (Nat.le_of_ble_eq_true rfl) ?_
 intro cx hcx
 refine y9r [.no, .no, .no] True [(2, rV 0 0), (3, rV 1 0)] [(0, some (59, .ds [iD k, dl r rn, D.sl (msD m) c, dl s sn])), (1, some (27, .ds [iD ck, iD cr, dl cm cn, iD cz]))] 2 trivial ?_
 refine y9r (.no :: .no :: .no :: .call [] (bV false) [] 0 [] none :: nz9 9 []) _ [(4, bV false)] [] 2 (Fun.y (M_isK ck) (y' := bV false) (congrArg (fun b => LV (.bool b)) (decide_eq_false zo))) ?_
 refine AW.ret ?_
 exact EndP.of (.inr rfl) [] (P := ((biB k r rn m s sn ck cr cm cz) = false)) zk zl10m0
theorem M_bh (k : Int) (r : List Int) (rn : Nat) (m : List (List Int)) (c : Nat) (s : List Int) (sn : Nat) (ck cr : Int) (cm : List Int) (cn : Nat) (cz : Int) (hr : List.length r = rn * 2) (hs : List.length s = sn * 2) (hc : List.length m = c) (h1 : rn ≤ 1000000) (h2 : sn ≤ 1000000) (h3 : c ≤ 1000000) (hW : MsW m) (hm : List.length cm = cn) (h4 : cn ≤ 1000000) : Fun 51 [.agg [iC k, .d (D.sl (dI .i64 r) rn), .d (D.sl (msD m) c), .d (D.sl (dI .i64 s) sn)], .agg [iC ck, iC cr, .d (D.sl (dI .i64 cm) cn), iC cz]] (toG []) 0 (.e (.c (.d (D.lit (.bool (biB k r rn m s sn ck cr cm cz)))))) (toG []) 0 := by
 by_cases h9 : 1 ≤ ck ∧ ck ≤ 7
 ·obtain ⟨q, rfl⟩ : ∃ q : Nat, ck = (q : Int) := ⟨Int.toNat ck, by omega⟩
  exact M_bh1 k r rn m c s sn q cr cm cn cz hr hs hc h1 h2 h3 hW hm h4 (by omega)
 ·exact M_bh2 k r rn m c s sn ck cr cm cn cz hr hs hc h1 h2 h3 hW hm h4 h9
theorem M_has1b (k : Int) (r : List Int) (rn : Nat) (m : List (List Int)) (c : Nat) (s : List Int) (sn : Nat) (ck cr : Int) (cm : List Int) (cn : Nat) (cz : Int) (hr : List.length r = rn * 2) (hs : List.length s = sn * 2) (hc : List.length m = c) (h1 : rn ≤ 1000000) (h2 : sn ≤ 1000000) (h3 : c ≤ 1000000) (hW : MsW m) (hm : List.length cm = cn) (h4 : cn ≤ 1000000) : Fun 50 [.agg [iC k, .d (D.sl (dI .i64 r) rn), .d (D.sl (msD m) c), .d (D.sl (dI .i64 s) sn)], .c (.ptr 0 0)] (toG [(0, some (27, .ds [iD ck, iD cr, D.sl (dI .i64 cm) cn, iD cz]))]) 1 (.e (.c (.d (D.lit (.bool (biB k r rn m s sn ck cr cm cz)))))) (toG [(0, some (27, .ds [iD ck, iD cr, D.sl (dI .i64 cm) cn, iD cz]))]) 1 := by
 refine Fun.mk (n := 7) Tryz.func50 rfl rfl (Nat.le_of_ble_eq_true rfl) ?_
 intro cx hcx
 refine y9r [.no, .no] True [(1, rV 0 0), (2, rV 1 0)] [(0, some (27, .ds [iD ck, iD cr, dl cm cn, iD cz])), (1, some (59, .ds [iD k, dl r rn, D.sl (msD m) c, dl s sn]))] 2 trivial ?_
 refine y9r [.no, .no, .call [] (.e (.c (.d (D.lit (.bool (biB k r rn m s sn ck cr cm cz)))))) [] 0 [] none, .no] _ [(3, .e (.c (.d (D.lit (.bool (biB k r rn m s sn ck cr cm cz))))))] [(0, some (27, .ds [iD ck, iD cr, dl cm cn, iD cz]))] 2 (M_bh k r rn m c s sn ck cr cm cn cz zo zo zo zo zo zo (show MsW m by with_reducible assumption) zo zo) ?_
 refine AW.ret ?_
 exact EndP.of (.inr rfl) [] (P := ((biB k r rn m s sn ck cr cm cz) = (biB k r rn m s sn ck cr cm cz)) ∧ (q9d [iD ck, iD cr, dl cm cn, iD cz])) zk ⟨rfl, rfl⟩
abbrev t0M18_0 (ck : Int) (cr : Int) (cm : List Int) (cn : Nat) (cz : Int) : BC := .ds [iD ck, iD cr, D.sl (dI .i64 cm) cn, iD cz]
theorem M_ixh (bs : List Bx) (n : Nat) (ck cr : Int) (cm : List Int) (cn : Nat) (cz : Int) (hn : List.length bs = n) (h1 : n ≤ 1000000) (hW : BsW bs) (hm : List.length cm = cn) (h4 : cn ≤ 1000000) : Fun 90 [.c (.d (D.sl (bxD bs) n)), .c (.fn 50 [(0, 0)])] (toG [(0, some (27, .ds [iD ck, iD cr, D.sl (dI .i64 cm) cn, iD cz]))]) 1 (iV (biK bs ck cr cm cz n)) (toG [(0, some (27, .ds [iD ck, iD cr, D.sl (dI .i64 cm) cn, iD cz]))]) 1 := by
 refine Fun.mk (n := 19) Tryz.func90 rfl rfl (Nat.le_of_ble_eq_true rfl) ?_
 intro cx hcx
 refine y9r [.no] True [(0, .e (.c (.d (D.sl (bxD bs) n)))), (1, .e (.c (.fn 50 [(0, 0)])))] [(0, some (27, (t0M18_0 ck cr cm cn cz)))] 1 trivial ?_
 refine AW.seq ?_
 refine y9s [.no, .no, .no] True [(0, .e (.c (.d (D.sl (bxD bs) n)))), (1, .e (.c (.fn 50 [(0, 0)]))), (7, uV n), (8, iV 0)] trivial ?_
 refine AW.block ?_
 refine AW.loopE 1 hcx (fun (x : {x : Nat // match x with | k => (k ≤ n) ∧ (biK bs ck cr cm cz k = -1)}) => match x with | ⟨k, _⟩ => (⟨[(0, .e (.c (.d (D.sl (bxD bs) n)))), (1, .e (.c (.fn 50 [(0, 0)]))), (7, uV n), (8, uV k)], [(0, some (27, (t0M18_0 ck cr cm cn cz)))], 1⟩ : ES)) (fun x => match x with | ⟨k, _⟩ => n - k) ⟨(0 : Nat), ⟨zl10m8, rfl⟩⟩ [] (P := (q9d (bxD bs)) ∧ (q9n n) ∧ (q9i (n : Int)) ∧ (q9i 0) ∧ (q9d [iD ck, iD cr, dl cm cn, iD cz])) zk ⟨rfl, rfl, rfl, rfl, rfl⟩ ?_
 rintro ⟨k, hinv0⟩
 obtain ⟨hk, hi⟩ : (k ≤ n) ∧ (biK bs ck cr cm cz k = -1) := hinv0
 refine AW.es (l := [(0, .e (.c (.d (D.sl (bxD bs) n)))), (1, .e (.c (.fn 50 [(0, 0)]))), (7, uV n), (8, uV k)]) (g := [(0, some (27, (t0M18_0 ck cr cm cn cz)))]) (nx := 1) rfl rfl rfl ?_
 by_cases hx1 : (((k : Nat) : Int) < ((n : Nat) : Int))
 ·refine y9r [.b true] (((k : Int) < (n : Int))) [(0, .e (.c (.d (D.sl (bxD bs) n)))), (1, .e (.c (.fn 50 [(0, 0)]))), (7, uV n), (8, uV k), (9, bV true)] [(0, some (27, (t0M18_0 ck cr cm cn cz)))] 1 zo ?_
  refine AW.seq ?_
  refine zts ?_
  refine AW.seq ?_
  refine AW.block ?_
  refine y9s [.no, .no] True [(0, .e (.c (.d (D.sl (bxD bs) n)))), (1, .e (.c (.fn 50 [(0, 0)]))), (5, uV k), (7, uV n), (8, uV k)] trivial ?_
  rcases Bool.eq_false_or_eq_true (biB (qbK bs k) (qbR bs k) (qbN bs k) (qbM bs k) (qbS bs k) (qbT bs k) ck cr cm cz) with hx7 | hx7
  ·obtain ⟨hx8, hx9, hx10, hx11, hx12⟩ := BsW.at (show BsW bs by with_reducible assumption) (k)
   refine y9r [.no, .no, .no, .n k, .ds [iD (qbK bs k), dl (qbR bs k) (qbN bs k), D.sl (msD (qbM bs k)) (List.length (qbM bs k)), dl (qbS bs k) (qbT bs k)], .call [0] (bV true) [(0, some (27, (t0M18_0 ck cr cm cn cz)))] 1 [] none] ((q9i (k : Int)) ∧ (k < n) ∧ (List.take 4 (List.drop (k * 4) (bxD bs)) = [iD (qbK bs k), dl (qbR bs k) (qbN bs k), D.sl (msD (qbM bs k)) (List.length (qbM bs k)), dl (qbS bs k) (qbT bs k)]) ∧ (([iD (qbK bs k), dl (qbR bs k) (qbN bs k), D.sl (msD (qbM bs k)) (List.length (qbM bs k)), dl (qbS bs k) (qbT bs k)] : List D).length = 4) ∧ (Fun 50 [.agg [iC (qbK bs k), .d (dl (qbR bs k) (qbN bs k)), .d (D.sl (msD (qbM bs k)) (List.length (qbM bs k))), .d (dl (qbS bs k) (qbT bs k))], .c (.ptr 0 0)] (toG [(0, some (27, (t0M18_0 ck cr cm cn cz)))]) 1 (bV true) (toG [(0, some (27, (t0M18_0 ck cr cm cn cz)))]) 1)) [(0, .e (.c (.d (D.sl (bxD bs) n)))), (1, .e (.c (.fn 50 [(0, 0)]))), (5, uV k), (7, uV n), (8, uV k), (16, bV true)] [(0, some (27, (t0M18_0 ck cr cm cn cz)))] 1 ⟨rfl, zo, (bx_at zl10m3), rfl, (by have h0 := (M_has1b (qbK bs k) (qbR bs k) (qbN bs k) (qbM bs k) (List.length (qbM bs k)) (qbS bs k) (qbT bs k) ck cr cm cn cz zl10m1 zl10m1 rfl zl10m1 zl10m1 zl10m1 (BsW.ms (show BsW bs by with_reducible assumption) _) zo zo); rw [hx7] at h0; exact h0)⟩ ?_
   refine zt ?_
   refine y9s [.no, .no] True [(4, uV k)] trivial ?_
   refine AW.ret ?_
   exact EndP.of (.inr rfl) [] (P := (((biK bs ck cr cm cz n) : Int) = (k : Int)) ∧ (q9d [iD ck, iD cr, dl cm cn, iD cz])) zk ⟨(by first | rfl | exact biK_h hi (by assumption) zo | (rw [show n = k by omega]; exact hi) | omega), rfl⟩
  ·obtain ⟨hx13, hx14, hx15, hx16, hx17⟩ := BsW.at (show BsW bs by with_reducible assumption) (k)
   refine y9r [.no, .no, .no, .n k, .ds [iD (qbK bs k), dl (qbR bs k) (qbN bs k), D.sl (msD (qbM bs k)) (List.length (qbM bs k)), dl (qbS bs k) (qbT bs k)], .call [0] (bV false) [(0, some (27, (t0M18_0 ck cr cm cn cz)))] 1 [] none] ((q9i (k : Int)) ∧ (k < n) ∧ (List.take 4 (List.drop (k * 4) (bxD bs)) = [iD (qbK bs k), dl (qbR bs k) (qbN bs k), D.sl (msD (qbM bs k)) (List.length (qbM bs k)), dl (qbS bs k) (qbT bs k)]) ∧ (([iD (qbK bs k), dl (qbR bs k) (qbN bs k), D.sl (msD (qbM bs k)) (List.length (qbM bs k)), dl (qbS bs k) (qbT bs k)] : List D).length = 4) ∧ (Fun 50 [.agg [iC (qbK bs k), .d (dl (qbR bs k) (qbN bs k)), .d (D.sl (msD (qbM bs k)) (List.length (qbM bs k))), .d (dl (qbS bs k) (qbT bs k))], .c (.ptr 0 0)] (toG [(0, some (27, (t0M18_0 ck cr cm cn cz)))]) 1 (bV false) (toG [(0, some (27, (t0M18_0 ck cr cm cn cz)))]) 1)) [(0, .e (.c (.d (D.sl (bxD bs) n)))), (1, .e (.c (.fn 50 [(0, 0)]))), (5, uV k), (7, uV n), (8, uV k), (16, bV false)] [(0, some (27, (t0M18_0 ck cr cm cn cz)))] 1 ⟨rfl, zo, (bx_at zl10m3), rfl, (by have h0 := (M_has1b (qbK bs k) (qbR bs k) (qbN bs k) (qbM bs k) (List.length (qbM bs k)) (qbS bs k) (qbT bs k) ck cr cm cn cz zl10m1 zl10m1 rfl zl10m1 zl10m1 zl10m1 (BsW.ms (show BsW bs by with_reducible assumption) _) zo zo); rw [hx7] at h0; exact h0)⟩ ?_
   refine zfs ?_
   refine y9h [.w, .no] ((-9223372036854775808) ≤ ((k : Int) + 1) ∧ ((k : Int) + 1) ≤ 9223372036854775807) [(0, .e (.c (.d (D.sl (bxD bs) n)))), (1, .e (.c (.fn 50 [(0, 0)]))), (7, uV n), (8, iV (↑k + 1))] ⟨by omega, by omega⟩ ?_
   exact Rd.of ⟨((k + 1) : Nat), ⟨zl10m8, (biK_m hi (by assumption))⟩⟩ [] (P := (q9d (bxD bs)) ∧ (q9n n) ∧ (q9i (n : Int)) ∧ (((((k + 1) : Nat) : Int) : Int) = ((k : Int) + 1)) ∧ (q9d [iD ck, iD cr, dl cm cn, iD cz])) zk ⟨rfl, rfl, rfl, zl10m6, rfl⟩ (show n - (k + 1) < n - k from (by first | omega | (show _ < _; simp; omega)))
 ·refine y9r [.b false] (¬ ((k : Int) < (n : Int))) [(0, .e (.c (.d (D.sl (bxD bs) n)))), (1, .e (.c (.fn 50 [(0, 0)]))), (7, uV n), (8, uV k), (9, bV false)] [(0, some (27, (t0M18_0 ck cr cm cn cz)))] 1 zo ?_
  refine AW.seq ?_
  refine zf ?_
  refine AW.exit ?_
  refine y9r [.no] True [(4, iV (-1))] [(0, some (27, (t0M18_0 ck cr cm cn cz)))] 1 trivial ?_
  refine AW.ret ?_
  exact EndP.of (.inr rfl) [] (P := (((biK bs ck cr cm cz n) : Int) = (-1)) ∧ (q9d [iD ck, iD cr, dl cm cn, iD cz])) zk ⟨(by first | rfl | exact biK_h hi (by assumption) zo | (rw [show n = k by omega]; exact hi) | omega), rfl⟩
theorem M_cfh (bs : List Bx) (n : Nat) (ck cr : Int) (cm : List Int) (cn : Nat) (cz : Int) (hn : List.length bs = n) (h1 : n ≤ 1000000) (hW : BsW bs) (hm : List.length cm = cn) (h4 : cn ≤ 1000000) : Fun 45 [.c (.d (D.sl (bxD bs) n)), .c (.fn 50 [(0, 0)])] (toG [(0, some (27, .ds [iD ck, iD cr, D.sl (dI .i64 cm) cn, iD cz]))]) 1 (.e (.c (.d (D.lit (.bool (haB bs ck cr cm cz)))))) (toG [(0, some (27, .ds [iD ck, iD cr, D.sl (dI .i64 cm) cn, iD cz]))]) 1 := by
 refine Fun.mk (n := 9) Tryz.func45 rfl rfl (Nat.le_of_ble_eq_true rfl) ?_
 intro cx hcx
 refine y9r [.no] True [(0, .e (.c (.d (D.sl (bxD bs) n)))), (1, .e (.c (.fn 50 [(0, 0)])))] [(0, some (27, .ds [iD ck, iD cr, dl cm cn, iD cz]))] 1 trivial ?_
 by_cases hx1 : ((0 : Int) ≤ (biK bs ck cr cm cz n))
 ·refine y9s [.no, .no, .call [0] (iV (biK bs ck cr cm cz n)) [(0, some (27, .ds [iD ck, iD cr, dl cm cn, iD cz]))] 1 [] none, .b true, .no] ((_) ∧ (((0 : Int) ≤ (biK bs ck cr cm cz n)))) [(4, bV true)] ⟨(M_ixh bs n ck cr cm cn cz zo zo (show BsW bs by with_reducible assumption) zo zo), zo⟩ ?_
  refine AW.ret ?_
  exact EndP.of (.inr rfl) [] (P := ((haB bs ck cr cm cz) = true) ∧ (q9d [iD ck, iD cr, dl cm cn, iD cz])) zk ⟨(by first | exact ha_t hn zo | exact ha_f hn zo), rfl⟩
 ·refine y9s [.no, .no, .call [0] (iV (biK bs ck cr cm cz n)) [(0, some (27, .ds [iD ck, iD cr, dl cm cn, iD cz]))] 1 [] none, .b false, .no] ((_) ∧ (¬ ((0 : Int) ≤ (biK bs ck cr cm cz n)))) [(4, bV false)] ⟨(M_ixh bs n ck cr cm cn cz zo zo (show BsW bs by with_reducible assumption) zo zo), zo⟩ ?_
  refine AW.ret ?_
  exact EndP.of (.inr rfl) [] (P := ((haB bs ck cr cm cz) = false) ∧ (q9d [iD ck, iD cr, dl cm cn, iD cz])) zk ⟨(by first | exact ha_t hn zo | exact ha_f hn zo), rfl⟩
theorem M_Has (bs : List Bx) (n : Nat) (ck cr : Int) (cm : List Int) (cn : Nat) (cz : Int) (hn : List.length bs = n) (h1 : n ≤ 1000000) (hW : BsW bs) (hm : List.length cm = cn) (h4 : cn ≤ 1000000) : Fun 21 [.c (.d (D.sl (bxD bs) n)), .agg [iC ck, iC cr, .d (D.sl (dI .i64 cm) cn), iC cz]] (toG []) 0 (.e (.c (.d (D.lit (.bool (haB (bxL bs) ck cr cm cz)))))) (toG []) 0 := by
 refine Fun.mk (n := 9) Tryz.func21 rfl rfl (Nat.le_of_ble_eq_true rfl) ?_
 intro cx hcx
 refine y9r [.no, .no] True [(0, .e (.c (.d (D.sl (bxD bs) n)))), (3, rV 0 0)] [(0, some (27, .ds [iD ck, iD cr, dl cm cn, iD cz]))] 1 trivial ?_
 have hx1 : ((List.length (bxL bs)) ≤ n) := (by have h9 := bxL_le bs; omega)
 refine y9r [.no, .call [] (.e (.c (.d (D.sl (bxD (bxL bs)) (List.length (bxL bs)))))) [] 0 [] none, .no, .call [0] (.e (.c (.d (D.lit (.bool (haB (bxL bs) ck cr cm cz)))))) [(0, some (27, .ds [iD ck, iD cr, dl cm cn, iD cz]))] 1 [] none, .no] ((_) ∧ (_)) [(4, .e (.c (.d (D.lit (.bool (haB (bxL bs) ck cr cm cz))))))] [] 1 ⟨(M_boxes bs n zo zo (show BsW bs by with_reducible assumption)), (M_cfh (bxL bs) (List.length (bxL bs)) ck cr cm cn cz rfl zl10m1 (bxL_W (show BsW bs by with_reducible assumption)) zo zo)⟩ ?_
 refine AW.ret ?_
 exact EndP.of (.inr rfl) [] (P := ((haB (bxL bs) ck cr cm cz) = (haB (bxL bs) ck cr cm cz))) zk rfl
end Go.Proofs.YtcfmjpnffembpaaGreat
