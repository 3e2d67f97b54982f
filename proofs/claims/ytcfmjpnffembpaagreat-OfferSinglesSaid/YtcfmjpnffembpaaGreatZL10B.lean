/- Valid lists of boxes. No statement is proved here. -/
import Derived.Test.YtcfmjpnffembpaaGreatZL10A
import Derived.Test.YtcfmjpnffembpaaGreatZL09C
namespace Go.Proofs.YtcfmjpnffembpaaGreat
open Go.ChangeShapes Go.WideShapes Go.ChangeAt Go.RowKit
set_option linter.unusedVariables false
set_option linter.unusedSimpArgs false
/-! chapter 10: maps and boxes as data -/
set_option maxHeartbeats 4000000
set_option maxRecDepth 100000
def msD (xs : List (List Int)) : List D := xs.map fun l => D.sl (dI .i64 l) l.length
theorem msD_len (xs : List (List Int)) : List.length (msD xs) = List.length xs := by unfold msD; simp
theorem msD_cat (xs : List (List Int)) (l : List Int) (n : Nat) (h : l.length = n) : msD xs ++ [D.sl (dI .i64 l) n] = msD (xs ++ [l]) := by subst h; unfold msD; simp
theorem msD_at (xs : List (List Int)) (i : Nat) (h : i < xs.length) : (List.drop i (msD xs))[0]? = some (D.sl (dI .i64 (List.getD xs i [])) (List.getD xs i []).length) := by
 unfold msD
 rw [List.getElem?_drop, Nat.add_zero, List.getElem?_map, List.getElem?_eq_getElem h, List.getD_eq_getElem?_getD, List.getElem?_eq_getElem h]; rfl
theorem msD_take (xs : List (List Int)) (n : Nat) : List.take (n * 1) (List.drop (0 * 1) (msD xs)) = msD (List.take n xs) := by unfold msD; simp [List.map_take]
def MsW (xs : List (List Int)) : Prop := ∀ l ∈ xs, List.length l ≤ 1000000
theorem MsW.at {xs : List (List Int)} (h : MsW xs) (i : Nat) : List.length (List.getD xs i []) ≤ 1000000 := by
 rw [List.getD_eq_getElem?_getD]
 cases e : xs[i]? with
 | none => exact Nat.zero_le _
 | some l => exact h l (List.mem_of_getElem? e)
theorem MsW.nil : MsW [] := fun l h => by cases h
theorem MsW.snoc {xs : List (List Int)} {l : List Int} (h : MsW xs) (hl : List.length l ≤ 1000000) : MsW (xs ++ [l]) := fun m hm => (List.mem_append.1 hm).elim (h m) fun hm => by
 rw [List.mem_singleton.1 hm]; exact hl
theorem MsW.take {xs : List (List Int)} (h : MsW xs) (n : Nat) : MsW (List.take n xs) := fun m hm => h m (List.mem_of_mem_take hm)
def hmB (xs : List (List Int)) (m : List Int) : Bool := decide (m ∈ xs)
theorem hm_t {xs : List (List Int)} {m : List Int} {k : Nat} (hk : k < xs.length) (h : sqB (List.getD xs k []) m = true) : hmB xs m = true := by
 have e : List.getD xs k [] = xs[k] := by rw [List.getD_eq_getElem?_getD, List.getElem?_eq_getElem hk]; rfl
 have h1 := sqB_eq h
 rw [e] at h1
 exact decide_eq_true (h1 ▸ List.getElem_mem hk)
theorem hm_f {xs : List (List Int)} {m : List Int} (h : ∀ j, j < xs.length → sqB (List.getD xs j []) m = false) : hmB xs m = false := by
 refine decide_eq_false fun hm => ?_
 obtain ⟨j, hj, e⟩ := List.mem_iff_getElem.1 hm
 have h1 := sqB_nq (h j hj)
 have e1 : List.getD xs j [] = xs[j] := by rw [List.getD_eq_getElem?_getD, List.getElem?_eq_getElem hj]; rfl
 exact h1 (by rw [e1, e])
def vmE (xs : List (List Int)) (i : Nat) : Bool := chB (List.getD xs i []) (List.getD xs i []).length && !(hmB (List.take i xs) (List.getD xs i []))
def vmB (xs : List (List Int)) : Bool := decide (1 ≤ xs.length ∧ xs.length ≤ 16 ∧ ∀ i, i < xs.length → vmE xs i = true)
theorem vm_t {xs : List (List Int)} (h1 : 1 ≤ xs.length) (h2 : xs.length ≤ 16) (h : ∀ i, i < xs.length → vmE xs i = true) : vmB xs = true := decide_eq_true ⟨h1, h2, h⟩
theorem vm_f {xs : List (List Int)} {k : Nat} (hk : k < xs.length) (h : vmE xs k = false) : vmB xs = false := decide_eq_false fun h1 => by
 have := h1.2.2 k hk; rw [h] at this; cases this
theorem vm_s {xs : List (List Int)} (h : xs.length < 1 ∨ 16 < xs.length) : vmB xs = false := decide_eq_false fun h1 => by omega
theorem vmE_y {xs : List (List Int)} {i : Nat} (h1 : chB (List.getD xs i []) (List.getD xs i []).length = true) (h2 : hmB (List.take i xs) (List.getD xs i []) = false) : vmE xs i = true := by unfold vmE; rw [h1, h2]; rfl
theorem vmE_c {xs : List (List Int)} {i : Nat} (h1 : chB (List.getD xs i []) (List.getD xs i []).length = false) : vmE xs i = false := by unfold vmE; rw [h1]; rfl
theorem vmE_h {xs : List (List Int)} {i : Nat} (h2 : hmB (List.take i xs) (List.getD xs i []) = true) : vmE xs i = false := by unfold vmE; rw [h2]; cases chB (List.getD xs i []) (List.getD xs i []).length <;> rfl
def wiB (l : List Int) (n : Nat) (lo hi : Int) : Bool := vaB l n && decide (1 ≤ n ∧ lo ≤ List.getD l 0 0 ∧ List.getD l ((n - 1) * 2 + 1) 0 ≤ hi)
theorem wi_y {l : List Int} {n : Nat} {lo hi : Int} (h : vaB l n = true) (h2 : 1 ≤ n ∧ lo ≤ List.getD l 0 0 ∧ List.getD l ((n - 1) * 2 + 1) 0 ≤ hi) : wiB l n lo hi = true := by unfold wiB; rw [h, decide_eq_true h2]; rfl
theorem wi_v {l : List Int} {n : Nat} {lo hi : Int} (h : vaB l n = false) : wiB l n lo hi = false := by unfold wiB; rw [h]; rfl
theorem wi_n {l : List Int} {n : Nat} {lo hi : Int} (h2 : ¬ (1 ≤ n ∧ lo ≤ List.getD l 0 0 ∧ List.getD l ((n - 1) * 2 + 1) 0 ≤ hi)) : wiB l n lo hi = false := by unfold wiB; rw [decide_eq_false h2]; cases vaB l n <;> rfl
structure Bx where
 k : Int
 r : List Int
 rn : Nat
 m : List (List Int)
 s : List Int
 sn : Nat
def bx0 : Bx := ⟨0, [], 0, [], [], 0⟩
def bxR (b : Bx) : List D := [D.lit (.int .i64 b.k), D.sl (dI .i64 b.r) b.rn, D.sl (msD b.m) b.m.length, D.sl (dI .i64 b.s) b.sn]
def bxD : List Bx → List D
 | [] => []
 | b :: r => bxR b ++ bxD r
theorem bxD_len : ∀ xs : List Bx, List.length (bxD xs) = List.length xs * 4
 | [] => rfl
 | b :: r => by show List.length (bxR b ++ bxD r) = (List.length r + 1) * 4; rw [List.length_append, bxD_len r]; show 4 + _ = _; omega
theorem bxD_app : ∀ a b : List Bx, bxD (a ++ b) = bxD a ++ bxD b
 | [], _ => rfl
 | l :: r, b => by show bxR l ++ bxD (r ++ b) = bxR l ++ bxD r ++ bxD b; rw [bxD_app r b, List.append_assoc]
theorem bxD_drop : ∀ (i : Nat) (xs : List Bx), List.drop (i * 4) (bxD xs) = bxD (List.drop i xs)
 | 0, _ => rfl
 | i + 1, [] => by simp [bxD]
 | i + 1, l :: r => by
  show List.drop ((i + 1) * 4) (bxR l ++ bxD r) = bxD (List.drop i r)
  rw [show (i + 1) * 4 = 4 + i * 4 by omega, ← List.drop_drop, ← bxD_drop i r]; rfl
theorem bxD_take : ∀ (i : Nat) (xs : List Bx), List.take (i * 4) (bxD xs) = bxD (List.take i xs)
 | 0, _ => rfl
 | i + 1, [] => by simp [bxD]
 | i + 1, l :: r => by
  show List.take ((i + 1) * 4) (bxR l ++ bxD r) = bxR l ++ bxD (List.take i r)
  rw [← bxD_take i r, show (i + 1) * 4 = List.length (bxR l) + i * 4 by show _ = 4 + _; omega, List.take_length_add_append]
def bxG (xs : List Bx) (i : Nat) : Bx := List.getD xs i bx0
def qbK (xs : List Bx) (i : Nat) : Int := (bxG xs i).k
def qbR (xs : List Bx) (i : Nat) : List Int := (bxG xs i).r
def qbN (xs : List Bx) (i : Nat) : Nat := (bxG xs i).rn
def qbM (xs : List Bx) (i : Nat) : List (List Int) := (bxG xs i).m
def qbS (xs : List Bx) (i : Nat) : List Int := (bxG xs i).s
def qbT (xs : List Bx) (i : Nat) : Nat := (bxG xs i).sn
theorem bx_head {xs : List Bx} {i : Nat} (h : i < List.length xs) : bxD (List.drop i xs) = bxR (bxG xs i) ++ bxD (List.drop (i + 1) xs) := by
 have e : bxG xs i = xs[i] := by unfold bxG; rw [List.getD_eq_getElem?_getD, List.getElem?_eq_getElem h]; rfl
 rw [List.drop_eq_getElem_cons h, e]; rfl
theorem bx_at {xs : List Bx} {i : Nat} (h : i < List.length xs) : List.take 4 (List.drop (i * 4) (bxD xs)) = [D.lit (.int .i64 (qbK xs i)), D.sl (dI .i64 (qbR xs i)) (qbN xs i), D.sl (msD (qbM xs i)) (List.length (qbM xs i)), D.sl (dI .i64 (qbS xs i)) (qbT xs i)] := by
 rw [bxD_drop, bx_head h]; rfl
def BxW (b : Bx) : Prop := List.length b.r = b.rn * 2 ∧ List.length b.s = b.sn * 2 ∧ b.rn ≤ 1000000 ∧ b.sn ≤ 1000000 ∧ List.length b.m ≤ 1000000 ∧ MsW b.m
def BsW (xs : List Bx) : Prop := ∀ b ∈ xs, BxW b
theorem bx0_W : BxW bx0 := ⟨rfl, rfl, Nat.zero_le _, Nat.zero_le _, Nat.zero_le _, MsW.nil⟩
theorem BsW.get {xs : List Bx} (h : BsW xs) (i : Nat) : BxW (bxG xs i) := by
 unfold bxG
 rw [List.getD_eq_getElem?_getD]
 cases e : xs[i]? with
 | none => exact bx0_W
 | some l => exact h l (List.mem_of_getElem? e)
theorem BsW.at {xs : List Bx} (h : BsW xs) (i : Nat) : List.length (qbR xs i) = qbN xs i * 2 ∧ List.length (qbS xs i) = qbT xs i * 2 ∧ qbN xs i ≤ 1000000 ∧ qbT xs i ≤ 1000000 ∧ List.length (qbM xs i) ≤ 1000000 := by
 have h1 := h.get i
 exact ⟨h1.1, h1.2.1, h1.2.2.1, h1.2.2.2.1, h1.2.2.2.2.1⟩
theorem BsW.ms {xs : List Bx} (h : BsW xs) (i : Nat) : MsW (qbM xs i) := (h.get i).2.2.2.2.2
theorem BsW.take {xs : List Bx} (h : BsW xs) (n : Nat) : BsW (List.take n xs) := fun m hm => h m (List.mem_of_mem_take hm)
theorem BsW.drop {xs : List Bx} (h : BsW xs) (n : Nat) : BsW (List.drop n xs) := fun m hm => h m (List.mem_of_mem_drop hm)
theorem BsW.app {xs ys : List Bx} (h : BsW xs) (h2 : BsW ys) : BsW (xs ++ ys) := fun m hm => (List.mem_append.1 hm).elim (h m) (h2 m)
theorem BsW.nil : BsW [] := fun l h => by cases h
theorem BsW.one {b : Bx} (h : BxW b) : BsW [b] := fun m hm => by rw [List.mem_singleton.1 hm]; exact h
def anV (k : Int) : Int := bitsI .andNot .i64 k 254
def odV (k : Int) : Int := bitsI .and .i64 k 1
def kiB (k : Int) (q : Nat) : Bool := decide (1 ≤ q ∧ q ≤ 7 ∧ odV (k / ((2 ^ q : Nat) : Int)) = 1)
def bxB (k : Int) (r : List Int) (rn : Nat) (m : List (List Int)) (s : List Int) (sn : Nat) : Bool := decide (¬ k = 0 ∧ anV k = 0) && (wiB r rn 1000 768000 && (vmB m && wiB s sn 1 65536))
def vbE (xs : List Bx) (i : Nat) : Bool := bxB (qbK xs i) (qbR xs i) (qbN xs i) (qbM xs i) (qbS xs i) (qbT xs i)
def vbB (xs : List Bx) : Bool := decide (xs.length ≤ 64 ∧ ∀ i, i < xs.length → vbE xs i = true)
theorem vb_t {xs : List Bx} (h2 : xs.length ≤ 64) (h : ∀ i, i < xs.length → vbE xs i = true) : vbB xs = true := decide_eq_true ⟨h2, h⟩
theorem vb_f {xs : List Bx} {k : Nat} (hk : k < xs.length) (h : vbE xs k = false) : vbB xs = false := decide_eq_false fun h1 => by
 have := h1.2 k hk; rw [h] at this; cases this
theorem vb_s {xs : List Bx} (h : 64 < xs.length) : vbB xs = false := decide_eq_false fun h1 => by omega
theorem bx_t {k : Int} {r : List Int} {rn : Nat} {m : List (List Int)} {s : List Int} {sn : Nat} (h1 : ¬ k = 0 ∧ anV k = 0) (h2 : wiB r rn 1000 768000 = true) (h3 : vmB m = true) (h4 : wiB s sn 1 65536 = true) : bxB k r rn m s sn = true := by
 unfold bxB; rw [h2, h3, h4, decide_eq_true h1]; rfl
theorem bx_k {k : Int} {r : List Int} {rn : Nat} {m : List (List Int)} {s : List Int} {sn : Nat} (h1 : ¬ (¬ k = 0 ∧ anV k = 0)) : bxB k r rn m s sn = false := by
 unfold bxB; rw [decide_eq_false h1]; rfl
theorem bx_r {k : Int} {r : List Int} {rn : Nat} {m : List (List Int)} {s : List Int} {sn : Nat} (h2 : wiB r rn 1000 768000 = false) : bxB k r rn m s sn = false := by
 unfold bxB; rw [h2, Bool.false_and, Bool.and_false]
theorem bx_m {k : Int} {r : List Int} {rn : Nat} {m : List (List Int)} {s : List Int} {sn : Nat} (h3 : vmB m = false) : bxB k r rn m s sn = false := by
 unfold bxB; rw [h3, Bool.false_and, Bool.and_false, Bool.and_false]
theorem bx_s {k : Int} {r : List Int} {rn : Nat} {m : List (List Int)} {s : List Int} {sn : Nat} (h4 : wiB s sn 1 65536 = false) : bxB k r rn m s sn = false := by
 unfold bxB; rw [h4, Bool.and_false, Bool.and_false, Bool.and_false]
def bxL (xs : List Bx) : List Bx := if vbB xs = true then xs else []
theorem bxL_y {xs : List Bx} (h : vbB xs = true) : bxL xs = xs := if_pos h
theorem bxL_n {xs : List Bx} (h : vbB xs = false) : bxL xs = [] := if_neg (by rw [h]; decide)
theorem bxL_W {xs : List Bx} (h : BsW xs) : BsW (bxL xs) := by unfold bxL; split; exact h; exact BsW.nil
theorem bxL_le (xs : List Bx) : List.length (bxL xs) ≤ List.length xs := by unfold bxL; split; exact Nat.le_refl _; exact Nat.zero_le _
theorem zl10b6 {p : Prop} (h : p := by first | omega | assumption | simp) : p := h
theorem zl10b3 {p : Prop} (h : p := by first | omega | (simp only [msD_len, bxD_len, List.length_append, List.length_cons, List.length_nil, List.length_take, List.length_drop] <;> omega)) : p := h
theorem zl10b2 {p : Prop} (h : p := by first | omega | with_reducible assumption | (simp only [msD_len, bxD_len, List.length_append, List.length_cons, List.length_nil, List.length_take, List.length_drop, List.length_replicate, List.length_set] <;> omega) | rfl | assumption) : p := h
theorem Z_rhas (ms : List (List Int)) (c : Nat) (m : List Int) (n : Nat) (hc : List.length ms = c) (hn : List.length m = n) (h1 : c ≤ 1000000) (h2 : n ≤ 1000000) (hW : MsW ms) : Fun 83 [.c (.d (D.sl (msD ms) c)), .c (.d (D.sl (dI .i64 m) n))] (toG []) 0 (.e (.c (.d (D.lit (.bool (hmB ms m)))))) (toG []) 0 := by
 refine Fun.mk (n := 17) Tryz.func83 rfl rfl (Nat.le_of_ble_eq_true rfl) ?_
 intro cx hcx
 refine y9r [.no] True [(0, .e (.c (.d (D.sl (msD ms) c)))), (1, sV .i64 m n)] [] 0 trivial ?_
 refine AW.seq ?_
 refine y9s [.no, .no, .no] True [(1, sV .i64 m n), (7, .e (.c (.d (D.sl (msD ms) c)))), (8, uV c), (9, iV 0)] trivial ?_
 refine AW.block ?_
 refine AW.loopE 0 hcx (fun (x : {x : Nat // match x with | k => (k ≤ c) ∧ (∀ j, j < k → sqB (List.getD ms j []) m = false)}) => match x with | ⟨k, _⟩ => (⟨[(1, sV .i64 m n), (7, .e (.c (.d (D.sl (msD ms) c)))), (8, uV c), (9, uV k)], [], 0⟩ : ES)) (fun x => match x with | ⟨k, _⟩ => c - k) ⟨(0 : Nat), ⟨zl10b6, (fun j hj => absurd hj (Nat.not_lt_zero j))⟩⟩ [] (P := (q9d (dI .i64 m)) ∧ (q9n n) ∧ (q9d (msD ms)) ∧ (q9n c) ∧ (q9i (c : Int)) ∧ (q9i 0)) zk ⟨rfl, rfl, rfl, rfl, rfl, rfl⟩ ?_
 rintro ⟨k, hinv0⟩
 obtain ⟨hk, ha⟩ : (k ≤ c) ∧ (∀ j, j < k → sqB (List.getD ms j []) m = false) := hinv0
 refine AW.es (l := [(1, sV .i64 m n), (7, .e (.c (.d (D.sl (msD ms) c)))), (8, uV c), (9, uV k)]) (g := []) (nx := 0) rfl rfl rfl ?_
 by_cases hx1 : (((k : Nat) : Int) < ((c : Nat) : Int))
 ·refine y9r [.b true] (((k : Int) < (c : Int))) [(1, sV .i64 m n), (7, .e (.c (.d (D.sl (msD ms) c)))), (8, uV c), (9, uV k), (10, bV true)] [] 0 zo ?_
  refine AW.seq ?_
  refine zts ?_
  refine AW.seq ?_
  refine AW.block ?_
  have hx2 : ((List.length (List.getD ms k ([] : List Int))) ≤ 1000000) := MsW.at (show MsW ms by with_reducible assumption) _
  refine y9s [.n k, .d (dl (List.getD ms k ([] : List Int)) (List.length (List.getD ms k ([] : List Int)))), .no] ((q9i (k : Int)) ∧ (k < c) ∧ ((List.drop k (msD ms))[0]? = some (dl (List.getD ms k ([] : List Int)) (List.length (List.getD ms k ([] : List Int)))))) [(1, sV .i64 m n), (6, sV .i64 (List.getD ms k ([] : List Int)) (List.length (List.getD ms k ([] : List Int)))), (7, .e (.c (.d (D.sl (msD ms) c)))), (8, uV c), (9, uV k)] ⟨rfl, zo, (msD_at _ _ zl10b3)⟩ ?_
  rcases Bool.eq_false_or_eq_true (sqB (List.getD ms k ([] : List Int)) m) with hx3 | hx3
  ·refine y9s [.no, .no, .call [] (bV true) [] 0 [] none] (Fun 94 [.c (.d (dl (List.getD ms k ([] : List Int)) (List.length (List.getD ms k ([] : List Int))))), .c (.d (dl m n))] (toG []) 0 (bV true) (toG []) 0) [(1, sV .i64 m n), (7, .e (.c (.d (D.sl (msD ms) c)))), (8, uV c), (9, uV k), (15, bV true)] (by have h0 := (V_rSame (List.getD ms k ([] : List Int)) m (List.length (List.getD ms k ([] : List Int))) n rfl zo zl10b2 zo); rw [hx3] at h0; exact h0) ?_
   refine zt ?_
   refine y9s [.no] True [(4, bV true)] trivial ?_
   refine AW.ret ?_
   exact EndP.of (.inr rfl) [] (P := ((hmB ms m) = true)) zk (by first | exact hm_t (k := k) zo (by assumption) | exact hm_f (fun j hj => ha j zo))
  ·refine y9s [.no, .no, .call [] (bV false) [] 0 [] none] (Fun 94 [.c (.d (dl (List.getD ms k ([] : List Int)) (List.length (List.getD ms k ([] : List Int))))), .c (.d (dl m n))] (toG []) 0 (bV false) (toG []) 0) [(1, sV .i64 m n), (7, .e (.c (.d (D.sl (msD ms) c)))), (8, uV c), (9, uV k), (15, bV false)] (by have h0 := (V_rSame (List.getD ms k ([] : List Int)) m (List.length (List.getD ms k ([] : List Int))) n rfl zo zl10b2 zo); rw [hx3] at h0; exact h0) ?_
   refine zfs ?_
   refine y9h [.w, .no] ((-9223372036854775808) ≤ ((k : Int) + 1) ∧ ((k : Int) + 1) ≤ 9223372036854775807) [(1, sV .i64 m n), (7, .e (.c (.d (D.sl (msD ms) c)))), (8, uV c), (9, iV (↑k + 1))] ⟨by omega, by omega⟩ ?_
   exact Rd.of ⟨((k + 1) : Nat), ⟨zl10b6, (fun j hj => (Nat.lt_succ_iff_lt_or_eq.1 hj).elim (ha j) (fun e9 => by subst e9; assumption))⟩⟩ [] (P := (q9d (dI .i64 m)) ∧ (q9n n) ∧ (q9d (msD ms)) ∧ (q9n c) ∧ (q9i (c : Int)) ∧ (((((k + 1) : Nat) : Int) : Int) = ((k : Int) + 1))) zk ⟨rfl, rfl, rfl, rfl, rfl, (by first | rfl | omega | assumption | (simp; done) | (simp; omega))⟩ (show c - (k + 1) < c - k from (by first | omega | (show _ < _; simp; omega)))
 ·refine y9r [.b false] (¬ ((k : Int) < (c : Int))) [(1, sV .i64 m n), (7, .e (.c (.d (D.sl (msD ms) c)))), (8, uV c), (9, uV k), (10, bV false)] [] 0 zo ?_
  refine AW.seq ?_
  refine zf ?_
  refine AW.exit ?_
  refine y9r [.no] True [(4, bV false)] [] 0 trivial ?_
  refine AW.ret ?_
  exact EndP.of (.inr rfl) [] (P := ((hmB ms m) = false)) zk (by first | exact hm_t (k := k) zo (by assumption) | exact hm_f (fun j hj => ha j zo))
theorem zl10b0 {p : Prop} (h : p := by first | (rw [List.drop_drop]; exact dI_at _ _ _ (by first | omega | (simp only [msD_len, bxD_len, dI_len, List.length_append, List.length_cons, List.length_nil, List.length_take, List.length_drop, List.length_replicate, List.length_set, List.length_map, List.length_reverse, Nat.mul_one] <;> omega) | rfl)) | (rw [List.drop_drop, Nat.add_comm]; exact dI_at _ _ _ (by first | omega | (simp only [msD_len, bxD_len, dI_len, List.length_append, List.length_cons, List.length_nil, List.length_take, List.length_drop, List.length_replicate, List.length_set, List.length_map, List.length_reverse, Nat.mul_one] <;> omega) | rfl))) : p := h
theorem zl10b4 {p : Prop} (h : p := by first | exact wi_y (by assumption) (by omega) | exact wi_v (by assumption) | exact wi_n (by omega)) : p := h
theorem Z_within (l : List Int) (n : Nat) (lo hi : Int) (hl : List.length l = n * 2) (hb : n ≤ 1000000) : Fun 92 [.agg [.d (D.sl (dI .i64 l) n)], iE lo, iE hi] (toG []) 0 (.e (.c (.d (D.lit (.bool (wiB l n lo hi)))))) (toG []) 0 := by
 refine Fun.mk (n := 37) Tryz.func92 rfl rfl (Nat.le_of_ble_eq_true rfl) ?_
 intro cx hcx
 refine y9r [.no, .no] True [(1, iV lo), (2, iV hi), (3, rV 0 0)] [(0, some (56, .ds [dl l n]))] 1 trivial ?_
 refine y9s (nz9 4 []) True [(1, iV lo), (2, iV hi), (3, rV 0 0), (7, uV n)] trivial ?_
 rcases Bool.eq_false_or_eq_true (vaB l n) with hx1 | hx1
 ·by_cases hx2 : ((0 : Int) < ((n : Nat) : Int))
  ·by_cases hx3 : (lo ≤ (List.getD l 0 0))
   ·by_cases hx4 : ((List.getD l (((n - 1) * 2) + 1) 0) ≤ hi)
    ·refine y9r (.no :: .call [] (bV true) [] 0 [] none :: .no :: .no :: .b true :: nz9 4 (.n 0 :: .no :: .d (D.lit (.int .i64 (List.getD l 0 0))) :: .no :: .b true :: nz9 5 [.w, .n (n - 1), .no, .d (D.lit (.int .i64 (List.getD l (((n - 1) * 2) + 1) 0))), .no, .b true, .no, .no])) ((Fun 134 [.agg [.d (dl l n)]] (toG []) 0 (bV true) (toG []) 0) ∧ (((0 : Int) < (n : Int))) ∧ (q9i 0) ∧ ((0 : Nat) < n) ∧ ((List.drop 0 (List.drop 0 (dI .i64 l)))[0]? = some (D.lit (.int .i64 (List.getD l 0 0)))) ∧ ((lo ≤ (List.getD l 0 0))) ∧ ((-9223372036854775808) ≤ ((n : Int) - 1) ∧ ((n : Int) - 1) ≤ 9223372036854775807) ∧ ((((n : Int) - 1) : Int) = (((n - 1) : Nat) : Int)) ∧ ((n - 1) < n) ∧ ((List.drop 1 (List.drop ((n - 1) * 2) (dI .i64 l)))[0]? = some (D.lit (.int .i64 (List.getD l (((n - 1) * 2) + 1) 0)))) ∧ (((List.getD l (((n - 1) * 2) + 1) 0) ≤ hi))) [(6, bV true)] [] 1 ⟨(by have h0 := (U_rValid l n zo zo); rw [hx1] at h0; exact h0), zo, rfl, zo, zl10b0, zo, ⟨by omega, by omega⟩, (by first | rfl | omega), zo, zl10b0, zo⟩ ?_
     refine AW.ret ?_
     exact EndP.of (.inr rfl) [] (P := ((wiB l n lo hi) = true)) zk zl10b4
    ·refine y9r (.no :: .call [] (bV true) [] 0 [] none :: .no :: .no :: .b true :: nz9 4 (.n 0 :: .no :: .d (D.lit (.int .i64 (List.getD l 0 0))) :: .no :: .b true :: nz9 5 [.w, .n (n - 1), .no, .d (D.lit (.int .i64 (List.getD l (((n - 1) * 2) + 1) 0))), .no, .b false, .no, .no])) ((Fun 134 [.agg [.d (dl l n)]] (toG []) 0 (bV true) (toG []) 0) ∧ (((0 : Int) < (n : Int))) ∧ (q9i 0) ∧ ((0 : Nat) < n) ∧ ((List.drop 0 (List.drop 0 (dI .i64 l)))[0]? = some (D.lit (.int .i64 (List.getD l 0 0)))) ∧ ((lo ≤ (List.getD l 0 0))) ∧ ((-9223372036854775808) ≤ ((n : Int) - 1) ∧ ((n : Int) - 1) ≤ 9223372036854775807) ∧ ((((n : Int) - 1) : Int) = (((n - 1) : Nat) : Int)) ∧ ((n - 1) < n) ∧ ((List.drop 1 (List.drop ((n - 1) * 2) (dI .i64 l)))[0]? = some (D.lit (.int .i64 (List.getD l (((n - 1) * 2) + 1) 0)))) ∧ (¬ ((List.getD l (((n - 1) * 2) + 1) 0) ≤ hi))) [(6, bV false)] [] 1 ⟨(by have h0 := (U_rValid l n zo zo); rw [hx1] at h0; exact h0), zo, rfl, zo, zl10b0, zo, ⟨by omega, by omega⟩, (by first | rfl | omega), zo, zl10b0, zo⟩ ?_
     refine AW.ret ?_
     exact EndP.of (.inr rfl) [] (P := ((wiB l n lo hi) = false)) zk zl10b4
   ·refine y9r (.no :: .call [] (bV true) [] 0 [] none :: .no :: .no :: .b true :: nz9 4 (.n 0 :: .no :: .d (D.lit (.int .i64 (List.getD l 0 0))) :: .no :: .b false :: nz9 4 [])) ((Fun 134 [.agg [.d (dl l n)]] (toG []) 0 (bV true) (toG []) 0) ∧ (((0 : Int) < (n : Int))) ∧ (q9i 0) ∧ ((0 : Nat) < n) ∧ ((List.drop 0 (List.drop 0 (dI .i64 l)))[0]? = some (D.lit (.int .i64 (List.getD l 0 0)))) ∧ (¬ (lo ≤ (List.getD l 0 0)))) [(6, bV false)] [] 1 ⟨(by have h0 := (U_rValid l n zo zo); rw [hx1] at h0; exact h0), zo, rfl, zo, zl10b0, zo⟩ ?_
    refine AW.ret ?_
    exact EndP.of (.inr rfl) [] (P := ((wiB l n lo hi) = false)) zk zl10b4
  ·refine y9r (.no :: .call [] (bV true) [] 0 [] none :: .no :: .no :: .b false :: nz9 6 []) ((Fun 134 [.agg [.d (dl l n)]] (toG []) 0 (bV true) (toG []) 0) ∧ (¬ ((0 : Int) < (n : Int)))) [(6, bV false)] [] 1 ⟨(by have h0 := (U_rValid l n zo zo); rw [hx1] at h0; exact h0), zo⟩ ?_
   refine AW.ret ?_
   exact EndP.of (.inr rfl) [] (P := ((wiB l n lo hi) = false)) zk zl10b4
 ·refine y9r (.no :: .call [] (bV false) [] 0 [] none :: nz9 7 []) (Fun 134 [.agg [.d (dl l n)]] (toG []) 0 (bV false) (toG []) 0) [(6, bV false)] [] 1 (by have h0 := (U_rValid l n zo zo); rw [hx1] at h0; exact h0) ?_
  refine AW.ret ?_
  exact EndP.of (.inr rfl) [] (P := ((wiB l n lo hi) = false)) zk zl10b4
theorem Z_lies (l : List Int) (n : Nat) (lo hi : Int) (hl : List.length l = n * 2) (hb : n ≤ 1000000) : Fun 87 [.agg [.d (D.sl (dI .i64 l) n)], iE lo, iE hi] (toG []) 0 (.e (.c (.d (D.lit (.bool (wiB l n lo hi)))))) (toG []) 0 := by
 refine Fun.mk (n := 37) Tryz.func87 rfl rfl (Nat.le_of_ble_eq_true rfl) ?_
 intro cx hcx
 refine y9r [.no, .no] True [(1, iV lo), (2, iV hi), (3, rV 0 0)] [(0, some (56, .ds [dl l n]))] 1 trivial ?_
 refine y9s [.no, .no, .no, .w, .no] ((-9223372036854775808) ≤ ((n : Int) - 1) ∧ ((n : Int) - 1) ≤ 9223372036854775807) [(1, iV lo), (2, iV hi), (3, rV 0 0), (7, iV (↑n - 1))] ⟨by omega, by omega⟩ ?_
 by_cases hx1 : ((0 : Int) ≤ (((n : Nat) : Int) - 1))
 ·rcases Bool.eq_false_or_eq_true (vaB l n) with hx2 | hx2
  ·by_cases hx3 : (lo ≤ (List.getD l 0 0))
   ·by_cases hx4 : ((List.getD l (((n - 1) * 2) + 1) 0) ≤ hi)
    ·refine y9r (.no :: .b true :: .no :: .no :: .call [] (bV true) [] 0 [] none :: nz9 4 (.n 0 :: .no :: .d (D.lit (.int .i64 (List.getD l 0 0))) :: .no :: .b true :: nz9 5 [.n (n - 1), .no, .d (D.lit (.int .i64 (List.getD l (((n - 1) * 2) + 1) 0))), .no, .b true, .no, .no])) ((((0 : Int) ≤ ((n : Int) - 1))) ∧ (Fun 130 [.agg [.d (dl l n)]] (toG []) 0 (bV true) (toG []) 0) ∧ (q9i 0) ∧ ((0 : Nat) < n) ∧ ((List.drop 0 (List.drop 0 (dI .i64 l)))[0]? = some (D.lit (.int .i64 (List.getD l 0 0)))) ∧ ((lo ≤ (List.getD l 0 0))) ∧ ((((n : Int) - 1) : Int) = (((n - 1) : Nat) : Int)) ∧ ((n - 1) < n) ∧ ((List.drop 1 (List.drop ((n - 1) * 2) (dI .i64 l)))[0]? = some (D.lit (.int .i64 (List.getD l (((n - 1) * 2) + 1) 0)))) ∧ (((List.getD l (((n - 1) * 2) + 1) 0) ≤ hi))) [(6, bV true)] [] 1 ⟨zo, (by have h0 := (U_Valid l n zo zo); rw [hx2] at h0; exact h0), rfl, zo, zl10b0, zo, (by first | rfl | omega), zo, zl10b0, zo⟩ ?_
     refine AW.ret ?_
     exact EndP.of (.inr rfl) [] (P := ((wiB l n lo hi) = true)) zk zl10b4
    ·refine y9r (.no :: .b true :: .no :: .no :: .call [] (bV true) [] 0 [] none :: nz9 4 (.n 0 :: .no :: .d (D.lit (.int .i64 (List.getD l 0 0))) :: .no :: .b true :: nz9 5 [.n (n - 1), .no, .d (D.lit (.int .i64 (List.getD l (((n - 1) * 2) + 1) 0))), .no, .b false, .no, .no])) ((((0 : Int) ≤ ((n : Int) - 1))) ∧ (Fun 130 [.agg [.d (dl l n)]] (toG []) 0 (bV true) (toG []) 0) ∧ (q9i 0) ∧ ((0 : Nat) < n) ∧ ((List.drop 0 (List.drop 0 (dI .i64 l)))[0]? = some (D.lit (.int .i64 (List.getD l 0 0)))) ∧ ((lo ≤ (List.getD l 0 0))) ∧ ((((n : Int) - 1) : Int) = (((n - 1) : Nat) : Int)) ∧ ((n - 1) < n) ∧ ((List.drop 1 (List.drop ((n - 1) * 2) (dI .i64 l)))[0]? = some (D.lit (.int .i64 (List.getD l (((n - 1) * 2) + 1) 0)))) ∧ (¬ ((List.getD l (((n - 1) * 2) + 1) 0) ≤ hi))) [(6, bV false)] [] 1 ⟨zo, (by have h0 := (U_Valid l n zo zo); rw [hx2] at h0; exact h0), rfl, zo, zl10b0, zo, (by first | rfl | omega), zo, zl10b0, zo⟩ ?_
     refine AW.ret ?_
     exact EndP.of (.inr rfl) [] (P := ((wiB l n lo hi) = false)) zk zl10b4
   ·refine y9r (.no :: .b true :: .no :: .no :: .call [] (bV true) [] 0 [] none :: nz9 4 (.n 0 :: .no :: .d (D.lit (.int .i64 (List.getD l 0 0))) :: .no :: .b false :: nz9 4 [])) ((((0 : Int) ≤ ((n : Int) - 1))) ∧ (Fun 130 [.agg [.d (dl l n)]] (toG []) 0 (bV true) (toG []) 0) ∧ (q9i 0) ∧ ((0 : Nat) < n) ∧ ((List.drop 0 (List.drop 0 (dI .i64 l)))[0]? = some (D.lit (.int .i64 (List.getD l 0 0)))) ∧ (¬ (lo ≤ (List.getD l 0 0)))) [(6, bV false)] [] 1 ⟨zo, (by have h0 := (U_Valid l n zo zo); rw [hx2] at h0; exact h0), rfl, zo, zl10b0, zo⟩ ?_
    refine AW.ret ?_
    exact EndP.of (.inr rfl) [] (P := ((wiB l n lo hi) = false)) zk zl10b4
  ·refine y9r (.no :: .b true :: .no :: .no :: .call [] (bV false) [] 0 [] none :: nz9 6 []) ((((0 : Int) ≤ ((n : Int) - 1))) ∧ (Fun 130 [.agg [.d (dl l n)]] (toG []) 0 (bV false) (toG []) 0)) [(6, bV false)] [] 1 ⟨zo, (by have h0 := (U_Valid l n zo zo); rw [hx2] at h0; exact h0)⟩ ?_
   refine AW.ret ?_
   exact EndP.of (.inr rfl) [] (P := ((wiB l n lo hi) = false)) zk zl10b4
 ·refine y9r (.no :: .b false :: nz9 7 []) (¬ ((0 : Int) ≤ ((n : Int) - 1))) [(6, bV false)] [] 1 zo ?_
  refine AW.ret ?_
  exact EndP.of (.inr rfl) [] (P := ((wiB l n lo hi) = false)) zk zl10b4
theorem zl10b5 {p : Prop} (h : p := by first | exact vmE_c (by assumption) | exact vmE_h (by assumption)) : p := h
abbrev t0B5_0 (k : Int) (r : List Int) (rn : Nat) (m : List (List Int)) (c : Nat) (s : List Int) (sn : Nat) : BC := .ds [iD k, D.sl (dI .i64 r) rn, D.sl (msD m) c, D.sl (dI .i64 s) sn]
theorem Z_box (k : Int) (r : List Int) (rn : Nat) (m : List (List Int)) (c : Nat) (s : List Int) (sn : Nat) (hr : List.length r = rn * 2) (hs : List.length s = sn * 2) (hc : List.length m = c) (h1 : rn ≤ 1000000) (h2 : sn ≤ 1000000) (h3 : c ≤ 1000000) (hW : MsW m) : Fun 47 [.agg [iC k, .d (D.sl (dI .i64 r) rn), .d (D.sl (msD m) c), .d (D.sl (dI .i64 s) sn)]] (toG []) 0 (.e (.c (.d (D.lit (.bool (bxB k r rn m s sn)))))) (toG []) 0 := by
 refine Fun.mk (n := 54) Tryz.func47 rfl rfl (Nat.le_of_ble_eq_true rfl) ?_
 intro cx hcx
 refine y9r [.no, .no] True [(1, rV 0 0)] [(0, some (59, (t0B5_0 k r rn m c s sn)))] 1 trivial ?_
 refine AW.seq ?_
 by_cases hx1 : (k = 0)
 ·refine y9s (.no :: .no :: .b true :: nz9 6 []) ((k = 0)) [(1, rV 0 0), (25, bV true)] zo ?_
  refine zt ?_
  refine y9r [.no] True [(2, bV false)] [] 1 trivial ?_
  refine AW.ret ?_
  exact EndP.of (.inr rfl) [] (P := ((bxB k r rn m s sn) = false)) zk (by first | exact bx_t zo (by assumption) (vm_t zo zo (fun j hj => ha j zo)) (by assumption) | exact bx_k zo | exact bx_m (vm_s zo) | exact bx_m (vm_f (k := i) zo zl10b5) | exact bx_r (by assumption) | exact bx_s (by assumption))
 ·by_cases hx2 : ((anV k) ≠ 0)
  ·refine y9s [.no, .no, .b false, .no, .no, .no, .i (anV k), .b true, .no, .no, .no, .no, .no] ((¬ (k = 0)) ∧ (bitsI .andNot .i64 k 254 = (anV k)) ∧ (((anV k) ≠ 0))) [(1, rV 0 0), (25, bV true)] ⟨zo, rfl, zo⟩ ?_
   refine zt ?_
   refine y9r [.no] True [(2, bV false)] [] 1 trivial ?_
   refine AW.ret ?_
   exact EndP.of (.inr rfl) [] (P := ((bxB k r rn m s sn) = false)) zk (by first | exact bx_t zo (by assumption) (vm_t zo zo (fun j hj => ha j zo)) (by assumption) | exact bx_k zo | exact bx_m (vm_s zo) | exact bx_m (vm_f (k := i) zo zl10b5) | exact bx_r (by assumption) | exact bx_s (by assumption))
  ·by_cases hx3 : (((c : Nat) : Int) < 1)
   ·refine y9s (.no :: .no :: .b false :: .no :: .no :: .no :: .i (anV k) :: .b false :: nz9 5 [.b true, .no, .no, .no]) ((¬ (k = 0)) ∧ (bitsI .andNot .i64 k 254 = (anV k)) ∧ (¬ ((anV k) ≠ 0)) ∧ (((c : Int) < 1))) [(1, rV 0 0), (25, bV true)] ⟨zo, rfl, zo, zo⟩ ?_
    refine zt ?_
    refine y9r [.no] True [(2, bV false)] [] 1 trivial ?_
    refine AW.ret ?_
    exact EndP.of (.inr rfl) [] (P := ((bxB k r rn m s sn) = false)) zk (by first | exact bx_t zo (by assumption) (vm_t zo zo (fun j hj => ha j zo)) (by assumption) | exact bx_k zo | exact bx_m (vm_s zo) | exact bx_m (vm_f (k := i) zo zl10b5) | exact bx_r (by assumption) | exact bx_s (by assumption))
   ·by_cases hx4 : ((16 : Int) < ((c : Nat) : Int))
    ·refine y9s (.no :: .no :: .b false :: .no :: .no :: .no :: .i (anV k) :: .b false :: nz9 5 (.b false :: nz9 5 [.b true, .no])) ((¬ (k = 0)) ∧ (bitsI .andNot .i64 k 254 = (anV k)) ∧ (¬ ((anV k) ≠ 0)) ∧ (¬ ((c : Int) < 1)) ∧ (((16 : Int) < (c : Int)))) [(1, rV 0 0), (25, bV true)] ⟨zo, rfl, zo, zo, zo⟩ ?_
     refine zt ?_
     refine y9r [.no] True [(2, bV false)] [] 1 trivial ?_
     refine AW.ret ?_
     exact EndP.of (.inr rfl) [] (P := ((bxB k r rn m s sn) = false)) zk (by first | exact bx_t zo (by assumption) (vm_t zo zo (fun j hj => ha j zo)) (by assumption) | exact bx_k zo | exact bx_m (vm_s zo) | exact bx_m (vm_f (k := i) zo zl10b5) | exact bx_r (by assumption) | exact bx_s (by assumption))
    ·refine y9s (.no :: .no :: .b false :: .no :: .no :: .no :: .i (anV k) :: .b false :: nz9 5 (.b false :: nz9 5 [.b false, .no])) ((¬ (k = 0)) ∧ (bitsI .andNot .i64 k 254 = (anV k)) ∧ (¬ ((anV k) ≠ 0)) ∧ (¬ ((c : Int) < 1)) ∧ (¬ ((16 : Int) < (c : Int)))) [(1, rV 0 0), (25, bV false)] ⟨zo, rfl, zo, zo, zo⟩ ?_
     refine zfs ?_
     refine AW.seq ?_
     refine y9s (nz9 4 []) True [(1, rV 0 0), (27, .e (.c (.d (D.sl (msD m) c)))), (28, uV c), (29, iV 0)] trivial ?_
     refine AW.block ?_
     refine AW.loopE 0 hcx (fun (x : {x : Nat // match x with | i => (i ≤ c) ∧ (∀ j, j < i → vmE m j = true)}) => match x with | ⟨i, _⟩ => (⟨[(1, rV 0 0), (27, .e (.c (.d (D.sl (msD m) c)))), (28, uV c), (29, uV i)], [(0, some (59, (t0B5_0 k r rn m c s sn)))], 1⟩ : ES)) (fun x => match x with | ⟨i, _⟩ => c - i) ⟨(0 : Nat), ⟨zl10b6, (fun j hj => absurd hj (Nat.not_lt_zero j))⟩⟩ [] (P := (q9n 0) ∧ (q9d (msD m)) ∧ (q9n c) ∧ (q9i (c : Int)) ∧ (q9i 0) ∧ (q9d [iD k, dl r rn, D.sl (msD m) c, dl s sn])) zk ⟨rfl, rfl, rfl, rfl, rfl, rfl⟩ ?_
     rintro ⟨i, hinv0⟩
     obtain ⟨hi, ha⟩ : (i ≤ c) ∧ (∀ j, j < i → vmE m j = true) := hinv0
     refine AW.es (l := [(1, rV 0 0), (27, .e (.c (.d (D.sl (msD m) c)))), (28, uV c), (29, uV i)]) (g := [(0, some (59, (t0B5_0 k r rn m c s sn)))]) (nx := 1) rfl rfl rfl ?_
     by_cases hx5 : (((i : Nat) : Int) < ((c : Nat) : Int))
     ·refine y9r [.b true] (((i : Int) < (c : Int))) [(1, rV 0 0), (27, .e (.c (.d (D.sl (msD m) c)))), (28, uV c), (29, uV i), (30, bV true)] [(0, some (59, (t0B5_0 k r rn m c s sn)))] 1 zo ?_
      refine AW.seq ?_
      refine zts ?_
      refine AW.seq ?_
      refine AW.block ?_
      have hx6 : ((List.length (List.getD m i ([] : List Int))) ≤ 1000000) := MsW.at (show MsW m by with_reducible assumption) _
      refine y9s [.no, .n i, .d (dl (List.getD m i ([] : List Int)) (List.length (List.getD m i ([] : List Int)))), .no, .no] ((q9i (i : Int)) ∧ (i < c) ∧ ((List.drop i (msD m))[0]? = some (dl (List.getD m i ([] : List Int)) (List.length (List.getD m i ([] : List Int)))))) [(1, rV 0 0), (3, uV i), (4, sV .i64 (List.getD m i ([] : List Int)) (List.length (List.getD m i ([] : List Int)))), (27, .e (.c (.d (D.sl (msD m) c)))), (28, uV c), (29, uV i)] ⟨rfl, zo, (msD_at _ _ zl10b3)⟩ ?_
      rcases Bool.eq_false_or_eq_true (chB (List.getD m i ([] : List Int)) (List.length (List.getD m i ([] : List Int)))) with hx7 | hx7
      ·rcases Bool.eq_false_or_eq_true (hmB (List.take i m) (List.getD m i ([] : List Int))) with hx8 | hx8
       ·refine y9s (.no :: .call [] (bV true) [] 0 [] none :: nz9 5 [.sls 0 i i (msD (List.take i m)), .no, .call [] (bV true) [] 0 [] none, .no]) ((Fun 91 [.c (.d (dl (List.getD m i ([] : List Int)) (List.length (List.getD m i ([] : List Int)))))] (toG []) 0 (bV true) (toG []) 0) ∧ (q9n 0) ∧ (q9i (i : Int)) ∧ ((0 : Nat) ≤ i) ∧ (i ≤ c) ∧ (i - 0 = i) ∧ (List.take (i * 1) (List.drop (0 * 1) (msD m)) = (msD (List.take i m))) ∧ (Fun 83 [.c (.d (D.sl (msD (List.take i m)) i)), .c (.d (dl (List.getD m i ([] : List Int)) (List.length (List.getD m i ([] : List Int)))))] (toG []) 0 (bV true) (toG []) 0)) [(1, rV 0 0), (27, .e (.c (.d (D.sl (msD m) c)))), (28, uV c), (29, uV i), (44, bV true)] ⟨(by have h0 := (V_rValid (List.getD m i ([] : List Int)) (List.length (List.getD m i ([] : List Int))) rfl zl10b2); rw [hx7] at h0; exact h0), rfl, rfl, zo, zo, zo, (msD_take _ _), (by have h0 := (Z_rhas (List.take i m) i (List.getD m i ([] : List Int)) (List.length (List.getD m i ([] : List Int))) zl10b2 rfl zo zl10b2 (MsW.take (show MsW m by with_reducible assumption) _)); rw [hx8] at h0; exact h0)⟩ ?_
        refine zt ?_
        refine y9r [.no] True [(2, bV false)] [] 1 trivial ?_
        refine AW.ret ?_
        exact EndP.of (.inr rfl) [] (P := ((bxB k r rn m s sn) = false)) zk (by first | exact bx_t zo (by assumption) (vm_t zo zo (fun j hj => ha j zo)) (by assumption) | exact bx_k zo | exact bx_m (vm_s zo) | exact bx_m (vm_f (k := i) zo zl10b5) | exact bx_r (by assumption) | exact bx_s (by assumption))
       ·refine y9s (.no :: .call [] (bV true) [] 0 [] none :: nz9 5 [.sls 0 i i (msD (List.take i m)), .no, .call [] (bV false) [] 0 [] none, .no]) ((Fun 91 [.c (.d (dl (List.getD m i ([] : List Int)) (List.length (List.getD m i ([] : List Int)))))] (toG []) 0 (bV true) (toG []) 0) ∧ (q9n 0) ∧ (q9i (i : Int)) ∧ ((0 : Nat) ≤ i) ∧ (i ≤ c) ∧ (i - 0 = i) ∧ (List.take (i * 1) (List.drop (0 * 1) (msD m)) = (msD (List.take i m))) ∧ (Fun 83 [.c (.d (D.sl (msD (List.take i m)) i)), .c (.d (dl (List.getD m i ([] : List Int)) (List.length (List.getD m i ([] : List Int)))))] (toG []) 0 (bV false) (toG []) 0)) [(1, rV 0 0), (27, .e (.c (.d (D.sl (msD m) c)))), (28, uV c), (29, uV i), (44, bV false)] ⟨(by have h0 := (V_rValid (List.getD m i ([] : List Int)) (List.length (List.getD m i ([] : List Int))) rfl zl10b2); rw [hx7] at h0; exact h0), rfl, rfl, zo, zo, zo, (msD_take _ _), (by have h0 := (Z_rhas (List.take i m) i (List.getD m i ([] : List Int)) (List.length (List.getD m i ([] : List Int))) zl10b2 rfl zo zl10b2 (MsW.take (show MsW m by with_reducible assumption) _)); rw [hx8] at h0; exact h0)⟩ ?_
        refine zfs ?_
        refine y9h [.w, .no] ((-9223372036854775808) ≤ ((i : Int) + 1) ∧ ((i : Int) + 1) ≤ 9223372036854775807) [(1, rV 0 0), (27, .e (.c (.d (D.sl (msD m) c)))), (28, uV c), (29, iV (↑i + 1))] ⟨by omega, by omega⟩ ?_
        exact Rd.of ⟨((i + 1) : Nat), ⟨zl10b6, (fun j hj => (Nat.lt_succ_iff_lt_or_eq.1 hj).elim (ha j) (fun e9 => by subst e9; exact vmE_y (by assumption) (by assumption)))⟩⟩ [] (P := (q9n 0) ∧ (q9d (msD m)) ∧ (q9n c) ∧ (q9i (c : Int)) ∧ (((((i + 1) : Nat) : Int) : Int) = ((i : Int) + 1)) ∧ (q9d [iD k, dl r rn, D.sl (msD m) c, dl s sn])) zk ⟨rfl, rfl, rfl, rfl, (by first | rfl | omega | assumption | (simp; done) | (simp; omega)), rfl⟩ (show c - (i + 1) < c - i from (by first | omega | (show _ < _; simp; omega)))
      ·refine y9s [.no, .call [] (bV false) [] 0 [] none, .no, .no, .no] (Fun 91 [.c (.d (dl (List.getD m i ([] : List Int)) (List.length (List.getD m i ([] : List Int)))))] (toG []) 0 (bV false) (toG []) 0) [(1, rV 0 0), (27, .e (.c (.d (D.sl (msD m) c)))), (28, uV c), (29, uV i), (44, bV true)] (by have h0 := (V_rValid (List.getD m i ([] : List Int)) (List.length (List.getD m i ([] : List Int))) rfl zl10b2); rw [hx7] at h0; exact h0) ?_
       refine zt ?_
       refine y9r [.no] True [(2, bV false)] [] 1 trivial ?_
       refine AW.ret ?_
       exact EndP.of (.inr rfl) [] (P := ((bxB k r rn m s sn) = false)) zk (by first | exact bx_t zo (by assumption) (vm_t zo zo (fun j hj => ha j zo)) (by assumption) | exact bx_k zo | exact bx_m (vm_s zo) | exact bx_m (vm_f (k := i) zo zl10b5) | exact bx_r (by assumption) | exact bx_s (by assumption))
     ·refine y9r [.b false] (¬ ((i : Int) < (c : Int))) [(1, rV 0 0), (27, .e (.c (.d (D.sl (msD m) c)))), (28, uV c), (29, uV i), (30, bV false)] [(0, some (59, (t0B5_0 k r rn m c s sn)))] 1 zo ?_
      refine AW.seq ?_
      refine zf ?_
      refine AW.exit ?_
      rcases Bool.eq_false_or_eq_true (wiB r rn 1000 768000) with hx9 | hx9
      ·rcases Bool.eq_false_or_eq_true (wiB s sn 1 65536) with hx10 | hx10
       ·refine y9r [.no, .no, .call [] (bV true) [] 0 [] none, .no, .no, .no, .call [] (bV true) [] 0 [] none, .no, .no] ((Fun 92 [.agg [.d (dl r rn)], iE 1000, iE 768000] (toG []) 0 (bV true) (toG []) 0) ∧ (Fun 92 [.agg [.d (dl s sn)], iE 1, iE 65536] (toG []) 0 (bV true) (toG []) 0)) [(2, bV true)] [] 1 ⟨(by have h0 := (Z_within r rn 1000 768000 zo zo); rw [hx9] at h0; exact h0), (by have h0 := (Z_within s sn 1 65536 zo zo); rw [hx10] at h0; exact h0)⟩ ?_
        refine AW.ret ?_
        exact EndP.of (.inr rfl) [] (P := ((bxB k r rn m s sn) = true)) zk (by first | exact bx_t zo (by assumption) (vm_t zo zo (fun j hj => ha j zo)) (by assumption) | exact bx_k zo | exact bx_m (vm_s zo) | exact bx_m (vm_f (k := i) zo zl10b5) | exact bx_r (by assumption) | exact bx_s (by assumption))
       ·refine y9r [.no, .no, .call [] (bV true) [] 0 [] none, .no, .no, .no, .call [] (bV false) [] 0 [] none, .no, .no] ((Fun 92 [.agg [.d (dl r rn)], iE 1000, iE 768000] (toG []) 0 (bV true) (toG []) 0) ∧ (Fun 92 [.agg [.d (dl s sn)], iE 1, iE 65536] (toG []) 0 (bV false) (toG []) 0)) [(2, bV false)] [] 1 ⟨(by have h0 := (Z_within r rn 1000 768000 zo zo); rw [hx9] at h0; exact h0), (by have h0 := (Z_within s sn 1 65536 zo zo); rw [hx10] at h0; exact h0)⟩ ?_
        refine AW.ret ?_
        exact EndP.of (.inr rfl) [] (P := ((bxB k r rn m s sn) = false)) zk (by first | exact bx_t zo (by assumption) (vm_t zo zo (fun j hj => ha j zo)) (by assumption) | exact bx_k zo | exact bx_m (vm_s zo) | exact bx_m (vm_f (k := i) zo zl10b5) | exact bx_r (by assumption) | exact bx_s (by assumption))
      ·refine y9r [.no, .no, .call [] (bV false) [] 0 [] none, .no, .no, .no] (Fun 92 [.agg [.d (dl r rn)], iE 1000, iE 768000] (toG []) 0 (bV false) (toG []) 0) [(2, bV false)] [] 1 (by have h0 := (Z_within r rn 1000 768000 zo zo); rw [hx9] at h0; exact h0) ?_
       refine AW.ret ?_
       exact EndP.of (.inr rfl) [] (P := ((bxB k r rn m s sn) = false)) zk (by first | exact bx_t zo (by assumption) (vm_t zo zo (fun j hj => ha j zo)) (by assumption) | exact bx_k zo | exact bx_m (vm_s zo) | exact bx_m (vm_f (k := i) zo zl10b5) | exact bx_r (by assumption) | exact bx_s (by assumption))
theorem Z_rValid (bs : List Bx) (n : Nat) (hn : List.length bs = n) (h1 : n ≤ 1000000) (hW : BsW bs) : Fun 19 [.c (.d (D.sl (bxD bs) n))] (toG []) 0 (.e (.c (.d (D.lit (.bool (vbB bs)))))) (toG []) 0 := by
 refine Fun.mk (n := 18) Tryz.func19 rfl rfl (Nat.le_of_ble_eq_true rfl) ?_
 intro cx hcx
 refine y9r [.no] True [(0, .e (.c (.d (D.sl (bxD bs) n))))] [] 0 trivial ?_
 refine AW.seq ?_
 refine y9s [.no, .no, .no] True [(0, .e (.c (.d (D.sl (bxD bs) n)))), (5, .e (.c (.d (D.sl (bxD bs) n)))), (6, uV n), (7, iV 0)] trivial ?_
 refine AW.block ?_
 refine AW.loopE 0 hcx (fun (x : {x : Nat // match x with | i => (i ≤ n) ∧ (∀ j, j < i → vbE bs j = true)}) => match x with | ⟨i, _⟩ => (⟨[(0, .e (.c (.d (D.sl (bxD bs) n)))), (5, .e (.c (.d (D.sl (bxD bs) n)))), (6, uV n), (7, uV i)], [], 0⟩ : ES)) (fun x => match x with | ⟨i, _⟩ => n - i) ⟨(0 : Nat), ⟨zl10b6, (fun j hj => absurd hj (Nat.not_lt_zero j))⟩⟩ [] (P := (q9d (bxD bs)) ∧ (q9n n) ∧ (q9d (bxD bs)) ∧ (q9n n) ∧ (q9i (n : Int)) ∧ (q9i 0)) zk ⟨rfl, rfl, rfl, rfl, rfl, rfl⟩ ?_
 rintro ⟨i, hinv0⟩
 obtain ⟨hi, ha⟩ : (i ≤ n) ∧ (∀ j, j < i → vbE bs j = true) := hinv0
 refine AW.es (l := [(0, .e (.c (.d (D.sl (bxD bs) n)))), (5, .e (.c (.d (D.sl (bxD bs) n)))), (6, uV n), (7, uV i)]) (g := []) (nx := 0) rfl rfl rfl ?_
 by_cases hx1 : (((i : Nat) : Int) < ((n : Nat) : Int))
 ·refine y9r [.b true] (((i : Int) < (n : Int))) [(0, .e (.c (.d (D.sl (bxD bs) n)))), (5, .e (.c (.d (D.sl (bxD bs) n)))), (6, uV n), (7, uV i), (8, bV true)] [] 0 zo ?_
  refine AW.seq ?_
  refine zts ?_
  refine AW.seq ?_
  refine AW.block ?_
  obtain ⟨hx2, hx3, hx4, hx5, hx6⟩ := BsW.at (show BsW bs by with_reducible assumption) (i)
  refine y9r [.n i, .ds [iD (qbK bs i), dl (qbR bs i) (qbN bs i), D.sl (msD (qbM bs i)) (List.length (qbM bs i)), dl (qbS bs i) (qbT bs i)], .no, .no] ((q9i (i : Int)) ∧ (i < n) ∧ (List.take 4 (List.drop (i * 4) (bxD bs)) = [iD (qbK bs i), dl (qbR bs i) (qbN bs i), D.sl (msD (qbM bs i)) (List.length (qbM bs i)), dl (qbS bs i) (qbT bs i)]) ∧ (([iD (qbK bs i), dl (qbR bs i) (qbN bs i), D.sl (msD (qbM bs i)) (List.length (qbM bs i)), dl (qbS bs i) (qbT bs i)] : List D).length = 4)) [(0, .e (.c (.d (D.sl (bxD bs) n)))), (4, rV 0 0), (5, .e (.c (.d (D.sl (bxD bs) n)))), (6, uV n), (7, uV i)] [(0, some (59, .ds [iD (qbK bs i), dl (qbR bs i) (qbN bs i), D.sl (msD (qbM bs i)) (List.length (qbM bs i)), dl (qbS bs i) (qbT bs i)]))] 1 ⟨rfl, zo, (bx_at zl10b3), rfl⟩ ?_
  rcases Bool.eq_false_or_eq_true (bxB (qbK bs i) (qbR bs i) (qbN bs i) (qbM bs i) (qbS bs i) (qbT bs i)) with hx7 | hx7
  ·refine y9r [.no, .call [] (bV true) [] 0 [] none, .no] (Fun 47 [.agg [iC (qbK bs i), .d (dl (qbR bs i) (qbN bs i)), .d (D.sl (msD (qbM bs i)) (List.length (qbM bs i))), .d (dl (qbS bs i) (qbT bs i))]] (toG []) 0 (bV true) (toG []) 0) [(0, .e (.c (.d (D.sl (bxD bs) n)))), (5, .e (.c (.d (D.sl (bxD bs) n)))), (6, uV n), (7, uV i), (13, bV false)] [] 1 (by have h0 := (Z_box (qbK bs i) (qbR bs i) (qbN bs i) (qbM bs i) (List.length (qbM bs i)) (qbS bs i) (qbT bs i) zl10b2 zl10b2 rfl zl10b2 zl10b2 zl10b2 (BsW.ms (show BsW bs by with_reducible assumption) _)); rw [hx7] at h0; exact h0) ?_
   refine zfs ?_
   refine y9h [.w, .no] ((-9223372036854775808) ≤ ((i : Int) + 1) ∧ ((i : Int) + 1) ≤ 9223372036854775807) [(0, .e (.c (.d (D.sl (bxD bs) n)))), (5, .e (.c (.d (D.sl (bxD bs) n)))), (6, uV n), (7, iV (↑i + 1))] ⟨by omega, by omega⟩ ?_
   exact Rd.of ⟨((i + 1) : Nat), ⟨zl10b6, (fun j hj => (Nat.lt_succ_iff_lt_or_eq.1 hj).elim (ha j) (fun e9 => by subst e9; assumption))⟩⟩ [] (P := (q9d (bxD bs)) ∧ (q9n n) ∧ (q9d (bxD bs)) ∧ (q9n n) ∧ (q9i (n : Int)) ∧ (((((i + 1) : Nat) : Int) : Int) = ((i : Int) + 1))) zk ⟨rfl, rfl, rfl, rfl, rfl, (by first | rfl | omega | assumption | (simp; done) | (simp; omega))⟩ (show n - (i + 1) < n - i from (by first | omega | (show _ < _; simp; omega)))
  ·refine y9r [.no, .call [] (bV false) [] 0 [] none, .no] (Fun 47 [.agg [iC (qbK bs i), .d (dl (qbR bs i) (qbN bs i)), .d (D.sl (msD (qbM bs i)) (List.length (qbM bs i))), .d (dl (qbS bs i) (qbT bs i))]] (toG []) 0 (bV false) (toG []) 0) [(0, .e (.c (.d (D.sl (bxD bs) n)))), (5, .e (.c (.d (D.sl (bxD bs) n)))), (6, uV n), (7, uV i), (13, bV true)] [] 1 (by have h0 := (Z_box (qbK bs i) (qbR bs i) (qbN bs i) (qbM bs i) (List.length (qbM bs i)) (qbS bs i) (qbT bs i) zl10b2 zl10b2 rfl zl10b2 zl10b2 zl10b2 (BsW.ms (show BsW bs by with_reducible assumption) _)); rw [hx7] at h0; exact h0) ?_
   refine zt ?_
   refine y9s [.no] True [(2, bV false)] trivial ?_
   refine AW.ret ?_
   exact EndP.of (.inr rfl) [] (P := ((vbB bs) = false)) zk (by first | exact vb_t zo (fun j hj => ha j zo) | exact vb_s zo | exact vb_f (k := i) zo (by assumption))
 ·refine y9r [.b false] (¬ ((i : Int) < (n : Int))) [(0, .e (.c (.d (D.sl (bxD bs) n)))), (5, .e (.c (.d (D.sl (bxD bs) n)))), (6, uV n), (7, uV i), (8, bV false)] [] 0 zo ?_
  refine AW.seq ?_
  refine zf ?_
  refine AW.exit ?_
  by_cases hx8 : (((n : Nat) : Int) ≤ 64)
  ·refine y9r [.no, .no, .b true, .no] (((n : Int) ≤ 64)) [(2, bV true)] [] 0 zo ?_
   refine AW.ret ?_
   exact EndP.of (.inr rfl) [] (P := ((vbB bs) = true)) zk (by first | exact vb_t zo (fun j hj => ha j zo) | exact vb_s zo | exact vb_f (k := i) zo (by assumption))
  ·refine y9r [.no, .no, .b false, .no] (¬ ((n : Int) ≤ 64)) [(2, bV false)] [] 0 zo ?_
   refine AW.ret ?_
   exact EndP.of (.inr rfl) [] (P := ((vbB bs) = false)) zk (by first | exact vb_t zo (fun j hj => ha j zo) | exact vb_s zo | exact vb_f (k := i) zo (by assumption))
end Go.Proofs.YtcfmjpnffembpaaGreat
