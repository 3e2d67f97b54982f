/- Merged texts. -/
import Derived.Test.YtbicifcgghmhaaaGreatZL10A
import Derived.Test.YtbicifcgghmhaaaGreatZL09C
namespace Go.Proofs.YtbicifcgghmhaaaGreat
open Go.ChangeShapes Go.WideShapes Go.ChangeAt Go.RowKit
set_option linter.unusedVariables false
set_option linter.unusedSimpArgs false
/-! chapter 10: maps and boxes as data -/
set_option maxHeartbeats 4000000
set_option maxRecDepth 100000
def kI (xs : List (List Int)) : List D := xs.map fun l => D.sl (dI .i64 l) l.length
theorem qA (xs : List (List Int)) : List.length (kI xs) = List.length xs := by unfold kI; simp
theorem rJ (xs : List (List Int)) (l : List Int) (n : Nat) (h : l.length = n) : kI xs ++ [D.sl (dI .i64 l) n] = kI (xs ++ [l]) := by subst h; unfold kI; simp
theorem a7 (xs : List (List Int)) (i : Nat) (h : i < xs.length) : (List.drop i (kI xs))[0]? = some (D.sl (dI .i64 (List.getD xs i [])) (List.getD xs i []).length) := by
 unfold kI
 rw [List.getElem?_drop, Nat.add_zero, List.getElem?_map, List.getElem?_eq_getElem h, List.getD_eq_getElem?_getD, List.getElem?_eq_getElem h]; rfl
theorem wE (xs : List (List Int)) (n : Nat) : List.take (n * 1) (List.drop (0 * 1) (kI xs)) = kI (List.take n xs) := by unfold kI; simp [List.map_take]
def MsW (xs : List (List Int)) : Prop := ∀ l ∈ xs, List.length l ≤ 1000000
theorem MsW.at {xs : List (List Int)} (h : MsW xs) (i : Nat) : List.length (List.getD xs i []) ≤ 1000000 := by
 rw [List.getD_eq_getElem?_getD]
 cases e : xs[i]? with
 | none => exact Nat.zero_le _
 | some l => exact h l (List.mem_of_getElem? e)
theorem MsW.nil : MsW [] := fun l h => by cases h
theorem MsW.snoc {xs : List (List Int)} {l : List Int} (h : MsW xs) (hl : List.length l ≤ 1000000) : MsW (xs ++ [l]) := fun m hm => (List.mem_append.1 hm).elim (h m) fun hm => by
 rw [List.mem_singleton.1 hm]; exact hl
theorem MsW.take {xs : List (List Int)} (h : MsW xs) (n : Nat) : MsW (List.take n xs) := fun m hm => h m (List.mem_of_mem_take hm)
def gM (xs : List (List Int)) (m : List Int) : Bool := decide (m ∈ xs)
theorem v4s {xs : List (List Int)} {m : List Int} {k : Nat} (hk : k < xs.length) (h : aI (List.getD xs k []) m = true) : gM xs m = true := by
 have e : List.getD xs k [] = xs[k] := by rw [List.getD_eq_getElem?_getD, List.getElem?_eq_getElem hk]; rfl
 have h1 := k4t h
 rw [e] at h1
 exact decide_eq_true (h1 ▸ List.getElem_mem hk)
theorem v4t {xs : List (List Int)} {m : List Int} (h : ∀ j, j < xs.length → aI (List.getD xs j []) m = false) : gM xs m = false := by
 refine decide_eq_false fun hm => ?_
 obtain ⟨j, hj, e⟩ := List.mem_iff_getElem.1 hm
 have h1 := k4r (h j hj)
 have e1 : List.getD xs j [] = xs[j] := by rw [List.getD_eq_getElem?_getD, List.getElem?_eq_getElem hj]; rfl
 exact h1 (by rw [e1, e])
def vmE (xs : List (List Int)) (i : Nat) : Bool := tK (List.getD xs i []) (List.getD xs i []).length && !(gM (List.take i xs) (List.getD xs i []))
def l5 (xs : List (List Int)) : Bool := decide (1 ≤ xs.length ∧ xs.length ≤ 16 ∧ ∀ i, i < xs.length → vmE xs i = true)
theorem u8s {xs : List (List Int)} (h1 : 1 ≤ xs.length) (h2 : xs.length ≤ 16) (h : ∀ i, i < xs.length → vmE xs i = true) : l5 xs = true := decide_eq_true ⟨h1, h2, h⟩
theorem u8u {xs : List (List Int)} {k : Nat} (hk : k < xs.length) (h : vmE xs k = false) : l5 xs = false := decide_eq_false fun h1 => by
 have := h1.2.2 k hk; rw [h] at this; cases this
theorem u8t {xs : List (List Int)} (h : xs.length < 1 ∨ 16 < xs.length) : l5 xs = false := decide_eq_false fun h1 => by omega
theorem u34 {xs : List (List Int)} {i : Nat} (h1 : tK (List.getD xs i []) (List.getD xs i []).length = true) (h2 : gM (List.take i xs) (List.getD xs i []) = false) : vmE xs i = true := by unfold vmE; rw [h1, h2]; rfl
theorem u8w {xs : List (List Int)} {i : Nat} (h1 : tK (List.getD xs i []) (List.getD xs i []).length = false) : vmE xs i = false := by unfold vmE; rw [h1]; rfl
theorem u8v {xs : List (List Int)} {i : Nat} (h2 : gM (List.take i xs) (List.getD xs i []) = true) : vmE xs i = false := by unfold vmE; rw [h2]; cases tK (List.getD xs i []) (List.getD xs i []).length <;> rfl
def eA (l : List Int) (n : Nat) (lo hi : Int) : Bool := eB l n && decide (1 ≤ n ∧ lo ≤ List.getD l 0 0 ∧ List.getD l ((n - 1) * 2 + 1) 0 ≤ hi)
theorem k4c {l : List Int} {n : Nat} {lo hi : Int} (h : eB l n = true) (h2 : 1 ≤ n ∧ lo ≤ List.getD l 0 0 ∧ List.getD l ((n - 1) * 2 + 1) 0 ≤ hi) : eA l n lo hi = true := by unfold eA; rw [h, decide_eq_true h2]; rfl
theorem v34 {l : List Int} {n : Nat} {lo hi : Int} (h : eB l n = false) : eA l n lo hi = false := by unfold eA; rw [h]; rfl
theorem u5p {l : List Int} {n : Nat} {lo hi : Int} (h2 : ¬ (1 ≤ n ∧ lo ≤ List.getD l 0 0 ∧ List.getD l ((n - 1) * 2 + 1) 0 ≤ hi)) : eA l n lo hi = false := by unfold eA; rw [decide_eq_false h2]; cases eB l n <;> rfl
structure Bx where
 k : Int
 r : List Int
 rn : Nat
 m : List (List Int)
 s : List Int
 sn : Nat
def bx0 : Bx := ⟨0, [], 0, [], [], 0⟩
def bxR (b : Bx) : List D := [D.lit (.int .i64 b.k), D.sl (dI .i64 b.r) b.rn, D.sl (kI b.m) b.m.length, D.sl (dI .i64 b.s) b.sn]
def kP : List Bx → List D
 | [] => []
 | b :: r => bxR b ++ kP r
theorem k9 : ∀ xs : List Bx, List.length (kP xs) = List.length xs * 4
 | [] => rfl
 | b :: r => by show List.length (bxR b ++ kP r) = (List.length r + 1) * 4; rw [List.length_append, k9 r]; show 4 + _ = _; omega
theorem lO : ∀ a b : List Bx, kP (a ++ b) = kP a ++ kP b
 | [], _ => rfl
 | l :: r, b => by show bxR l ++ kP (r ++ b) = bxR l ++ kP r ++ kP b; rw [lO r b, List.append_assoc]
theorem xD : ∀ (i : Nat) (xs : List Bx), List.drop (i * 4) (kP xs) = kP (List.drop i xs)
 | 0, _ => rfl
 | i + 1, [] => by simp [kP]
 | i + 1, l :: r => by
  show List.drop ((i + 1) * 4) (bxR l ++ kP r) = kP (List.drop i r)
  rw [show (i + 1) * 4 = 4 + i * 4 by omega, ← List.drop_drop, ← xD i r]; rfl
def u9 (xs : List Bx) (i : Nat) : Bx := List.getD xs i bx0
def kR (xs : List Bx) (i : Nat) : Int := (u9 xs i).k
def k8 (xs : List Bx) (i : Nat) : List Int := (u9 xs i).r
def kU (xs : List Bx) (i : Nat) : Nat := (u9 xs i).rn
def kS (xs : List Bx) (i : Nat) : List (List Int) := (u9 xs i).m
def kZ (xs : List Bx) (i : Nat) : List Int := (u9 xs i).s
def kT (xs : List Bx) (i : Nat) : Nat := (u9 xs i).sn
theorem u2l {xs : List Bx} {i : Nat} (h : i < List.length xs) : kP (List.drop i xs) = bxR (u9 xs i) ++ kP (List.drop (i + 1) xs) := by
 have e : u9 xs i = xs[i] := by unfold u9; rw [List.getD_eq_getElem?_getD, List.getElem?_eq_getElem h]; rfl
 rw [List.drop_eq_getElem_cons h, e]; rfl
theorem vH {xs : List Bx} {i : Nat} (h : i < List.length xs) : List.take 4 (List.drop (i * 4) (kP xs)) = [D.lit (.int .i64 (kR xs i)), D.sl (dI .i64 (k8 xs i)) (kU xs i), D.sl (kI (kS xs i)) (List.length (kS xs i)), D.sl (dI .i64 (kZ xs i)) (kT xs i)] := by
 rw [xD, u2l h]; rfl
def zA (b : Bx) : Prop := List.length b.r = b.rn * 2 ∧ List.length b.s = b.sn * 2 ∧ b.rn ≤ 1000000 ∧ b.sn ≤ 1000000 ∧ List.length b.m ≤ 1000000 ∧ MsW b.m
def BsW (xs : List Bx) : Prop := ∀ b ∈ xs, zA b
theorem v1u : zA bx0 := ⟨rfl, rfl, Nat.zero_le _, Nat.zero_le _, Nat.zero_le _, MsW.nil⟩
theorem BsW.get {xs : List Bx} (h : BsW xs) (i : Nat) : zA (u9 xs i) := by
 unfold u9
 rw [List.getD_eq_getElem?_getD]
 cases e : xs[i]? with
 | none => exact v1u
 | some l => exact h l (List.mem_of_getElem? e)
theorem BsW.at {xs : List Bx} (h : BsW xs) (i : Nat) : List.length (k8 xs i) = kU xs i * 2 ∧ List.length (kZ xs i) = kT xs i * 2 ∧ kU xs i ≤ 1000000 ∧ kT xs i ≤ 1000000 ∧ List.length (kS xs i) ≤ 1000000 := by
 have h1 := h.get i
 exact ⟨h1.1, h1.2.1, h1.2.2.1, h1.2.2.2.1, h1.2.2.2.2.1⟩
theorem BsW.ms {xs : List Bx} (h : BsW xs) (i : Nat) : MsW (kS xs i) := (h.get i).2.2.2.2.2
theorem BsW.take {xs : List Bx} (h : BsW xs) (n : Nat) : BsW (List.take n xs) := fun m hm => h m (List.mem_of_mem_take hm)
theorem BsW.drop {xs : List Bx} (h : BsW xs) (n : Nat) : BsW (List.drop n xs) := fun m hm => h m (List.mem_of_mem_drop hm)
theorem BsW.app {xs ys : List Bx} (h : BsW xs) (h2 : BsW ys) : BsW (xs ++ ys) := fun m hm => (List.mem_append.1 hm).elim (h m) (h2 m)
theorem BsW.nil : BsW [] := fun l h => by cases h
theorem BsW.one {b : Bx} (h : zA b) : BsW [b] := fun m hm => by rw [List.mem_singleton.1 hm]; exact h
def iP (k : Int) : Int := qE .andNot .i64 k 254
def eC (k : Int) : Int := qE .and .i64 k 1
def gE (k : Int) (q : Nat) : Bool := decide (1 ≤ q ∧ q ≤ 7 ∧ eC (k / ((2 ^ q : Nat) : Int)) = 1)
def eY (k : Int) (r : List Int) (rn : Nat) (m : List (List Int)) (s : List Int) (sn : Nat) : Bool := decide (¬ k = 0 ∧ iP k = 0) && (eA r rn 1000 768000 && (l5 m && eA s sn 1 65536))
def vbE (xs : List Bx) (i : Nat) : Bool := eY (kR xs i) (k8 xs i) (kU xs i) (kS xs i) (kZ xs i) (kT xs i)
def bY (xs : List Bx) : Bool := decide (xs.length ≤ 64 ∧ ∀ i, i < xs.length → vbE xs i = true)
theorem u5r {xs : List Bx} (h2 : xs.length ≤ 64) (h : ∀ i, i < xs.length → vbE xs i = true) : bY xs = true := decide_eq_true ⟨h2, h⟩
theorem v39 {xs : List Bx} {k : Nat} (hk : k < xs.length) (h : vbE xs k = false) : bY xs = false := decide_eq_false fun h1 => by
 have := h1.2 k hk; rw [h] at this; cases this
theorem v38 {xs : List Bx} (h : 64 < xs.length) : bY xs = false := decide_eq_false fun h1 => by omega
theorem k3u {k : Int} {r : List Int} {rn : Nat} {m : List (List Int)} {s : List Int} {sn : Nat} (h1 : ¬ k = 0 ∧ iP k = 0) (h2 : eA r rn 1000 768000 = true) (h3 : l5 m = true) (h4 : eA s sn 1 65536 = true) : eY k r rn m s sn = true := by
 unfold eY; rw [h2, h3, h4, decide_eq_true h1]; rfl
theorem v1s {k : Int} {r : List Int} {rn : Nat} {m : List (List Int)} {s : List Int} {sn : Nat} (h1 : ¬ (¬ k = 0 ∧ iP k = 0)) : eY k r rn m s sn = false := by
 unfold eY; rw [decide_eq_false h1]; rfl
theorem v56 {k : Int} {r : List Int} {rn : Nat} {m : List (List Int)} {s : List Int} {sn : Nat} (h2 : eA r rn 1000 768000 = false) : eY k r rn m s sn = false := by
 unfold eY; rw [h2, Bool.false_and, Bool.and_false]
theorem v57 {k : Int} {r : List Int} {rn : Nat} {m : List (List Int)} {s : List Int} {sn : Nat} (h3 : l5 m = false) : eY k r rn m s sn = false := by
 unfold eY; rw [h3, Bool.false_and, Bool.and_false, Bool.and_false]
theorem v55 {k : Int} {r : List Int} {rn : Nat} {m : List (List Int)} {s : List Int} {sn : Nat} (h4 : eA s sn 1 65536 = false) : eY k r rn m s sn = false := by
 unfold eY; rw [h4, Bool.and_false, Bool.and_false, Bool.and_false]
def kK (xs : List Bx) : List Bx := if bY xs = true then xs else []
theorem k2e {xs : List Bx} (h : bY xs = true) : kK xs = xs := if_pos h
theorem u4v {xs : List Bx} (h : bY xs = false) : kK xs = [] := if_neg (by rw [h]; decide)
theorem dL {xs : List Bx} (h : BsW xs) : BsW (kK xs) := by unfold kK; split; exact h; exact BsW.nil
theorem jK (xs : List Bx) : List.length (kK xs) ≤ List.length xs := by unfold kK; split; exact Nat.le_refl _; exact Nat.zero_le _
theorem lW {p : Prop} (h : p := by (rw [List.drop_drop]; exact yG _ _ _ (by omega))) : p := h
theorem jL (l : List Int) (n : Nat) (lo hi : Int) (hl : List.length l = n * 2) (hb : n ≤ 1000000) : Fun 128 [.agg [.d (D.sl (dI .i64 l) n)], iE lo, iE hi] (kF []) 0 (uJ (D.lit (.bool (eA l n lo hi)))) (kF []) 0 := by
 refine Fun.mk (n := 37) Tryz.func128 rfl rfl (Nat.le_of_ble_eq_true rfl) ?_
 intro cx hcx
 refine kH [.no, .no] True [(1, iV lo), (2, iV hi), (3, rV 0 0)] [(0, some (60, .ds [dl l n]))] 1 trivial ?_
 refine kQ [.no, .no, .no, .w, .no] (uZ ((n : Int) - 1)) [(1, iV lo), (2, iV hi), (3, rV 0 0), (7, iV (↑n - 1))] ⟨by omega, by omega⟩ ?_
 by_cases hx1 : ((0 : Int) ≤ (((n : Nat) : Int) - 1))
 ·rcases Bool.eq_false_or_eq_true (eB l n) with hx2 | hx2
  ·by_cases hx3 : (lo ≤ (List.getD l 0 0))
   ·by_cases hx4 : ((List.getD l (((n - 1) * 2) + 1) 0) ≤ hi)
    ·refine kH (.no :: .b true :: .no :: .no :: .call [] (bV true) [] 0 [] none :: qD 4 (.n 0 :: .no :: .d (D.lit (.int .i64 (List.getD l 0 0))) :: .no :: .b true :: qD 5 [.n (n - 1), .no, .d (D.lit (.int .i64 (List.getD l (((n - 1) * 2) + 1) 0))), .no, .b true, .no, .no])) ((((0 : Int) ≤ ((n : Int) - 1))) ∧ (Fun 155 [.agg [.d (dl l n)]] (kF []) 0 (bV true) (kF []) 0) ∧ (kM 0) ∧ ((0 : Nat) < n) ∧ ((List.drop 0 (List.drop 0 (dI .i64 l)))[0]? = some (D.lit (.int .i64 (List.getD l 0 0)))) ∧ ((lo ≤ (List.getD l 0 0))) ∧ ((((n : Int) - 1) : Int) = (((n - 1) : Nat) : Int)) ∧ ((n - 1) < n) ∧ ((List.drop 1 (List.drop ((n - 1) * 2) (dI .i64 l)))[0]? = some (D.lit (.int .i64 (List.getD l (((n - 1) * 2) + 1) 0)))) ∧ (((List.getD l (((n - 1) * 2) + 1) 0) ≤ hi))) [(6, bV true)] [] 1 ⟨zo, (by have h0 := (fP l n zo zo); rw [hx2] at h0; exact h0), rfl, zo, lW, zo, zo, zo, lW, zo⟩ ?_
     refine AW.ret ?_
     exact kA (.inr rfl) [] (P := ((eA l n lo hi) = true)) zk (by exact k4c (by assumption) zo)
    ·refine kH (.no :: .b true :: .no :: .no :: .call [] (bV true) [] 0 [] none :: qD 4 (.n 0 :: .no :: .d (D.lit (.int .i64 (List.getD l 0 0))) :: .no :: .b true :: qD 5 [.n (n - 1), .no, .d (D.lit (.int .i64 (List.getD l (((n - 1) * 2) + 1) 0))), .no, .b false, .no, .no])) ((((0 : Int) ≤ ((n : Int) - 1))) ∧ (Fun 155 [.agg [.d (dl l n)]] (kF []) 0 (bV true) (kF []) 0) ∧ (kM 0) ∧ ((0 : Nat) < n) ∧ ((List.drop 0 (List.drop 0 (dI .i64 l)))[0]? = some (D.lit (.int .i64 (List.getD l 0 0)))) ∧ ((lo ≤ (List.getD l 0 0))) ∧ ((((n : Int) - 1) : Int) = (((n - 1) : Nat) : Int)) ∧ ((n - 1) < n) ∧ ((List.drop 1 (List.drop ((n - 1) * 2) (dI .i64 l)))[0]? = some (D.lit (.int .i64 (List.getD l (((n - 1) * 2) + 1) 0)))) ∧ (¬ ((List.getD l (((n - 1) * 2) + 1) 0) ≤ hi))) [(6, bV false)] [] 1 ⟨zo, (by have h0 := (fP l n zo zo); rw [hx2] at h0; exact h0), rfl, zo, lW, zo, zo, zo, lW, zo⟩ ?_
     refine AW.ret ?_
     exact kA (.inr rfl) [] (P := ((eA l n lo hi) = false)) zk (by exact u5p zo)
   ·refine kH (.no :: .b true :: .no :: .no :: .call [] (bV true) [] 0 [] none :: qD 4 (.n 0 :: .no :: .d (D.lit (.int .i64 (List.getD l 0 0))) :: .no :: .b false :: qD 4 [])) ((((0 : Int) ≤ ((n : Int) - 1))) ∧ (Fun 155 [.agg [.d (dl l n)]] (kF []) 0 (bV true) (kF []) 0) ∧ (kM 0) ∧ ((0 : Nat) < n) ∧ ((List.drop 0 (List.drop 0 (dI .i64 l)))[0]? = some (D.lit (.int .i64 (List.getD l 0 0)))) ∧ (¬ (lo ≤ (List.getD l 0 0)))) [(6, bV false)] [] 1 ⟨zo, (by have h0 := (fP l n zo zo); rw [hx2] at h0; exact h0), rfl, zo, lW, zo⟩ ?_
    refine AW.ret ?_
    exact kA (.inr rfl) [] (P := ((eA l n lo hi) = false)) zk (by exact u5p zo)
  ·refine kH (.no :: .b true :: .no :: .no :: .call [] (bV false) [] 0 [] none :: qD 6 []) ((((0 : Int) ≤ ((n : Int) - 1))) ∧ (Fun 155 [.agg [.d (dl l n)]] (kF []) 0 (bV false) (kF []) 0)) [(6, bV false)] [] 1 ⟨zo, (by have h0 := (fP l n zo zo); rw [hx2] at h0; exact h0)⟩ ?_
   refine AW.ret ?_
   exact kA (.inr rfl) [] (P := ((eA l n lo hi) = false)) zk (by exact v34 (by assumption))
 ·refine kH (.no :: .b false :: qD 7 []) (¬ ((0 : Int) ≤ ((n : Int) - 1))) [(6, bV false)] [] 1 zo ?_
  refine AW.ret ?_
  exact kA (.inr rfl) [] (P := ((eA l n lo hi) = false)) zk (by exact u5p zo)
end Go.Proofs.YtbicifcgghmhaaaGreat
namespace Go.Proofs.YtbicifcgghmhaaaGreat
open Go.ChangeShapes Go.WideShapes Go.ChangeAt Go.RowKit
set_option linter.unusedVariables false
set_option linter.unusedSimpArgs false
/-! chapter 10: the best choice -/
theorem k1l (n : Int) : ∀ (s : List Sp) (o : Option Int), (∀ p ∈ s, dA p) → (∀ v, o = some v → 0 ≤ v ∧ v ≤ 2147483647) → ∀ v, nrP n s o = some v → 0 ≤ v ∧ v ≤ 2147483647
 | [], o, _, h => h
 | p :: s, o, hs, h => by
  have hp := hs p (List.mem_cons_self ..)
  have hc : 0 ≤ gJ n p ∧ gJ n p ≤ 2147483647 := by
   unfold dA at hp
   show 0 ≤ max p.1 (min p.2 n) ∧ max p.1 (min p.2 n) ≤ 2147483647
   omega
  refine k1l n s _ (fun q hq => hs q (List.mem_cons_of_mem _ hq)) ?_
  intro v hv
  cases o with
  | none => cases hv; exact hc
  | some u =>
   have hu := h u rfl
   dsimp only at hv
   split at hv
   ·cases hv; exact hc
   ·cases hv; exact hu
theorem jB {z : Int} {l : List Int} {n : Nat} (hl : l.length = n * 2) : 0 ≤ y7 z (kB l n) ∧ y7 z (kB l n) ≤ 2147483647 := by
 unfold y7
 cases e : nrP z (qN (kB l n)) none with
 | none => exact ⟨Int.le_refl _, by decide⟩
 | some v => exact k1l z _ none (cS (aY hl)) (fun v h => by cases h) v e
def bS (b w : Int) : Nat → Int
 | 0 => 0
 | j + 1 => if gE b (j + 1) = true ∧ (bS b w j = 0 ∨ cJ w ((j : Int) + 1) (bS b w j) < 0) then (j : Int) + 1 else bS b w j
theorem u2o {b w : Int} {j : Nat} {y x : Int} (h : bS b w j = y) (h1 : gE b (j + 1) = true) (h2 : y = 0 ∨ cJ w ((j : Int) + 1) y < 0) (hx : x = (j : Int) + 1) : bS b w (j + 1) = x := by
 subst h; rw [hx]; exact if_pos ⟨h1, h2⟩
theorem v24 {b w : Int} {j : Nat} {y : Int} (h : bS b w j = y) (h1 : gE b (j + 1) = false) : bS b w (j + 1) = y := by
 rw [← h]; exact if_neg fun e => by rw [h1] at e; cases e.1
theorem v23 {b w : Int} {j : Nat} {y : Int} (h : bS b w j = y) (h2 : ¬ y = 0) (h3 : ¬ cJ w ((j : Int) + 1) y < 0) : bS b w (j + 1) = y := by
 subst h; exact if_neg fun e => e.2.elim h2 h3
theorem sR (b w : Int) : ∀ j, 0 ≤ bS b w j ∧ bS b w j ≤ j
 | 0 => ⟨Int.le_refl _, Int.le_refl _⟩
 | j + 1 => by
  have := sR b w j
  rw [bS]; split <;> omega
def eD (w : List Int) (ms : List (List Int)) : Nat → List Int
 | 0 => []
 | j + 1 => if j = 0 ∨ cI w (List.getD ms j []) (eD w ms j) < 0 then List.getD ms j [] else eD w ms j
theorem v22 {w : List Int} {ms : List (List Int)} {x : List Int} (hx : x = List.getD ms 0 []) : eD w ms 1 = x := by
 rw [hx]; exact if_pos (.inl rfl)
theorem v20 {w : List Int} {ms : List (List Int)} {j : Nat} {u x : List Int} (h : eD w ms j = u) (h2 : cI w (List.getD ms j []) u < 0) (hx : x = List.getD ms j []) : eD w ms (j + 1) = x := by
 subst h; rw [hx]; exact if_pos (.inr h2)
theorem v21 {w : List Int} {ms : List (List Int)} {j : Nat} {u : List Int} (h : eD w ms j = u) (h1 : ¬ j = 0) (h2 : ¬ cI w (List.getD ms j []) u < 0) : eD w ms (j + 1) = u := by
 subst h; exact if_neg fun e => e.elim h1 h2
theorem k9d {w : List Int} {ms : List (List Int)} (h : MsW ms) : ∀ j, List.length (eD w ms j) ≤ 1000000
 | 0 => Nat.zero_le _
 | j + 1 => by
  rw [eD]; split
  ·exact h.at j
  ·exact k9d h j
theorem sN {xs : List Bx} {i : Nat} (h : i < List.length (kK xs)) : 1 ≤ List.length (kS (kK xs) i) := by
 cases e : bY xs with
 | false => rw [u4v e] at h; exact absurd h (Nat.not_lt_zero _)
 | true =>
  rw [k2e e] at h ⊢
  have h1 := (of_decide_eq_true e).2 i h
  unfold vbE eY at h1
  rw [Bool.and_eq_true, Bool.and_eq_true, Bool.and_eq_true] at h1
  exact (of_decide_eq_true h1.2.2.1).1
end Go.Proofs.YtbicifcgghmhaaaGreat
namespace Go.Proofs.YtbicifcgghmhaaaGreat
open Go.ChangeShapes Go.WideShapes Go.ChangeAt Go.RowKit
set_option linter.unusedVariables false
set_option linter.unusedSimpArgs false
def bxC (b : Bx) (w : Co) : Co := ⟨bS b.k w.k 7, y7 w.r (kB b.r b.rn), eD w.m b.m b.m.length, y7 w.s (kB b.s b.sn)⟩
def o7 (bs : List Bx) (w : Co) : Nat → Co
 | 0 => ⟨0, 0, [], 0⟩
 | j + 1 => if j = 0 ∨ coV w (bxC (u9 bs j) w) (o7 bs w j) < 0 then bxC (u9 bs j) w else o7 bs w j
def BE (bs : List Bx) (wk wr : Int) (w : List Int) (wz : Int) (i : Nat) (yk yr : Int) (u : List Int) (yz : Int) : Prop := o7 bs ⟨wk, wr, w, wz⟩ i = ⟨yk, yr, u, yz⟩
theorem BE.first {bs : List Bx} {wk wr : Int} {w : List Int} {wz : Int} {yk yr : Int} {u : List Int} {yz : Int} (h1 : yk = bS (kR bs 0) wk 7) (h2 : yr = y7 wr (kB (k8 bs 0) (kU bs 0))) (h3 : u = eD w (kS bs 0) (List.length (kS bs 0))) (h4 : yz = y7 wz (kB (kZ bs 0) (kT bs 0))) : BE bs wk wr w wz 1 yk yr u yz := by
 subst h1; subst h2; subst h3; subst h4
 exact if_pos (.inl rfl)
theorem BE.y {bs : List Bx} {wk wr : Int} {w : List Int} {wz : Int} {j : Nat} {yk yr : Int} {u : List Int} {yz xk xr : Int} {x : List Int} {xz : Int} (h : BE bs wk wr w wz j yk yr u yz) (h1 : xk = bS (kR bs j) wk 7) (h2 : xr = y7 wr (kB (k8 bs j) (kU bs j))) (h3 : x = eD w (kS bs j) (List.length (kS bs j))) (h4 : xz = y7 wz (kB (kZ bs j) (kT bs j))) (hc : o3 wk wr wz xk xr xz yk yr yz w x u < 0) : BE bs wk wr w wz (j + 1) xk xr x xz := by
 subst h1; subst h2; subst h3; subst h4
 have h : o7 bs ⟨wk, wr, w, wz⟩ j = ⟨yk, yr, u, yz⟩ := h
 exact if_pos (.inr (by rw [h]; exact hc))
theorem BE.n {bs : List Bx} {wk wr : Int} {w : List Int} {wz : Int} {j : Nat} {yk yr : Int} {u : List Int} {yz : Int} (h : BE bs wk wr w wz j yk yr u yz) (h0 : ¬ j = 0) (hc : ¬ o3 wk wr wz (bS (kR bs j) wk 7) (y7 wr (kB (k8 bs j) (kU bs j))) (y7 wz (kB (kZ bs j) (kT bs j))) yk yr yz w (eD w (kS bs j) (List.length (kS bs j))) u < 0) : BE bs wk wr w wz (j + 1) yk yr u yz := by
 have h' : o7 bs ⟨wk, wr, w, wz⟩ j = ⟨yk, yr, u, yz⟩ := h
 show o7 bs ⟨wk, wr, w, wz⟩ (j + 1) = _
 rw [o7, if_neg fun e => e.elim h0 fun e1 => hc (by rw [h'] at e1; exact e1)]
 exact h'
def beL (bs : List Bx) (wk wr : Int) (w : List Int) (wz : Int) : Co := o7 (kK bs) ⟨wk, wr, w, wz⟩ (List.length (kK bs))
def nY (bs : List Bx) (wk wr : Int) (w : List Int) (wz : Int) : Int := (beL bs wk wr w wz).k
def nX (bs : List Bx) (wk wr : Int) (w : List Int) (wz : Int) : Int := (beL bs wk wr w wz).r
def beM (bs : List Bx) (wk wr : Int) (w : List Int) (wz : Int) : List Int := (beL bs wk wr w wz).m
def nW (bs : List Bx) (wk wr : Int) (w : List Int) (wz : Int) : Int := (beL bs wk wr w wz).s
theorem BE.fin {bs : List Bx} {wk wr : Int} {w : List Int} {wz : Int} {j : Nat} {yk yr : Int} {u : List Int} {yz : Int} (h : BE (kK bs) wk wr w wz j yk yr u yz) (hj : j = List.length (kK bs)) : nY bs wk wr w wz = yk ∧ nX bs wk wr w wz = yr ∧ beM bs wk wr w wz = u ∧ nW bs wk wr w wz = yz := by
 subst hj
 have h' : beL bs wk wr w wz = ⟨yk, yr, u, yz⟩ := h
 unfold nY nX beM nW; rw [h']; exact ⟨rfl, rfl, rfl, rfl⟩
def CoW (c : Co) : Prop := (0 ≤ c.k ∧ c.k ≤ 7) ∧ (0 ≤ c.r ∧ c.r ≤ 2147483647) ∧ (0 ≤ c.s ∧ c.s ≤ 2147483647) ∧ List.length c.m ≤ 1000000
theorem v1t {b : Bx} (h : zA b) (w : Co) : CoW (bxC b w) := ⟨sR _ _ _, jB h.1, jB h.2.1, k9d h.2.2.2.2.2 _⟩
theorem u4z {bs : List Bx} (h : BsW bs) (w : Co) : ∀ j, CoW (o7 bs w j)
 | 0 => ⟨⟨Int.le_refl 0, (by decide : (0 : Int) ≤ 7)⟩, ⟨Int.le_refl 0, (by decide : (0 : Int) ≤ 2147483647)⟩, ⟨Int.le_refl 0, (by decide : (0 : Int) ≤ 2147483647)⟩, Nat.zero_le _⟩
 | j + 1 => by
  rw [o7]; split
  ·exact v1t (h.get j) w
  ·exact u4z h w j
theorem k3v {bs : List Bx} (h : BsW bs) (wk wr : Int) (w : List Int) (wz : Int) : (0 ≤ nY bs wk wr w wz ∧ nY bs wk wr w wz ≤ 7) ∧ (0 ≤ nX bs wk wr w wz ∧ nX bs wk wr w wz ≤ 2147483647) ∧ (0 ≤ nW bs wk wr w wz ∧ nW bs wk wr w wz ≤ 2147483647) ∧ List.length (beM bs wk wr w wz) ≤ 1000000 := u4z (dL h) _ _
end Go.Proofs.YtbicifcgghmhaaaGreat
