/- Numbers in bytes, hashes. No statement is proved here. -/
import Derived.Test.YtdbjebdomdnbkaaZLBy
namespace Go.Proofs.Ytdbjebdomdnbkaa
open Go.ChangeShapes Go.WideShapes Go.ChangeAt Go.RowKit
open Int renaming eq_ofNat_of_zero_le → kj7, natCast_emod → kl2, toNat_natCast → kg9
open List renaming append_assoc → kb8, drop → ka7, getD → ka0, length → ka1, length_append → ka3, length_cons → kb1, length_drop → kb2, length_nil → kb5, length_replicate → kb6, length_set → kc2, length_take → kb3, replicate → ka5, take → ka2
open Nat renaming le_of_ble_eq_true → ka4, mod_eq_of_lt → kj6
set_option linter.unusedVariables false
set_option linter.unusedSimpArgs false
set_option maxHeartbeats 4000000
set_option maxRecDepth 100000
theorem wrap_u8 (x : Int) : IntKind.u8.wrap x = x % 256 := by simp [IntKind.wrap, IntKind.bits, IntKind.signed]
theorem or_natN {N a c i : Nat} (hc : c < 2 ^ i) (hs : a * 2 ^ i + c < 2 ^ N) : ((BitVec.ofInt N ((a * 2 ^ i : Nat) : Int)) ||| (BitVec.ofInt N (c : Int))).toNat = a * 2 ^ i + c := by
  have h1 : a * 2 ^ i < 2 ^ N := by omega
  have h2 : c < 2 ^ N := by omega
  rw [BitVec.toNat_or, BitVec.toNat_ofInt, BitVec.toNat_ofInt]
  have e1 : (((a * 2 ^ i : Nat) : Int) % (2 ^ N : Nat)).toNat = a * 2 ^ i := by
    rw [← kl2, kg9]; exact kj6 h1
  have e2 : ((c : Int) % (2 ^ N : Nat)).toNat = c := by
    rw [← kl2, kg9]; exact kj6 h2
  rw [e1, e2, ← Nat.shiftLeft_eq, ← Nat.shiftLeft_add_eq_or_of_lt hc]
theorem or_hiU {lim : Int} {k : IntKind} (hk : (k = .u16 ∧ lim = 65536) ∨ (k = .u64 ∧ lim = 18446744073709551616) ∨ (k = .u32 ∧ lim = 4294967296)) {a c : Int} {i : Nat} (p : Int) (hp : p = 2 ^ i) (ha : 0 ≤ a) (hc : 0 ≤ c ∧ c < p) (hs : a * p + c < lim) : qR .or k (a * p) c = a * p + c := by
  obtain ⟨a, rfl⟩ := kj7 ha
  obtain ⟨c, rfl⟩ := kj7 hc.1
  have e0 : (a : Int) * p = ((a * 2 ^ i : Nat) : Int) := by rw [hp]; simp
  rw [e0] at hs ⊢
  have hc2 : c < 2 ^ i := by have := hc.2; rw [hp] at this; exact_mod_cast this
  rcases hk with ⟨rfl, rfl⟩ | ⟨rfl, rfl⟩ | ⟨rfl, rfl⟩
  · have h9 := or_natN (N := 16) (a := a) hc2 (by omega)
    show IntKind.u16.wrap (((BitVec.ofInt 16 _) ||| (BitVec.ofInt 16 _)).toNat : Int) = _
    rw [h9, bS (by simp only [wV]; omega)]; simp
  · have h9 := or_natN (N := 64) (a := a) hc2 (by omega)
    show IntKind.u64.wrap (((BitVec.ofInt 64 _) ||| (BitVec.ofInt 64 _)).toNat : Int) = _
    rw [h9, bS (by simp only [wV]; omega)]; simp
  · have h9 := or_natN (N := 32) (a := a) hc2 (by omega)
    show IntKind.u32.wrap (((BitVec.ofInt 32 _) ||| (BitVec.ofInt 32 _)).toNat : Int) = _
    rw [h9, bS (by simp only [wV]; omega)]; simp
theorem bitsI_or_comm (k : IntKind) (x y : Int) : qR .or k x y = qR .or k y x := by
  show k.wrap ((BitVec.ofInt k.bits x) ||| (BitVec.ofInt k.bits y)).toNat = k.wrap ((BitVec.ofInt k.bits y) ||| (BitVec.ofInt k.bits x)).toNat
  rw [BitVec.or_comm]
theorem or_loU {lim : Int} {k : IntKind} (hk : (k = .u16 ∧ lim = 65536) ∨ (k = .u64 ∧ lim = 18446744073709551616) ∨ (k = .u32 ∧ lim = 4294967296)) {a c : Int} {i : Nat} (p : Int) (hp : p = 2 ^ i) (ha : 0 ≤ a) (hc : 0 ≤ c ∧ c < p) (hs : a * p + c < lim) : qR .or k c (a * p) = c + a * p := by
  rw [bitsI_or_comm, or_hiU hk p hp ha hc hs, Int.add_comm]
theorem or_zU {lim : Int} {k : IntKind} (hk : (k = .u16 ∧ lim = 65536) ∨ (k = .u64 ∧ lim = 18446744073709551616) ∨ (k = .u32 ∧ lim = 4294967296)) {c : Int} (hc : 0 ≤ c ∧ c < lim) : qR .or k 0 c = c ∧ qR .or k c 0 = c := by
  have h := or_hiU (k := k) hk (a := 0) (c := c) (i := 64) 18446744073709551616 (by decide) (by omega) (by rcases hk with ⟨_, rfl⟩ | ⟨_, rfl⟩ | ⟨_, rfl⟩ <;> omega) (by omega)
  rw [Int.zero_mul, Int.zero_add] at h
  exact ⟨h, (bitsI_or_comm k c 0).trans h⟩
def pbL (n : Int) : Nat → List Int
  | 0 => []
  | k + 1 => pbL n k ++ [n / ((2 ^ (8 * k) : Nat) : Int) % 256]
theorem pbL_len (n : Int) : ∀ k, (pbL n k).length = k
  | 0 => rfl
  | k + 1 => by show (pbL n k ++ [_]).length = _; rw [ka3, pbL_len n k]; rfl
theorem pbL_byt (n : Int) : ∀ k, Byt (pbL n k)
  | 0 => Byt.nil
  | k + 1 => (pbL_byt n k).app (Byt.cons (by omega) Byt.nil)
theorem put_z (m s : Nat) (l : List Int) (n : Int) (hm : l.length = m) : ka2 0 (ka5 m (0 : Int)) ++ ka2 m l ++ ka7 (0 + m) (ka5 m (0 : Int)) = l ++ pbL n 0 := by
  subst hm; simp [pbL]
def g16 (l : List Int) (a : Nat) : Int := ka0 l (a + 0) 0 * 1 + ka0 l (a + 1) 0 * 256
def g32 (l : List Int) (a : Nat) : Int := ka0 l (a + 0) 0 * 1 + ka0 l (a + 1) 0 * 256 + ka0 l (a + 2) 0 * 65536 + ka0 l (a + 3) 0 * 16777216
def g64 (l : List Int) (a : Nat) : Int := ka0 l (a + 0) 0 * 1 + ka0 l (a + 1) 0 * 256 + ka0 l (a + 2) 0 * 65536 + ka0 l (a + 3) 0 * 16777216 + ka0 l (a + 4) 0 * 4294967296 + ka0 l (a + 5) 0 * 1099511627776 + ka0 l (a + 6) 0 * 281474976710656 + ka0 l (a + 7) 0 * 72057594037927936
theorem g16_rng {l : List Int} {a : Nat} (h : Byt l) (ha : a + 2 ≤ l.length) : 0 ≤ g16 l a ∧ g16 l a ≤ 65535 := by
  have h0 := h.at (a + 0) (by omega); have h1 := h.at (a + 1) (by omega)
  unfold g16; omega
theorem g32_rng {l : List Int} {a : Nat} (h : Byt l) (ha : a + 4 ≤ l.length) : 0 ≤ g32 l a ∧ g32 l a ≤ 4294967295 := by
  have h0 := h.at (a + 0) (by omega); have h1 := h.at (a + 1) (by omega); have h2 := h.at (a + 2) (by omega); have h3 := h.at (a + 3) (by omega)
  unfold g32; omega
theorem g64_rng {l : List Int} {a : Nat} (h : Byt l) (ha : a + 8 ≤ l.length) : 0 ≤ g64 l a ∧ g64 l a ≤ 18446744073709551615 := by
  have h0 := h.at (a + 0) (by omega)
  have h1 := h.at (a + 1) (by omega)
  have h2 := h.at (a + 2) (by omega)
  have h3 := h.at (a + 3) (by omega)
  have h4 := h.at (a + 4) (by omega)
  have h5 := h.at (a + 5) (by omega)
  have h6 := h.at (a + 6) (by omega)
  have h7 := h.at (a + 7) (by omega)
  unfold g64; omega
theorem zlwi0 {p : Prop} (h : p := by first | omega | (simp only [u2, pbL_len, qM, ka3, kb1, kb5, kb3, kb2, kb6, kc2, List.length_map, List.length_reverse, Nat.mul_one] <;> omega) | rfl) : p := h
theorem zlwi3 {p : Prop} (h : p := by first | omega | assumption | simp) : p := h
theorem zlwi2 {p : Prop} (h : p := by first | rfl | omega | assumption | (simp; done) | (simp; omega)) : p := h
@[reducible] def q1S (k : Nat) : Prop := (((((k + 1) : Nat) : Int) : Int) = ((k : Int) + 1))
theorem W_put16 (l : List Int) (m s : Nat) (n : Int) (hm : ka1 l = m) (hb : m ≤ 1000000) (hs : s ≤ 2) (hn : 0 ≤ n ∧ n ≤ 65535) : Fun 60 [.c (.d (D.sl (dI .u8 l) m)), .c (.d (D.lit (.int .u16 n))), iE ((s : Nat) : Int)] (kF []) 0 (oV 0 0 (m + s) 1) (kF [(0, some (5, .ds (dI .u8 (l ++ (pbL n s)))))]) 1 := by
  refine Fun.mk (n := 33) Try.func60 rfl rfl (ka4 rfl) ?_
  intro cx hcx
  refine kI [.no] True [(0, sV .u8 l m), (1, kS (D.lit (.int .u16 n))), (2, uV s)] [] 0 trivial ?_
  refine kI (kJ 5 [.w, .mk m (m + s) (dI .u8 (ka5 m 0)), .no]) ((qJ ((m : Int) + (s : Int))) ∧ (kN (m : Int)) ∧ ((((m : Int) + (s : Int)) : Int) = (((m + s) : Nat) : Int)) ∧ (m ≤ (m + s)) ∧ (1 * (m + s) ≤ 281474976710656) ∧ (ka5 m (D.lit (.int .u8 0)) = dI .u8 (ka5 m 0))) [(0, sV .u8 l m), (1, kS (D.lit (.int .u16 n))), (2, uV s), (7, oV 0 0 m 1)] [(0, some (5, .ds (dI .u8 (ka5 m 0))))] 1 ⟨⟨by omega, by omega⟩, rfl, (by first | rfl | omega), zo, zo, (dF _ _ _)⟩ ?_
  refine kI [.no, .no, .cp none m (dI .u8 (((ka2 0 (ka5 m 0)) ++ (ka2 m l)) ++ (ka7 (0 + m) (ka5 m 0))))] (((dI .u8 l).length = m * 1) ∧ ((0 : Nat) + m ≤ (dI .u8 (ka5 m 0)).length) ∧ (min m m = m) ∧ (ka2 0 (dI .u8 (ka5 m 0)) ++ ka2 m (dI .u8 l) ++ ka7 (0 + m) (dI .u8 (ka5 m 0)) = dI .u8 (((ka2 0 (ka5 m 0)) ++ (ka2 m l)) ++ (ka7 (0 + m) (ka5 m 0))))) [(1, kS (D.lit (.int .u16 n))), (2, uV s), (7, oV 0 0 m 1)] [(0, some (5, .ds (dI .u8 (((ka2 0 (ka5 m 0)) ++ (ka2 m l)) ++ (ka7 (0 + m) (ka5 m 0))))))] 1 ⟨zlwi0, zlwi0, zo, (by first | exact oN _ _ _ _ _ | exact oN _ _ _ 0 _)⟩ ?_
  refine AW.seq ?_
  refine k8 [.no, .no] True [(1, kS (D.lit (.int .u16 n))), (7, oV 0 0 m 1), (19, uV s), (20, iV 0)] trivial ?_
  refine AW.block ?_
  refine kX 0 hcx (fun (x : {x : Nat // match x with | i => (i ≤ s)}) => match x with | ⟨i, _⟩ => (⟨[(1, kS (D.lit (.int .u16 n))), (7, oV 0 0 (m + i) 1), (19, uV s), (20, uV i)], [(0, some (5, .ds (dI .u8 (l ++ (pbL n i)))))], 1⟩ : ES)) (fun x => match x with | ⟨i, _⟩ => s - i) ⟨(0 : Nat), (show ((0 : Nat) ≤ s) from zlwi3)⟩ [] (P := (kN n) ∧ (kP 0) ∧ (((m + 0) : Nat) = m) ∧ (kN (s : Int)) ∧ (kN 0) ∧ (((dI .u8 (l ++ (pbL n 0))) : List D) = (dI .u8 (((ka2 0 (ka5 m 0)) ++ (ka2 m l)) ++ (ka7 (0 + m) (ka5 m 0)))))) zk ⟨rfl, rfl, zlwi2, rfl, rfl, (by first | rfl | (rw [put_z _ s _ n hm]) | (simp [pbL]; done) | (rw [kb8]; rfl))⟩ ?_
  rintro ⟨i, hinv0⟩
  have hi : (i ≤ s) := hinv0
  refine qU (l := [(1, kS (D.lit (.int .u16 n))), (7, oV 0 0 (m + i) 1), (19, uV s), (20, uV i)]) (g := [(0, some (5, .ds (dI .u8 (l ++ (pbL n i)))))]) (nx := 1) rfl rfl rfl ?_
  have hpl : ka1 (pbL n i) = i := pbL_len n i
  by_cases hx1 : (((i : Nat) : Int) < ((s : Nat) : Int))
  · refine zr [.b true] [1, 7, 19, 20, 21] [0] (((i : Int) < (s : Int))) [(1, kS (D.lit (.int .u16 n))), (7, oV 0 0 (m + i) 1), (19, uV s), (20, uV i), (21, bV true)] [(0, some (5, .ds (dI .u8 (l ++ (pbL n i)))))] 1 zo ?_
    refine AW.seq ?_
    refine vD ?_
    refine AW.seq ?_
    refine AW.block ?_
    refine kI [.no, .no] True [(1, kS (D.lit (.int .u16 n))), (7, oV 0 0 (m + i) 1), (8, uV i), (19, uV s), (20, uV i)] [(0, some (5, .ds (dI .u8 (l ++ (pbL n i)))))] 1 trivial ?_
    refine v7 [.no, .no, .no, .w, .n (8 * i), .i ((n / (((2 ^ (8 * i)) : Nat) : Int)) % 256), .no, .ap none ((m + i) + 1) (dI .u8 ((l ++ (pbL n i)) ++ ([((n / (((2 ^ (8 * i)) : Nat) : Int)) % 256)] : List Int))), .no] ((qJ (8 * (i : Int))) ∧ (((8 * (i : Int)) : Int) = (((8 * i) : Nat) : Int)) ∧ ((8 * i) ≤ 16) ∧ (IntKind.u8.wrap (n / (((2 ^ (8 * i)) : Nat) : Int)) = ((n / (((2 ^ (8 * i)) : Nat) : Int)) % 256)) ∧ ([D.lit (.int .u8 ((n / (((2 ^ (8 * i)) : Nat) : Int)) % 256))].length = 1 * 1) ∧ (((dI .u8 (l ++ (pbL n i))) : List D).length = (m + i) * 1) ∧ (((m + i) + 1) * 1 ≤ 140737488355328) ∧ ((m + i) + 1 = ((m + i) + 1)) ∧ (((dI .u8 (l ++ (pbL n i))) : List D) ++ [D.lit (.int .u8 ((n / (((2 ^ (8 * i)) : Nat) : Int)) % 256))] = (dI .u8 ((l ++ (pbL n i)) ++ ([((n / (((2 ^ (8 * i)) : Nat) : Int)) % 256)] : List Int))))) [(1, kS (D.lit (.int .u16 n))), (7, oV 2 0 ((m + i) + 1) 1), (19, uV s), (20, uV i)] [(2, some (5, .ds (dI .u8 ((l ++ (pbL n i)) ++ ([((n / (((2 ^ (8 * i)) : Nat) : Int)) % 256)] : List Int)))))] 3 ⟨⟨by omega, by omega⟩, (by first | rfl | omega), zo, (wrap_u8 _), zlwi0, zlwi0, zo, zo, (qT .u8 (l ++ (pbL n i)) ([((n / (((2 ^ (8 * i)) : Nat) : Int)) % 256)] : List Int))⟩ ?_
    refine yD [.w, .no] (qJ ((i : Int) + 1)) [(1, kS (D.lit (.int .u16 n))), (7, oV 2 0 ((m + i) + 1) 1), (19, uV s), (20, iV (↑i + 1))] ⟨by omega, by omega⟩ ?_
    exact qE ⟨((i + 1) : Nat), (show ((i + 1) ≤ s) from zlwi3)⟩ [(0, 2)] (P := (kN n) ∧ (kP 0) ∧ (((m + (i + 1)) : Nat) = ((m + i) + 1)) ∧ (kN (s : Int)) ∧ (q1S i) ∧ (((dI .u8 (l ++ (pbL n (i + 1)))) : List D) = (dI .u8 ((l ++ (pbL n i)) ++ ([((n / (((2 ^ (8 * i)) : Nat) : Int)) % 256)] : List Int))))) zk ⟨rfl, rfl, zlwi2, rfl, zlwi2, (by first | rfl | (rw [put_z _ s _ n hm]) | (simp [pbL]; done) | (rw [kb8]; rfl))⟩ (show s - (i + 1) < s - i from (by first | omega | (show _ < _; simp; omega)))
  · refine zr [.b false] [1, 7, 19, 20, 21] [0] (¬ ((i : Int) < (s : Int))) [(1, kS (D.lit (.int .u16 n))), (7, oV 0 0 (m + i) 1), (19, uV s), (20, uV i), (21, bV false)] [(0, some (5, .ds (dI .u8 (l ++ (pbL n i)))))] 1 zo ?_
    refine AW.seq ?_
    refine zf ?_
    refine AW.exit ?_
    refine kI [.no, .no] True [(6, oV 0 0 (m + i) 1)] [(0, some (5, .ds (dI .u8 (l ++ (pbL n i)))))] 1 trivial ?_
    refine AW.ret ?_
    obtain rfl : s = i := by omega
    exact kC (.inr rfl) [] (P := (kP 0) ∧ (kP (m + s)) ∧ (kZ (dI .u8 (l ++ (pbL n s))))) zk ⟨rfl, rfl, rfl⟩
theorem W_put32 (l : List Int) (m s : Nat) (n : Int) (hm : ka1 l = m) (hb : m ≤ 1000000) (hs : s ≤ 4) (hn : 0 ≤ n ∧ n ≤ 4294967295) : Fun 43 [.c (.d (D.sl (dI .u8 l) m)), .c (.d (D.lit (.int .u32 n))), iE ((s : Nat) : Int)] (kF []) 0 (oV 0 0 (m + s) 1) (kF [(0, some (5, .ds (dI .u8 (l ++ (pbL n s)))))]) 1 := by
  refine Fun.mk (n := 33) Try.func43 rfl rfl (ka4 rfl) ?_
  intro cx hcx
  refine kI [.no] True [(0, sV .u8 l m), (1, kS (D.lit (.int .u32 n))), (2, uV s)] [] 0 trivial ?_
  refine kI (kJ 5 [.w, .mk m (m + s) (dI .u8 (ka5 m 0)), .no]) ((qJ ((m : Int) + (s : Int))) ∧ (kN (m : Int)) ∧ ((((m : Int) + (s : Int)) : Int) = (((m + s) : Nat) : Int)) ∧ (m ≤ (m + s)) ∧ (1 * (m + s) ≤ 281474976710656) ∧ (ka5 m (D.lit (.int .u8 0)) = dI .u8 (ka5 m 0))) [(0, sV .u8 l m), (1, kS (D.lit (.int .u32 n))), (2, uV s), (7, oV 0 0 m 1)] [(0, some (5, .ds (dI .u8 (ka5 m 0))))] 1 ⟨⟨by omega, by omega⟩, rfl, (by first | rfl | omega), zo, zo, (dF _ _ _)⟩ ?_
  refine kI [.no, .no, .cp none m (dI .u8 (((ka2 0 (ka5 m 0)) ++ (ka2 m l)) ++ (ka7 (0 + m) (ka5 m 0))))] (((dI .u8 l).length = m * 1) ∧ ((0 : Nat) + m ≤ (dI .u8 (ka5 m 0)).length) ∧ (min m m = m) ∧ (ka2 0 (dI .u8 (ka5 m 0)) ++ ka2 m (dI .u8 l) ++ ka7 (0 + m) (dI .u8 (ka5 m 0)) = dI .u8 (((ka2 0 (ka5 m 0)) ++ (ka2 m l)) ++ (ka7 (0 + m) (ka5 m 0))))) [(1, kS (D.lit (.int .u32 n))), (2, uV s), (7, oV 0 0 m 1)] [(0, some (5, .ds (dI .u8 (((ka2 0 (ka5 m 0)) ++ (ka2 m l)) ++ (ka7 (0 + m) (ka5 m 0))))))] 1 ⟨zlwi0, zlwi0, zo, (by first | exact oN _ _ _ _ _ | exact oN _ _ _ 0 _)⟩ ?_
  refine AW.seq ?_
  refine k8 [.no, .no] True [(1, kS (D.lit (.int .u32 n))), (7, oV 0 0 m 1), (19, uV s), (20, iV 0)] trivial ?_
  refine AW.block ?_
  refine kX 0 hcx (fun (x : {x : Nat // match x with | i => (i ≤ s)}) => match x with | ⟨i, _⟩ => (⟨[(1, kS (D.lit (.int .u32 n))), (7, oV 0 0 (m + i) 1), (19, uV s), (20, uV i)], [(0, some (5, .ds (dI .u8 (l ++ (pbL n i)))))], 1⟩ : ES)) (fun x => match x with | ⟨i, _⟩ => s - i) ⟨(0 : Nat), (show ((0 : Nat) ≤ s) from zlwi3)⟩ [] (P := (kN n) ∧ (kP 0) ∧ (((m + 0) : Nat) = m) ∧ (kN (s : Int)) ∧ (kN 0) ∧ (((dI .u8 (l ++ (pbL n 0))) : List D) = (dI .u8 (((ka2 0 (ka5 m 0)) ++ (ka2 m l)) ++ (ka7 (0 + m) (ka5 m 0)))))) zk ⟨rfl, rfl, zlwi2, rfl, rfl, (by first | rfl | (rw [put_z _ s _ n hm]) | (simp [pbL]; done) | (rw [kb8]; rfl))⟩ ?_
  rintro ⟨i, hinv0⟩
  have hi : (i ≤ s) := hinv0
  refine qU (l := [(1, kS (D.lit (.int .u32 n))), (7, oV 0 0 (m + i) 1), (19, uV s), (20, uV i)]) (g := [(0, some (5, .ds (dI .u8 (l ++ (pbL n i)))))]) (nx := 1) rfl rfl rfl ?_
  have hpl : ka1 (pbL n i) = i := pbL_len n i
  by_cases hx1 : (((i : Nat) : Int) < ((s : Nat) : Int))
  · refine zr [.b true] [1, 7, 19, 20, 21] [0] (((i : Int) < (s : Int))) [(1, kS (D.lit (.int .u32 n))), (7, oV 0 0 (m + i) 1), (19, uV s), (20, uV i), (21, bV true)] [(0, some (5, .ds (dI .u8 (l ++ (pbL n i)))))] 1 zo ?_
    refine AW.seq ?_
    refine vD ?_
    refine AW.seq ?_
    refine AW.block ?_
    refine kI [.no, .no] True [(1, kS (D.lit (.int .u32 n))), (7, oV 0 0 (m + i) 1), (8, uV i), (19, uV s), (20, uV i)] [(0, some (5, .ds (dI .u8 (l ++ (pbL n i)))))] 1 trivial ?_
    refine v7 [.no, .no, .no, .w, .n (8 * i), .i ((n / (((2 ^ (8 * i)) : Nat) : Int)) % 256), .no, .ap none ((m + i) + 1) (dI .u8 ((l ++ (pbL n i)) ++ ([((n / (((2 ^ (8 * i)) : Nat) : Int)) % 256)] : List Int))), .no] ((qJ (8 * (i : Int))) ∧ (((8 * (i : Int)) : Int) = (((8 * i) : Nat) : Int)) ∧ ((8 * i) ≤ 32) ∧ (IntKind.u8.wrap (n / (((2 ^ (8 * i)) : Nat) : Int)) = ((n / (((2 ^ (8 * i)) : Nat) : Int)) % 256)) ∧ ([D.lit (.int .u8 ((n / (((2 ^ (8 * i)) : Nat) : Int)) % 256))].length = 1 * 1) ∧ (((dI .u8 (l ++ (pbL n i))) : List D).length = (m + i) * 1) ∧ (((m + i) + 1) * 1 ≤ 140737488355328) ∧ ((m + i) + 1 = ((m + i) + 1)) ∧ (((dI .u8 (l ++ (pbL n i))) : List D) ++ [D.lit (.int .u8 ((n / (((2 ^ (8 * i)) : Nat) : Int)) % 256))] = (dI .u8 ((l ++ (pbL n i)) ++ ([((n / (((2 ^ (8 * i)) : Nat) : Int)) % 256)] : List Int))))) [(1, kS (D.lit (.int .u32 n))), (7, oV 2 0 ((m + i) + 1) 1), (19, uV s), (20, uV i)] [(2, some (5, .ds (dI .u8 ((l ++ (pbL n i)) ++ ([((n / (((2 ^ (8 * i)) : Nat) : Int)) % 256)] : List Int)))))] 3 ⟨⟨by omega, by omega⟩, (by first | rfl | omega), zo, (wrap_u8 _), zlwi0, zlwi0, zo, zo, (qT .u8 (l ++ (pbL n i)) ([((n / (((2 ^ (8 * i)) : Nat) : Int)) % 256)] : List Int))⟩ ?_
    refine yD [.w, .no] (qJ ((i : Int) + 1)) [(1, kS (D.lit (.int .u32 n))), (7, oV 2 0 ((m + i) + 1) 1), (19, uV s), (20, iV (↑i + 1))] ⟨by omega, by omega⟩ ?_
    exact qE ⟨((i + 1) : Nat), (show ((i + 1) ≤ s) from zlwi3)⟩ [(0, 2)] (P := (kN n) ∧ (kP 0) ∧ (((m + (i + 1)) : Nat) = ((m + i) + 1)) ∧ (kN (s : Int)) ∧ (q1S i) ∧ (((dI .u8 (l ++ (pbL n (i + 1)))) : List D) = (dI .u8 ((l ++ (pbL n i)) ++ ([((n / (((2 ^ (8 * i)) : Nat) : Int)) % 256)] : List Int))))) zk ⟨rfl, rfl, zlwi2, rfl, zlwi2, (by first | rfl | (rw [put_z _ s _ n hm]) | (simp [pbL]; done) | (rw [kb8]; rfl))⟩ (show s - (i + 1) < s - i from (by first | omega | (show _ < _; simp; omega)))
  · refine zr [.b false] [1, 7, 19, 20, 21] [0] (¬ ((i : Int) < (s : Int))) [(1, kS (D.lit (.int .u32 n))), (7, oV 0 0 (m + i) 1), (19, uV s), (20, uV i), (21, bV false)] [(0, some (5, .ds (dI .u8 (l ++ (pbL n i)))))] 1 zo ?_
    refine AW.seq ?_
    refine zf ?_
    refine AW.exit ?_
    refine kI [.no, .no] True [(6, oV 0 0 (m + i) 1)] [(0, some (5, .ds (dI .u8 (l ++ (pbL n i)))))] 1 trivial ?_
    refine AW.ret ?_
    obtain rfl : s = i := by omega
    exact kC (.inr rfl) [] (P := (kP 0) ∧ (kP (m + s)) ∧ (kZ (dI .u8 (l ++ (pbL n s))))) zk ⟨rfl, rfl, rfl⟩
theorem W_put64 (l : List Int) (m s : Nat) (n : Int) (hm : ka1 l = m) (hb : m ≤ 1000000) (hs : s ≤ 8) (hn : 0 ≤ n ∧ n ≤ 18446744073709551615) : Fun 38 [.c (.d (D.sl (dI .u8 l) m)), .c (.d (D.lit (.int .u64 n))), iE ((s : Nat) : Int)] (kF []) 0 (oV 0 0 (m + s) 1) (kF [(0, some (5, .ds (dI .u8 (l ++ (pbL n s)))))]) 1 := by
  refine Fun.mk (n := 33) Try.func38 rfl rfl (ka4 rfl) ?_
  intro cx hcx
  refine kI [.no] True [(0, sV .u8 l m), (1, kS (D.lit (.int .u64 n))), (2, uV s)] [] 0 trivial ?_
  refine kI (kJ 5 [.w, .mk m (m + s) (dI .u8 (ka5 m 0)), .no]) ((qJ ((m : Int) + (s : Int))) ∧ (kN (m : Int)) ∧ ((((m : Int) + (s : Int)) : Int) = (((m + s) : Nat) : Int)) ∧ (m ≤ (m + s)) ∧ (1 * (m + s) ≤ 281474976710656) ∧ (ka5 m (D.lit (.int .u8 0)) = dI .u8 (ka5 m 0))) [(0, sV .u8 l m), (1, kS (D.lit (.int .u64 n))), (2, uV s), (7, oV 0 0 m 1)] [(0, some (5, .ds (dI .u8 (ka5 m 0))))] 1 ⟨⟨by omega, by omega⟩, rfl, (by first | rfl | omega), zo, zo, (dF _ _ _)⟩ ?_
  refine kI [.no, .no, .cp none m (dI .u8 (((ka2 0 (ka5 m 0)) ++ (ka2 m l)) ++ (ka7 (0 + m) (ka5 m 0))))] (((dI .u8 l).length = m * 1) ∧ ((0 : Nat) + m ≤ (dI .u8 (ka5 m 0)).length) ∧ (min m m = m) ∧ (ka2 0 (dI .u8 (ka5 m 0)) ++ ka2 m (dI .u8 l) ++ ka7 (0 + m) (dI .u8 (ka5 m 0)) = dI .u8 (((ka2 0 (ka5 m 0)) ++ (ka2 m l)) ++ (ka7 (0 + m) (ka5 m 0))))) [(1, kS (D.lit (.int .u64 n))), (2, uV s), (7, oV 0 0 m 1)] [(0, some (5, .ds (dI .u8 (((ka2 0 (ka5 m 0)) ++ (ka2 m l)) ++ (ka7 (0 + m) (ka5 m 0))))))] 1 ⟨zlwi0, zlwi0, zo, (by first | exact oN _ _ _ _ _ | exact oN _ _ _ 0 _)⟩ ?_
  refine AW.seq ?_
  refine k8 [.no, .no] True [(1, kS (D.lit (.int .u64 n))), (7, oV 0 0 m 1), (19, uV s), (20, iV 0)] trivial ?_
  refine AW.block ?_
  refine kX 0 hcx (fun (x : {x : Nat // match x with | i => (i ≤ s)}) => match x with | ⟨i, _⟩ => (⟨[(1, kS (D.lit (.int .u64 n))), (7, oV 0 0 (m + i) 1), (19, uV s), (20, uV i)], [(0, some (5, .ds (dI .u8 (l ++ (pbL n i)))))], 1⟩ : ES)) (fun x => match x with | ⟨i, _⟩ => s - i) ⟨(0 : Nat), (show ((0 : Nat) ≤ s) from zlwi3)⟩ [] (P := (kN n) ∧ (kP 0) ∧ (((m + 0) : Nat) = m) ∧ (kN (s : Int)) ∧ (kN 0) ∧ (((dI .u8 (l ++ (pbL n 0))) : List D) = (dI .u8 (((ka2 0 (ka5 m 0)) ++ (ka2 m l)) ++ (ka7 (0 + m) (ka5 m 0)))))) zk ⟨rfl, rfl, zlwi2, rfl, rfl, (by first | rfl | (rw [put_z _ s _ n hm]) | (simp [pbL]; done) | (rw [kb8]; rfl))⟩ ?_
  rintro ⟨i, hinv0⟩
  have hi : (i ≤ s) := hinv0
  refine qU (l := [(1, kS (D.lit (.int .u64 n))), (7, oV 0 0 (m + i) 1), (19, uV s), (20, uV i)]) (g := [(0, some (5, .ds (dI .u8 (l ++ (pbL n i)))))]) (nx := 1) rfl rfl rfl ?_
  have hpl : ka1 (pbL n i) = i := pbL_len n i
  by_cases hx1 : (((i : Nat) : Int) < ((s : Nat) : Int))
  · refine zr [.b true] [1, 7, 19, 20, 21] [0] (((i : Int) < (s : Int))) [(1, kS (D.lit (.int .u64 n))), (7, oV 0 0 (m + i) 1), (19, uV s), (20, uV i), (21, bV true)] [(0, some (5, .ds (dI .u8 (l ++ (pbL n i)))))] 1 zo ?_
    refine AW.seq ?_
    refine vD ?_
    refine AW.seq ?_
    refine AW.block ?_
    refine kI [.no, .no] True [(1, kS (D.lit (.int .u64 n))), (7, oV 0 0 (m + i) 1), (8, uV i), (19, uV s), (20, uV i)] [(0, some (5, .ds (dI .u8 (l ++ (pbL n i)))))] 1 trivial ?_
    refine v7 [.no, .no, .no, .w, .n (8 * i), .i ((n / (((2 ^ (8 * i)) : Nat) : Int)) % 256), .no, .ap none ((m + i) + 1) (dI .u8 ((l ++ (pbL n i)) ++ ([((n / (((2 ^ (8 * i)) : Nat) : Int)) % 256)] : List Int))), .no] ((qJ (8 * (i : Int))) ∧ (((8 * (i : Int)) : Int) = (((8 * i) : Nat) : Int)) ∧ ((8 * i) ≤ 64) ∧ (IntKind.u8.wrap (n / (((2 ^ (8 * i)) : Nat) : Int)) = ((n / (((2 ^ (8 * i)) : Nat) : Int)) % 256)) ∧ ([D.lit (.int .u8 ((n / (((2 ^ (8 * i)) : Nat) : Int)) % 256))].length = 1 * 1) ∧ (((dI .u8 (l ++ (pbL n i))) : List D).length = (m + i) * 1) ∧ (((m + i) + 1) * 1 ≤ 140737488355328) ∧ ((m + i) + 1 = ((m + i) + 1)) ∧ (((dI .u8 (l ++ (pbL n i))) : List D) ++ [D.lit (.int .u8 ((n / (((2 ^ (8 * i)) : Nat) : Int)) % 256))] = (dI .u8 ((l ++ (pbL n i)) ++ ([((n / (((2 ^ (8 * i)) : Nat) : Int)) % 256)] : List Int))))) [(1, kS (D.lit (.int .u64 n))), (7, oV 2 0 ((m + i) + 1) 1), (19, uV s), (20, uV i)] [(2, some (5, .ds (dI .u8 ((l ++ (pbL n i)) ++ ([((n / (((2 ^ (8 * i)) : Nat) : Int)) % 256)] : List Int)))))] 3 ⟨⟨by omega, by omega⟩, (by first | rfl | omega), zo, (wrap_u8 _), zlwi0, zlwi0, zo, zo, (qT .u8 (l ++ (pbL n i)) ([((n / (((2 ^ (8 * i)) : Nat) : Int)) % 256)] : List Int))⟩ ?_
    refine yD [.w, .no] (qJ ((i : Int) + 1)) [(1, kS (D.lit (.int .u64 n))), (7, oV 2 0 ((m + i) + 1) 1), (19, uV s), (20, iV (↑i + 1))] ⟨by omega, by omega⟩ ?_
    exact qE ⟨((i + 1) : Nat), (show ((i + 1) ≤ s) from zlwi3)⟩ [(0, 2)] (P := (kN n) ∧ (kP 0) ∧ (((m + (i + 1)) : Nat) = ((m + i) + 1)) ∧ (kN (s : Int)) ∧ (q1S i) ∧ (((dI .u8 (l ++ (pbL n (i + 1)))) : List D) = (dI .u8 ((l ++ (pbL n i)) ++ ([((n / (((2 ^ (8 * i)) : Nat) : Int)) % 256)] : List Int))))) zk ⟨rfl, rfl, zlwi2, rfl, zlwi2, (by first | rfl | (rw [put_z _ s _ n hm]) | (simp [pbL]; done) | (rw [kb8]; rfl))⟩ (show s - (i + 1) < s - i from (by first | omega | (show _ < _; simp; omega)))
  · refine zr [.b false] [1, 7, 19, 20, 21] [0] (¬ ((i : Int) < (s : Int))) [(1, kS (D.lit (.int .u64 n))), (7, oV 0 0 (m + i) 1), (19, uV s), (20, uV i), (21, bV false)] [(0, some (5, .ds (dI .u8 (l ++ (pbL n i)))))] 1 zo ?_
    refine AW.seq ?_
    refine zf ?_
    refine AW.exit ?_
    refine kI [.no, .no] True [(6, oV 0 0 (m + i) 1)] [(0, some (5, .ds (dI .u8 (l ++ (pbL n i)))))] 1 trivial ?_
    refine AW.ret ?_
    obtain rfl : s = i := by omega
    exact kC (.inr rfl) [] (P := (kP 0) ∧ (kP (m + s)) ∧ (kZ (dI .u8 (l ++ (pbL n s))))) zk ⟨rfl, rfl, rfl⟩
theorem W_rput (l : List Int) (m s : Nat) (n : Int) (hm : ka1 l = m) (hb : m ≤ 1000000) (hs : s ≤ 8) (hn : 0 ≤ n ∧ n ≤ 18446744073709551615) : Fun 44 [.c (.d (D.sl (dI .u8 l) m)), .c (.d (D.lit (.int .u64 n))), iE ((s : Nat) : Int)] (kF []) 0 (oV 0 0 (m + s) 1) (kF [(0, some (5, .ds (dI .u8 (l ++ (pbL n s)))))]) 1 := by
  refine Fun.mk (n := 25) Try.func44 rfl rfl (ka4 rfl) ?_
  intro cx hcx
  refine kI [.no] True [(0, sV .u8 l m), (1, kS (D.lit (.int .u64 n))), (2, uV s)] [] 0 trivial ?_
  refine kI [.no, .ap none m (dI .u8 l), .no] (((dI .u8 l).length = m * 1) ∧ (m * 1 ≤ 140737488355328) ∧ (m = m) ∧ (kZ (dI .u8 l))) [(1, kS (D.lit (.int .u64 n))), (2, uV s), (7, oV 0 0 m 1)] [(0, some (5, .ds (dI .u8 l)))] 1 ⟨zlwi0, zo, rfl, rfl⟩ ?_
  refine AW.seq ?_
  refine k8 [.no] True [(1, kS (D.lit (.int .u64 n))), (2, uV s), (7, oV 0 0 m 1), (8, iV 0)] trivial ?_
  refine AW.block ?_
  refine kX 0 hcx (fun (x : {x : Nat // match x with | i => (i ≤ s)}) => match x with | ⟨i, _⟩ => (⟨[(1, kS (D.lit (.int .u64 n))), (2, uV s), (7, oV 0 0 (m + i) 1), (8, uV i)], [(0, some (5, .ds (dI .u8 (l ++ (pbL n i)))))], 1⟩ : ES)) (fun x => match x with | ⟨i, _⟩ => s - i) ⟨(0 : Nat), (show ((0 : Nat) ≤ s) from zlwi3)⟩ [] (P := (kN n) ∧ (kN (s : Int)) ∧ (kP 0) ∧ (((m + 0) : Nat) = m) ∧ (kN 0) ∧ (((dI .u8 (l ++ (pbL n 0))) : List D) = (dI .u8 l))) zk ⟨rfl, rfl, rfl, zlwi2, rfl, (by first | rfl | (rw [put_z _ s _ n hm]) | (simp [pbL]; done) | (rw [kb8]; rfl))⟩ ?_
  rintro ⟨i, hinv0⟩
  have hi : (i ≤ s) := hinv0
  refine qU (l := [(1, kS (D.lit (.int .u64 n))), (2, uV s), (7, oV 0 0 (m + i) 1), (8, uV i)]) (g := [(0, some (5, .ds (dI .u8 (l ++ (pbL n i)))))]) (nx := 1) rfl rfl rfl ?_
  have hpl : ka1 (pbL n i) = i := pbL_len n i
  refine AW.seq ?_
  by_cases hx1 : (((i : Nat) : Int) < ((s : Nat) : Int))
  · refine zr [.no, .no, .b true] [1, 2, 7, 8, 13] [0] (((i : Int) < (s : Int))) [(1, kS (D.lit (.int .u64 n))), (2, uV s), (7, oV 0 0 (m + i) 1), (8, uV i), (13, bV true)] [(0, some (5, .ds (dI .u8 (l ++ (pbL n i)))))] 1 zo ?_
    refine vD ?_
    refine AW.seq ?_
    refine AW.block ?_
    refine v7 [.no, .no, .no, .w, .n (8 * i), .i ((n / (((2 ^ (8 * i)) : Nat) : Int)) % 256), .no, .ap none ((m + i) + 1) (dI .u8 ((l ++ (pbL n i)) ++ ([((n / (((2 ^ (8 * i)) : Nat) : Int)) % 256)] : List Int))), .no] ((qJ (8 * (i : Int))) ∧ (((8 * (i : Int)) : Int) = (((8 * i) : Nat) : Int)) ∧ ((8 * i) ≤ 64) ∧ (IntKind.u8.wrap (n / (((2 ^ (8 * i)) : Nat) : Int)) = ((n / (((2 ^ (8 * i)) : Nat) : Int)) % 256)) ∧ ([D.lit (.int .u8 ((n / (((2 ^ (8 * i)) : Nat) : Int)) % 256))].length = 1 * 1) ∧ (((dI .u8 (l ++ (pbL n i))) : List D).length = (m + i) * 1) ∧ (((m + i) + 1) * 1 ≤ 140737488355328) ∧ ((m + i) + 1 = ((m + i) + 1)) ∧ (((dI .u8 (l ++ (pbL n i))) : List D) ++ [D.lit (.int .u8 ((n / (((2 ^ (8 * i)) : Nat) : Int)) % 256))] = (dI .u8 ((l ++ (pbL n i)) ++ ([((n / (((2 ^ (8 * i)) : Nat) : Int)) % 256)] : List Int))))) [(1, kS (D.lit (.int .u64 n))), (2, uV s), (7, oV 2 0 ((m + i) + 1) 1), (8, uV i)] [(2, some (5, .ds (dI .u8 ((l ++ (pbL n i)) ++ ([((n / (((2 ^ (8 * i)) : Nat) : Int)) % 256)] : List Int)))))] 3 ⟨⟨by omega, by omega⟩, (by first | rfl | omega), zo, (wrap_u8 _), zlwi0, zlwi0, zo, zo, (qT .u8 (l ++ (pbL n i)) ([((n / (((2 ^ (8 * i)) : Nat) : Int)) % 256)] : List Int))⟩ ?_
    refine yD [.no, .w, .no] (qJ ((i : Int) + 1)) [(1, kS (D.lit (.int .u64 n))), (2, uV s), (7, oV 2 0 ((m + i) + 1) 1), (8, iV (↑i + 1))] ⟨by omega, by omega⟩ ?_
    exact qE ⟨((i + 1) : Nat), (show ((i + 1) ≤ s) from zlwi3)⟩ [(0, 2)] (P := (kN n) ∧ (kN (s : Int)) ∧ (kP 0) ∧ (((m + (i + 1)) : Nat) = ((m + i) + 1)) ∧ (q1S i) ∧ (((dI .u8 (l ++ (pbL n (i + 1)))) : List D) = (dI .u8 ((l ++ (pbL n i)) ++ ([((n / (((2 ^ (8 * i)) : Nat) : Int)) % 256)] : List Int))))) zk ⟨rfl, rfl, rfl, zlwi2, zlwi2, (by first | rfl | (rw [put_z _ s _ n hm]) | (simp [pbL]; done) | (rw [kb8]; rfl))⟩ (show s - (i + 1) < s - i from (by first | omega | (show _ < _; simp; omega)))
  · refine zr [.no, .no, .b false] [1, 2, 7, 8, 13] [0] (¬ ((i : Int) < (s : Int))) [(1, kS (D.lit (.int .u64 n))), (2, uV s), (7, oV 0 0 (m + i) 1), (8, uV i), (13, bV false)] [(0, some (5, .ds (dI .u8 (l ++ (pbL n i)))))] 1 zo ?_
    refine zf ?_
    refine AW.exit ?_
    refine kI [.no, .no] True [(6, oV 0 0 (m + i) 1)] [(0, some (5, .ds (dI .u8 (l ++ (pbL n i)))))] 1 trivial ?_
    refine AW.ret ?_
    obtain rfl : s = i := by omega
    exact kC (.inr rfl) [] (P := (kP 0) ∧ (kP (m + s)) ∧ (kZ (dI .u8 (l ++ (pbL n s))))) zk ⟨rfl, rfl, rfl⟩
theorem W_Put16 (l : List Int) (m : Nat) (n : Int) (hm : ka1 l = m) (hb : m ≤ 1000000) (hn : 0 ≤ n ∧ n ≤ 65535) : Fun 40 [.c (.d (D.sl (dI .u8 l) m)), .c (.d (D.lit (.int .u16 n)))] (kF []) 0 (oV 0 0 (m + 2) 1) (kF [(0, some (5, .ds (dI .u8 (l ++ (pbL n 2)))))]) 1 := by
  refine Fun.mk (n := 8) Try.func40 rfl rfl (ka4 rfl) ?_
  intro cx hcx
  refine kI [.no] True [(0, sV .u8 l m), (1, kS (D.lit (.int .u16 n)))] [] 0 trivial ?_
  refine kI [.no, .no, .call [] (oV 0 0 (m + 2) 1) [(0, some (5, .ds (dI .u8 (l ++ (pbL n 2)))))] 1 [] none, .no] _ [(4, oV 0 0 (m + 2) 1)] [(0, some (5, .ds (dI .u8 (l ++ (pbL n 2)))))] 1 (W_put16 l m 2 n zo zo zo zo) ?_
  refine AW.ret ?_
  exact kC (.inr rfl) [] (P := (kP 0) ∧ (kP (m + 2)) ∧ (kZ (dI .u8 (l ++ (pbL n 2))))) zk ⟨rfl, rfl, rfl⟩
theorem W_Put16_z (l : List Int) (m : Nat) (n : Int) (hm : ka1 l = m) (hb : m ≤ 1000000) (hn : 0 ≤ n ∧ n ≤ 65535) : Fun 40 [.c (.d (D.sl (dI .u8 l) m)), .c (.d (D.lit (.int .u16 n)))] (kF []) 0 (sV .u8 (l ++ (pbL n 2)) (m + 2)) (kF []) 1 := (Fun.frz (y := oV 0 0 (m + 2) 1) (g1 := [(0, some (5, .ds (dI .u8 (l ++ (pbL n 2)))))]) (y' := sV .u8 (l ++ (pbL n 2)) (m + 2)) (g1' := []) (ds := (dI .u8 (l ++ (pbL n 2)))) 0 (W_Put16 l m n hm hb hn) rfl FzG.nil (.e (.c (FzC.wh ((by simp only [ka3, pbL_len]; omega))))))
theorem W_Put32 (l : List Int) (m : Nat) (n : Int) (hm : ka1 l = m) (hb : m ≤ 1000000) (hn : 0 ≤ n ∧ n ≤ 4294967295) : Fun 22 [.c (.d (D.sl (dI .u8 l) m)), .c (.d (D.lit (.int .u32 n)))] (kF []) 0 (oV 0 0 (m + 4) 1) (kF [(0, some (5, .ds (dI .u8 (l ++ (pbL n 4)))))]) 1 := by
  refine Fun.mk (n := 8) Try.func22 rfl rfl (ka4 rfl) ?_
  intro cx hcx
  refine kI [.no] True [(0, sV .u8 l m), (1, kS (D.lit (.int .u32 n)))] [] 0 trivial ?_
  refine kI [.no, .no, .call [] (oV 0 0 (m + 4) 1) [(0, some (5, .ds (dI .u8 (l ++ (pbL n 4)))))] 1 [] none, .no] _ [(4, oV 0 0 (m + 4) 1)] [(0, some (5, .ds (dI .u8 (l ++ (pbL n 4)))))] 1 (W_put32 l m 4 n zo zo zo zo) ?_
  refine AW.ret ?_
  exact kC (.inr rfl) [] (P := (kP 0) ∧ (kP (m + 4)) ∧ (kZ (dI .u8 (l ++ (pbL n 4))))) zk ⟨rfl, rfl, rfl⟩
theorem W_Put32_z (l : List Int) (m : Nat) (n : Int) (hm : ka1 l = m) (hb : m ≤ 1000000) (hn : 0 ≤ n ∧ n ≤ 4294967295) : Fun 22 [.c (.d (D.sl (dI .u8 l) m)), .c (.d (D.lit (.int .u32 n)))] (kF []) 0 (sV .u8 (l ++ (pbL n 4)) (m + 4)) (kF []) 1 := (Fun.frz (y := oV 0 0 (m + 4) 1) (g1 := [(0, some (5, .ds (dI .u8 (l ++ (pbL n 4)))))]) (y' := sV .u8 (l ++ (pbL n 4)) (m + 4)) (g1' := []) (ds := (dI .u8 (l ++ (pbL n 4)))) 0 (W_Put32 l m n hm hb hn) rfl FzG.nil (.e (.c (FzC.wh ((by simp only [ka3, pbL_len]; omega))))))
theorem W_Put64 (l : List Int) (m : Nat) (n : Int) (hm : ka1 l = m) (hb : m ≤ 1000000) (hn : 0 ≤ n ∧ n ≤ 18446744073709551615) : Fun 17 [.c (.d (D.sl (dI .u8 l) m)), .c (.d (D.lit (.int .u64 n)))] (kF []) 0 (oV 0 0 (m + 8) 1) (kF [(0, some (5, .ds (dI .u8 (l ++ (pbL n 8)))))]) 1 := by
  refine Fun.mk (n := 8) Try.func17 rfl rfl (ka4 rfl) ?_
  intro cx hcx
  refine kI [.no] True [(0, sV .u8 l m), (1, kS (D.lit (.int .u64 n)))] [] 0 trivial ?_
  refine kI [.no, .no, .call [] (oV 0 0 (m + 8) 1) [(0, some (5, .ds (dI .u8 (l ++ (pbL n 8)))))] 1 [] none, .no] _ [(4, oV 0 0 (m + 8) 1)] [(0, some (5, .ds (dI .u8 (l ++ (pbL n 8)))))] 1 (W_put64 l m 8 n zo zo zo zo) ?_
  refine AW.ret ?_
  exact kC (.inr rfl) [] (P := (kP 0) ∧ (kP (m + 8)) ∧ (kZ (dI .u8 (l ++ (pbL n 8))))) zk ⟨rfl, rfl, rfl⟩
theorem W_rPut16 (l : List Int) (m : Nat) (n : Int) (hm : ka1 l = m) (hb : m ≤ 1000000) (hn : 0 ≤ n ∧ n ≤ 65535) : Fun 26 [.c (.d (D.sl (dI .u8 l) m)), .c (.d (D.lit (.int .u16 n)))] (kF []) 0 (oV 0 0 (m + 2) 1) (kF [(0, some (5, .ds (dI .u8 (l ++ (pbL n 2)))))]) 1 := by
  refine Fun.mk (n := 9) Try.func26 rfl rfl (ka4 rfl) ?_
  intro cx hcx
  refine kI [.no] True [(0, sV .u8 l m), (1, kS (D.lit (.int .u16 n)))] [] 0 trivial ?_
  refine kI [.no, .no, .w, .call [] (oV 0 0 (m + 2) 1) [(0, some (5, .ds (dI .u8 (l ++ (pbL n 2)))))] 1 [] none, .no] ((0 ≤ n ∧ n ≤ 18446744073709551615) ∧ (_)) [(4, oV 0 0 (m + 2) 1)] [(0, some (5, .ds (dI .u8 (l ++ (pbL n 2)))))] 1 ⟨⟨by omega, by omega⟩, (W_rput l m 2 n zo zo zo zo)⟩ ?_
  refine AW.ret ?_
  exact kC (.inr rfl) [] (P := (kP 0) ∧ (kP (m + 2)) ∧ (kZ (dI .u8 (l ++ (pbL n 2))))) zk ⟨rfl, rfl, rfl⟩
theorem W_rPut32 (l : List Int) (m : Nat) (n : Int) (hm : ka1 l = m) (hb : m ≤ 1000000) (hn : 0 ≤ n ∧ n ≤ 4294967295) : Fun 27 [.c (.d (D.sl (dI .u8 l) m)), .c (.d (D.lit (.int .u32 n)))] (kF []) 0 (oV 0 0 (m + 4) 1) (kF [(0, some (5, .ds (dI .u8 (l ++ (pbL n 4)))))]) 1 := by
  refine Fun.mk (n := 9) Try.func27 rfl rfl (ka4 rfl) ?_
  intro cx hcx
  refine kI [.no] True [(0, sV .u8 l m), (1, kS (D.lit (.int .u32 n)))] [] 0 trivial ?_
  refine kI [.no, .no, .w, .call [] (oV 0 0 (m + 4) 1) [(0, some (5, .ds (dI .u8 (l ++ (pbL n 4)))))] 1 [] none, .no] ((0 ≤ n ∧ n ≤ 18446744073709551615) ∧ (_)) [(4, oV 0 0 (m + 4) 1)] [(0, some (5, .ds (dI .u8 (l ++ (pbL n 4)))))] 1 ⟨⟨by omega, by omega⟩, (W_rput l m 4 n zo zo zo zo)⟩ ?_
  refine AW.ret ?_
  exact kC (.inr rfl) [] (P := (kP 0) ∧ (kP (m + 4)) ∧ (kZ (dI .u8 (l ++ (pbL n 4))))) zk ⟨rfl, rfl, rfl⟩
theorem W_rPut64 (l : List Int) (m : Nat) (n : Int) (hm : ka1 l = m) (hb : m ≤ 1000000) (hn : 0 ≤ n ∧ n ≤ 18446744073709551615) : Fun 24 [.c (.d (D.sl (dI .u8 l) m)), .c (.d (D.lit (.int .u64 n)))] (kF []) 0 (oV 0 0 (m + 8) 1) (kF [(0, some (5, .ds (dI .u8 (l ++ (pbL n 8)))))]) 1 := by
  refine Fun.mk (n := 8) Try.func24 rfl rfl (ka4 rfl) ?_
  intro cx hcx
  refine kI [.no] True [(0, sV .u8 l m), (1, kS (D.lit (.int .u64 n)))] [] 0 trivial ?_
  refine kI [.no, .no, .call [] (oV 0 0 (m + 8) 1) [(0, some (5, .ds (dI .u8 (l ++ (pbL n 8)))))] 1 [] none, .no] _ [(4, oV 0 0 (m + 8) 1)] [(0, some (5, .ds (dI .u8 (l ++ (pbL n 8)))))] 1 (W_rput l m 8 n zo zo zo zo) ?_
  refine AW.ret ?_
  exact kC (.inr rfl) [] (P := (kP 0) ∧ (kP (m + 8)) ∧ (kZ (dI .u8 (l ++ (pbL n 8))))) zk ⟨rfl, rfl, rfl⟩
theorem zlwi1 {p : Prop} (h : p := by first | omega | (simp only [u2, pbL_len, ka3, kb1, kb5, kb3, kb2, kb6, kc2] <;> omega)) : p := h
theorem W_get16 (l : List Int) (m a : Nat) (hm : ka1 l = m) (hb : m ≤ 1000000) (hy : Byt l) (ha : a + 2 ≤ m) : Fun 82 [.c (.d (D.sl (dI .u8 l) m)), iE ((a : Nat) : Int), iE 2] (kF []) 0 (.tup [.c (.d (D.lit (.int .u16 (g16 l a)))), iE (((a + 2) : Nat) : Int), iE 0]) (kF []) 0 := by
  refine Fun.mk (n := 46) Try.func82 rfl rfl (ka4 rfl) ?_
  intro cx hcx
  refine kI [.no, .no, .no] True [(0, sV .u8 l m), (1, uV a), (2, iV 2)] [] 0 trivial ?_
  refine AW.seq ?_
  refine k8 (.no :: .b false :: kJ 4 [.b false, .no]) ((¬ ((a : Int) < 0)) ∧ (¬ ((m : Int) < (a : Int)))) [(0, sV .u8 l m), (1, uV a), (2, iV 2), (18, bV false)] ⟨zo, zo⟩ ?_
  refine yC ?_
  refine AW.seq ?_
  refine k8 [.no, .no, .no, .w, .no, .b false] ((qJ ((m : Int) - (a : Int))) ∧ (¬ (((m : Int) - (a : Int)) < 2))) [(0, sV .u8 l m), (1, uV a), (2, iV 2), (24, bV false)] ⟨⟨by omega, by omega⟩, zo⟩ ?_
  refine yC ?_
  refine k8 [.no] True [(0, sV .u8 l m), (1, uV a), (2, iV 2), (9, kS (D.lit (.int .u16 0)))] trivial ?_
  refine AW.seq ?_
  refine k8 [.no, .no] True [(0, sV .u8 l m), (1, uV a), (2, iV 2), (9, kS (D.lit (.int .u16 0))), (25, iV 2), (26, iV 0)] trivial ?_
  refine AW.block ?_
  refine AW.rounds 3 ?_
  refine AWr.s ?_
  refine kI [.b true] (((0 : Int) < 2)) [(0, sV .u8 l m), (1, uV a), (2, iV 2), (9, kS (D.lit (.int .u16 0))), (25, iV 2), (26, iV 0), (27, bV true)] [] 0 zo ?_
  refine AW.seq ?_
  refine vD ?_
  refine AW.seq ?_
  refine AW.block ?_
  refine k8 [.no, .no] True [(0, sV .u8 l m), (1, uV a), (2, iV 2), (9, kS (D.lit (.int .u16 0))), (10, iV 0), (25, iV 2), (26, iV 0)] trivial ?_
  have hx1 : 0 ≤ (ka0 l (a + 0) 0) ∧ (ka0 l (a + 0) 0) ≤ 255 := (kQ : Byt l).at _ zlwi1
  refine yD (kJ 4 [.w, .n (a + 0), .d (D.lit (.int .u8 (ka0 l (a + 0) 0))), .w, .no, .w, .n 0, .i ((ka0 l (a + 0) 0) * 1), .no]) ((qJ ((a : Int) + 0)) ∧ ((((a : Int) + 0) : Int) = (((a + 0) : Nat) : Int)) ∧ ((a + 0) < m) ∧ ((ka7 (a + 0) (dI .u8 l))[0]? = some (D.lit (.int .u8 (ka0 l (a + 0) 0)))) ∧ (0 ≤ (ka0 l (a + 0) 0) ∧ (ka0 l (a + 0) 0) ≤ 65535) ∧ (qJ (0 : Int)) ∧ (kN 0) ∧ ((0 : Nat) ≤ 16) ∧ (0 ≤ ((ka0 l (a + 0) 0) * 1) ∧ ((ka0 l (a + 0) 0) * 1) ≤ 65535) ∧ (qR .or .u16 0 ((ka0 l (a + 0) 0) * 1) = ((ka0 l (a + 0) 0) * 1))) [(0, sV .u8 l m), (1, uV a), (2, iV 2), (9, kS (D.lit (.int .u16 ((ka0 l (a + 0) 0) * 1)))), (25, iV 2), (26, iV 0)] ⟨⟨by omega, by omega⟩, (by first | rfl | omega), zo, (qW _ _ _ zlwi0), ⟨by omega, by omega⟩, ⟨by omega, by omega⟩, rfl, zo, ⟨by omega, by omega⟩, (or_zU (.inl ⟨rfl, rfl⟩) zo).1⟩ ?_
  refine yD [.w, .no] (qJ (1 : Int)) [(0, sV .u8 l m), (1, uV a), (2, iV 2), (9, kS (D.lit (.int .u16 ((ka0 l (a + 0) 0) * 1)))), (25, iV 2), (26, iV 1)] ⟨by omega, by omega⟩ ?_
  refine AWr.s ?_
  refine kI [.b true] (((1 : Int) < 2)) [(0, sV .u8 l m), (1, uV a), (2, iV 2), (9, kS (D.lit (.int .u16 ((ka0 l (a + 0) 0) * 1)))), (25, iV 2), (26, iV 1), (27, bV true)] [] 0 zo ?_
  refine AW.seq ?_
  refine vD ?_
  refine AW.seq ?_
  refine AW.block ?_
  refine k8 [.no, .no] True [(0, sV .u8 l m), (1, uV a), (2, iV 2), (9, kS (D.lit (.int .u16 ((ka0 l (a + 0) 0) * 1)))), (10, iV 1), (25, iV 2), (26, iV 1)] trivial ?_
  have hx2 : 0 ≤ (ka0 l (a + 1) 0) ∧ (ka0 l (a + 1) 0) ≤ 255 := (kQ : Byt l).at _ zlwi1
  refine yD (kJ 4 [.w, .n (a + 1), .d (D.lit (.int .u8 (ka0 l (a + 1) 0))), .w, .no, .w, .n 8, .i (((ka0 l (a + 0) 0) * 1) + ((ka0 l (a + 1) 0) * 256)), .no]) ((qJ ((a : Int) + 1)) ∧ ((((a : Int) + 1) : Int) = (((a + 1) : Nat) : Int)) ∧ ((a + 1) < m) ∧ ((ka7 (a + 1) (dI .u8 l))[0]? = some (D.lit (.int .u8 (ka0 l (a + 1) 0)))) ∧ (0 ≤ (ka0 l (a + 1) 0) ∧ (ka0 l (a + 1) 0) ≤ 65535) ∧ (qJ (8 : Int)) ∧ (kN 8) ∧ ((8 : Nat) ≤ 16) ∧ (0 ≤ ((ka0 l (a + 1) 0) * 256) ∧ ((ka0 l (a + 1) 0) * 256) ≤ 65535) ∧ (qR .or .u16 ((ka0 l (a + 0) 0) * 1) ((ka0 l (a + 1) 0) * 256) = (((ka0 l (a + 0) 0) * 1) + ((ka0 l (a + 1) 0) * 256)))) [(0, sV .u8 l m), (1, uV a), (2, iV 2), (9, kS (D.lit (.int .u16 (((ka0 l (a + 0) 0) * 1) + ((ka0 l (a + 1) 0) * 256))))), (25, iV 2), (26, iV 1)] ⟨⟨by omega, by omega⟩, (by first | rfl | omega), zo, (qW _ _ _ zlwi0), ⟨by omega, by omega⟩, ⟨by omega, by omega⟩, rfl, zo, ⟨by omega, by omega⟩, (or_loU (.inl ⟨rfl, rfl⟩) (i := 8) 256 (by decide) zo zo zo)⟩ ?_
  refine yD [.w, .no] (qJ (2 : Int)) [(0, sV .u8 l m), (1, uV a), (2, iV 2), (9, kS (D.lit (.int .u16 (((ka0 l (a + 0) 0) * 1) + ((ka0 l (a + 1) 0) * 256))))), (25, iV 2), (26, iV 2)] ⟨by omega, by omega⟩ ?_
  refine AWr.s ?_
  refine kI [.b false] (¬ ((2 : Int) < 2)) [(0, sV .u8 l m), (1, uV a), (2, iV 2), (9, kS (D.lit (.int .u16 (((ka0 l (a + 0) 0) * 1) + ((ka0 l (a + 1) 0) * 256))))), (25, iV 2), (26, iV 2), (27, bV false)] [] 0 zo ?_
  refine AW.seq ?_
  refine zf ?_
  refine AW.exit ?_
  refine kI [.no, .no, .no, .w, .no, .no, .no] (qJ ((a : Int) + 2)) [(6, kS (D.lit (.int .u16 (((ka0 l (a + 0) 0) * 1) + ((ka0 l (a + 1) 0) * 256))))), (7, iV (↑a + 2)), (8, iV 0)] [] 0 ⟨by omega, by omega⟩ ?_
  refine AW.ret ?_
  exact kC (.inr rfl) [] (P := (((g16 l a) : Int) = (((ka0 l (a + 0) 0) * 1) + ((ka0 l (a + 1) 0) * 256))) ∧ (((((a + 2) : Nat) : Int) : Int) = ((a : Int) + 2)) ∧ (kN 0)) zk ⟨(by first | omega | rfl | (unfold g16; omega)), (by first | omega | rfl | (unfold g16; omega)), rfl⟩
theorem W_get16_s (l : List Int) (m a : Nat) (hm : ka1 l = m) (hb : m ≤ 1000000) (hy : Byt l) (ha2 : a ≤ m) (ha : m < a + 2) : Fun 82 [.c (.d (D.sl (dI .u8 l) m)), iE ((a : Nat) : Int), iE 2] (kF []) 0 (.tup [.c (.d (D.lit (.int .u16 0))), iE 0, iE 4]) (kF []) 0 := by
  refine Fun.mk (n := 46) Try.func82 rfl rfl (ka4 rfl) ?_
  intro cx hcx
  refine kI [.no, .no, .no] True [(0, sV .u8 l m), (1, uV a), (2, iV 2)] [] 0 trivial ?_
  refine AW.seq ?_
  refine k8 (.no :: .b false :: kJ 4 [.b false, .no]) ((¬ ((a : Int) < 0)) ∧ (¬ ((m : Int) < (a : Int)))) [(0, sV .u8 l m), (1, uV a), (2, iV 2), (18, bV false)] ⟨zo, zo⟩ ?_
  refine yC ?_
  refine AW.seq ?_
  refine k8 [.no, .no, .no, .w, .no, .b true] ((qJ ((m : Int) - (a : Int))) ∧ ((((m : Int) - (a : Int)) < 2))) [(0, sV .u8 l m), (1, uV a), (2, iV 2), (24, bV true)] ⟨⟨by omega, by omega⟩, zo⟩ ?_
  refine zt ?_
  refine k8 [.no, .no, .no] True [(6, kS (D.lit (.int .u16 0))), (7, iV 0), (8, iV 4)] trivial ?_
  refine AW.ret ?_
  exact kC (.inr rfl) [] (P := (kN 0) ∧ (kN 0) ∧ (kN 4)) zk ⟨rfl, rfl, rfl⟩
theorem W_Get16 (l : List Int) (m a : Nat) (hm : ka1 l = m) (hb : m ≤ 1000000) (hy : Byt l) (ha : a + 2 ≤ m) : Fun 69 [.c (.d (D.sl (dI .u8 l) m)), iE ((a : Nat) : Int)] (kF []) 0 (.tup [.c (.d (D.lit (.int .u16 (g16 l a)))), iE (((a + 2) : Nat) : Int), iE 0]) (kF []) 0 := by
  refine Fun.mk (n := 13) Try.func69 rfl rfl (ka4 rfl) ?_
  intro cx hcx
  refine kI [.no, .no, .no] True [(0, sV .u8 l m), (1, uV a)] [] 0 trivial ?_
  have hx1 : (((0 : Int) ≤ (g16 l a)) ∧ ((g16 l a) ≤ 65535)) := g16_rng (kQ : Byt l) zo
  refine k8 (.no :: .no :: .call [] (.tup [.c (.d (D.lit (.int .u16 (g16 l a)))), uE (a + 2), iE 0]) [] 0 [] none :: kJ 6 []) _ [(4, kS (D.lit (.int .u16 (g16 l a)))), (5, uV (a + 2)), (6, iV 0)] (W_get16 l m a zo zo (kQ : Byt l) zo) ?_
  refine AW.ret ?_
  exact kC (.inr rfl) [] (P := (kN (g16 l a)) ∧ (kN (((a + 2) : Nat) : Int)) ∧ (kN 0)) zk ⟨rfl, rfl, rfl⟩
theorem W_Get16_s (l : List Int) (m a : Nat) (hm : ka1 l = m) (hb : m ≤ 1000000) (hy : Byt l) (ha2 : a ≤ m) (ha : m < a + 2) : Fun 69 [.c (.d (D.sl (dI .u8 l) m)), iE ((a : Nat) : Int)] (kF []) 0 (.tup [.c (.d (D.lit (.int .u16 0))), iE 0, iE 4]) (kF []) 0 := by
  refine Fun.mk (n := 13) Try.func69 rfl rfl (ka4 rfl) ?_
  intro cx hcx
  refine kI [.no, .no, .no] True [(0, sV .u8 l m), (1, uV a)] [] 0 trivial ?_
  refine k8 (.no :: .no :: .call [] (.tup [.c (.d (D.lit (.int .u16 0))), iE 0, iE 4]) [] 0 [] none :: kJ 6 []) _ [(4, kS (D.lit (.int .u16 0))), (5, iV 0), (6, iV 4)] (W_get16_s l m a zo zo (kQ : Byt l) zo zo) ?_
  refine AW.ret ?_
  exact kC (.inr rfl) [] (P := (kN 0) ∧ (kN 0) ∧ (kN 4)) zk ⟨rfl, rfl, rfl⟩
theorem W_get32 (l : List Int) (m a : Nat) (hm : ka1 l = m) (hb : m ≤ 1000000) (hy : Byt l) (ha : a + 4 ≤ m) : Fun 52 [.c (.d (D.sl (dI .u8 l) m)), iE ((a : Nat) : Int), iE 4] (kF []) 0 (.tup [.c (.d (D.lit (.int .u32 (g32 l a)))), iE (((a + 4) : Nat) : Int), iE 0]) (kF []) 0 := by
  refine Fun.mk (n := 46) Try.func52 rfl rfl (ka4 rfl) ?_
  intro cx hcx
  refine kI [.no, .no, .no] True [(0, sV .u8 l m), (1, uV a), (2, iV 4)] [] 0 trivial ?_
  refine AW.seq ?_
  refine k8 (.no :: .b false :: kJ 4 [.b false, .no]) ((¬ ((a : Int) < 0)) ∧ (¬ ((m : Int) < (a : Int)))) [(0, sV .u8 l m), (1, uV a), (2, iV 4), (18, bV false)] ⟨zo, zo⟩ ?_
  refine yC ?_
  refine AW.seq ?_
  refine k8 [.no, .no, .no, .w, .no, .b false] ((qJ ((m : Int) - (a : Int))) ∧ (¬ (((m : Int) - (a : Int)) < 4))) [(0, sV .u8 l m), (1, uV a), (2, iV 4), (24, bV false)] ⟨⟨by omega, by omega⟩, zo⟩ ?_
  refine yC ?_
  refine k8 [.no] True [(0, sV .u8 l m), (1, uV a), (2, iV 4), (9, kS (D.lit (.int .u32 0)))] trivial ?_
  refine AW.seq ?_
  refine k8 [.no, .no] True [(0, sV .u8 l m), (1, uV a), (2, iV 4), (9, kS (D.lit (.int .u32 0))), (25, iV 4), (26, iV 0)] trivial ?_
  refine AW.block ?_
  refine AW.rounds 5 ?_
  refine AWr.s ?_
  refine kI [.b true] (((0 : Int) < 4)) [(0, sV .u8 l m), (1, uV a), (2, iV 4), (9, kS (D.lit (.int .u32 0))), (25, iV 4), (26, iV 0), (27, bV true)] [] 0 zo ?_
  refine AW.seq ?_
  refine vD ?_
  refine AW.seq ?_
  refine AW.block ?_
  refine k8 [.no, .no] True [(0, sV .u8 l m), (1, uV a), (2, iV 4), (9, kS (D.lit (.int .u32 0))), (10, iV 0), (25, iV 4), (26, iV 0)] trivial ?_
  have hx1 : 0 ≤ (ka0 l (a + 0) 0) ∧ (ka0 l (a + 0) 0) ≤ 255 := (kQ : Byt l).at _ zlwi1
  refine yD (kJ 4 [.w, .n (a + 0), .d (D.lit (.int .u8 (ka0 l (a + 0) 0))), .w, .no, .w, .n 0, .i ((ka0 l (a + 0) 0) * 1), .no]) ((qJ ((a : Int) + 0)) ∧ ((((a : Int) + 0) : Int) = (((a + 0) : Nat) : Int)) ∧ ((a + 0) < m) ∧ ((ka7 (a + 0) (dI .u8 l))[0]? = some (D.lit (.int .u8 (ka0 l (a + 0) 0)))) ∧ (0 ≤ (ka0 l (a + 0) 0) ∧ (ka0 l (a + 0) 0) ≤ 4294967295) ∧ (qJ (0 : Int)) ∧ (kN 0) ∧ ((0 : Nat) ≤ 32) ∧ (0 ≤ ((ka0 l (a + 0) 0) * 1) ∧ ((ka0 l (a + 0) 0) * 1) ≤ 4294967295) ∧ (qR .or .u32 0 ((ka0 l (a + 0) 0) * 1) = ((ka0 l (a + 0) 0) * 1))) [(0, sV .u8 l m), (1, uV a), (2, iV 4), (9, kS (D.lit (.int .u32 ((ka0 l (a + 0) 0) * 1)))), (25, iV 4), (26, iV 0)] ⟨⟨by omega, by omega⟩, (by first | rfl | omega), zo, (qW _ _ _ zlwi0), ⟨by omega, by omega⟩, ⟨by omega, by omega⟩, rfl, zo, ⟨by omega, by omega⟩, (or_zU (.inr (.inr ⟨rfl, rfl⟩)) zo).1⟩ ?_
  refine yD [.w, .no] (qJ (1 : Int)) [(0, sV .u8 l m), (1, uV a), (2, iV 4), (9, kS (D.lit (.int .u32 ((ka0 l (a + 0) 0) * 1)))), (25, iV 4), (26, iV 1)] ⟨by omega, by omega⟩ ?_
  refine AWr.s ?_
  refine kI [.b true] (((1 : Int) < 4)) [(0, sV .u8 l m), (1, uV a), (2, iV 4), (9, kS (D.lit (.int .u32 ((ka0 l (a + 0) 0) * 1)))), (25, iV 4), (26, iV 1), (27, bV true)] [] 0 zo ?_
  refine AW.seq ?_
  refine vD ?_
  refine AW.seq ?_
  refine AW.block ?_
  refine k8 [.no, .no] True [(0, sV .u8 l m), (1, uV a), (2, iV 4), (9, kS (D.lit (.int .u32 ((ka0 l (a + 0) 0) * 1)))), (10, iV 1), (25, iV 4), (26, iV 1)] trivial ?_
  have hx2 : 0 ≤ (ka0 l (a + 1) 0) ∧ (ka0 l (a + 1) 0) ≤ 255 := (kQ : Byt l).at _ zlwi1
  refine yD (kJ 4 [.w, .n (a + 1), .d (D.lit (.int .u8 (ka0 l (a + 1) 0))), .w, .no, .w, .n 8, .i (((ka0 l (a + 0) 0) * 1) + ((ka0 l (a + 1) 0) * 256)), .no]) ((qJ ((a : Int) + 1)) ∧ ((((a : Int) + 1) : Int) = (((a + 1) : Nat) : Int)) ∧ ((a + 1) < m) ∧ ((ka7 (a + 1) (dI .u8 l))[0]? = some (D.lit (.int .u8 (ka0 l (a + 1) 0)))) ∧ (0 ≤ (ka0 l (a + 1) 0) ∧ (ka0 l (a + 1) 0) ≤ 4294967295) ∧ (qJ (8 : Int)) ∧ (kN 8) ∧ ((8 : Nat) ≤ 32) ∧ (0 ≤ ((ka0 l (a + 1) 0) * 256) ∧ ((ka0 l (a + 1) 0) * 256) ≤ 4294967295) ∧ (qR .or .u32 ((ka0 l (a + 0) 0) * 1) ((ka0 l (a + 1) 0) * 256) = (((ka0 l (a + 0) 0) * 1) + ((ka0 l (a + 1) 0) * 256)))) [(0, sV .u8 l m), (1, uV a), (2, iV 4), (9, kS (D.lit (.int .u32 (((ka0 l (a + 0) 0) * 1) + ((ka0 l (a + 1) 0) * 256))))), (25, iV 4), (26, iV 1)] ⟨⟨by omega, by omega⟩, (by first | rfl | omega), zo, (qW _ _ _ zlwi0), ⟨by omega, by omega⟩, ⟨by omega, by omega⟩, rfl, zo, ⟨by omega, by omega⟩, (or_loU (.inr (.inr ⟨rfl, rfl⟩)) (i := 8) 256 (by decide) zo zo zo)⟩ ?_
  refine yD [.w, .no] (qJ (2 : Int)) [(0, sV .u8 l m), (1, uV a), (2, iV 4), (9, kS (D.lit (.int .u32 (((ka0 l (a + 0) 0) * 1) + ((ka0 l (a + 1) 0) * 256))))), (25, iV 4), (26, iV 2)] ⟨by omega, by omega⟩ ?_
  refine AWr.s ?_
  refine kI [.b true] (((2 : Int) < 4)) [(0, sV .u8 l m), (1, uV a), (2, iV 4), (9, kS (D.lit (.int .u32 (((ka0 l (a + 0) 0) * 1) + ((ka0 l (a + 1) 0) * 256))))), (25, iV 4), (26, iV 2), (27, bV true)] [] 0 zo ?_
  refine AW.seq ?_
  refine vD ?_
  refine AW.seq ?_
  refine AW.block ?_
  refine k8 [.no, .no] True [(0, sV .u8 l m), (1, uV a), (2, iV 4), (9, kS (D.lit (.int .u32 (((ka0 l (a + 0) 0) * 1) + ((ka0 l (a + 1) 0) * 256))))), (10, iV 2), (25, iV 4), (26, iV 2)] trivial ?_
  have hx3 : 0 ≤ (ka0 l (a + 2) 0) ∧ (ka0 l (a + 2) 0) ≤ 255 := (kQ : Byt l).at _ zlwi1
  refine yD (kJ 4 [.w, .n (a + 2), .d (D.lit (.int .u8 (ka0 l (a + 2) 0))), .w, .no, .w, .n 16, .i ((((ka0 l (a + 0) 0) * 1) + ((ka0 l (a + 1) 0) * 256)) + ((ka0 l (a + 2) 0) * 65536)), .no]) ((qJ ((a : Int) + 2)) ∧ ((((a : Int) + 2) : Int) = (((a + 2) : Nat) : Int)) ∧ ((a + 2) < m) ∧ ((ka7 (a + 2) (dI .u8 l))[0]? = some (D.lit (.int .u8 (ka0 l (a + 2) 0)))) ∧ (0 ≤ (ka0 l (a + 2) 0) ∧ (ka0 l (a + 2) 0) ≤ 4294967295) ∧ (qJ (16 : Int)) ∧ (kN 16) ∧ ((16 : Nat) ≤ 32) ∧ (0 ≤ ((ka0 l (a + 2) 0) * 65536) ∧ ((ka0 l (a + 2) 0) * 65536) ≤ 4294967295) ∧ (qR .or .u32 (((ka0 l (a + 0) 0) * 1) + ((ka0 l (a + 1) 0) * 256)) ((ka0 l (a + 2) 0) * 65536) = ((((ka0 l (a + 0) 0) * 1) + ((ka0 l (a + 1) 0) * 256)) + ((ka0 l (a + 2) 0) * 65536)))) [(0, sV .u8 l m), (1, uV a), (2, iV 4), (9, kS (D.lit (.int .u32 ((((ka0 l (a + 0) 0) * 1) + ((ka0 l (a + 1) 0) * 256)) + ((ka0 l (a + 2) 0) * 65536))))), (25, iV 4), (26, iV 2)] ⟨⟨by omega, by omega⟩, (by first | rfl | omega), zo, (qW _ _ _ zlwi0), ⟨by omega, by omega⟩, ⟨by omega, by omega⟩, rfl, zo, ⟨by omega, by omega⟩, (or_loU (.inr (.inr ⟨rfl, rfl⟩)) (i := 16) 65536 (by decide) zo zo zo)⟩ ?_
  refine yD [.w, .no] (qJ (3 : Int)) [(0, sV .u8 l m), (1, uV a), (2, iV 4), (9, kS (D.lit (.int .u32 ((((ka0 l (a + 0) 0) * 1) + ((ka0 l (a + 1) 0) * 256)) + ((ka0 l (a + 2) 0) * 65536))))), (25, iV 4), (26, iV 3)] ⟨by omega, by omega⟩ ?_
  refine AWr.s ?_
  refine kI [.b true] (((3 : Int) < 4)) [(0, sV .u8 l m), (1, uV a), (2, iV 4), (9, kS (D.lit (.int .u32 ((((ka0 l (a + 0) 0) * 1) + ((ka0 l (a + 1) 0) * 256)) + ((ka0 l (a + 2) 0) * 65536))))), (25, iV 4), (26, iV 3), (27, bV true)] [] 0 zo ?_
  refine AW.seq ?_
  refine vD ?_
  refine AW.seq ?_
  refine AW.block ?_
  refine k8 [.no, .no] True [(0, sV .u8 l m), (1, uV a), (2, iV 4), (9, kS (D.lit (.int .u32 ((((ka0 l (a + 0) 0) * 1) + ((ka0 l (a + 1) 0) * 256)) + ((ka0 l (a + 2) 0) * 65536))))), (10, iV 3), (25, iV 4), (26, iV 3)] trivial ?_
  have hx4 : 0 ≤ (ka0 l (a + 3) 0) ∧ (ka0 l (a + 3) 0) ≤ 255 := (kQ : Byt l).at _ zlwi1
  refine yD (kJ 4 [.w, .n (a + 3), .d (D.lit (.int .u8 (ka0 l (a + 3) 0))), .w, .no, .w, .n 24, .i (((((ka0 l (a + 0) 0) * 1) + ((ka0 l (a + 1) 0) * 256)) + ((ka0 l (a + 2) 0) * 65536)) + ((ka0 l (a + 3) 0) * 16777216)), .no]) ((qJ ((a : Int) + 3)) ∧ ((((a : Int) + 3) : Int) = (((a + 3) : Nat) : Int)) ∧ ((a + 3) < m) ∧ ((ka7 (a + 3) (dI .u8 l))[0]? = some (D.lit (.int .u8 (ka0 l (a + 3) 0)))) ∧ (0 ≤ (ka0 l (a + 3) 0) ∧ (ka0 l (a + 3) 0) ≤ 4294967295) ∧ (qJ (24 : Int)) ∧ (kN 24) ∧ ((24 : Nat) ≤ 32) ∧ (0 ≤ ((ka0 l (a + 3) 0) * 16777216) ∧ ((ka0 l (a + 3) 0) * 16777216) ≤ 4294967295) ∧ (qR .or .u32 ((((ka0 l (a + 0) 0) * 1) + ((ka0 l (a + 1) 0) * 256)) + ((ka0 l (a + 2) 0) * 65536)) ((ka0 l (a + 3) 0) * 16777216) = (((((ka0 l (a + 0) 0) * 1) + ((ka0 l (a + 1) 0) * 256)) + ((ka0 l (a + 2) 0) * 65536)) + ((ka0 l (a + 3) 0) * 16777216)))) [(0, sV .u8 l m), (1, uV a), (2, iV 4), (9, kS (D.lit (.int .u32 (((((ka0 l (a + 0) 0) * 1) + ((ka0 l (a + 1) 0) * 256)) + ((ka0 l (a + 2) 0) * 65536)) + ((ka0 l (a + 3) 0) * 16777216))))), (25, iV 4), (26, iV 3)] ⟨⟨by omega, by omega⟩, (by first | rfl | omega), zo, (qW _ _ _ zlwi0), ⟨by omega, by omega⟩, ⟨by omega, by omega⟩, rfl, zo, ⟨by omega, by omega⟩, (or_loU (.inr (.inr ⟨rfl, rfl⟩)) (i := 24) 16777216 (by decide) zo zo zo)⟩ ?_
  refine yD [.w, .no] (qJ (4 : Int)) [(0, sV .u8 l m), (1, uV a), (2, iV 4), (9, kS (D.lit (.int .u32 (((((ka0 l (a + 0) 0) * 1) + ((ka0 l (a + 1) 0) * 256)) + ((ka0 l (a + 2) 0) * 65536)) + ((ka0 l (a + 3) 0) * 16777216))))), (25, iV 4), (26, iV 4)] ⟨by omega, by omega⟩ ?_
  refine AWr.s ?_
  refine kI [.b false] (¬ ((4 : Int) < 4)) [(0, sV .u8 l m), (1, uV a), (2, iV 4), (9, kS (D.lit (.int .u32 (((((ka0 l (a + 0) 0) * 1) + ((ka0 l (a + 1) 0) * 256)) + ((ka0 l (a + 2) 0) * 65536)) + ((ka0 l (a + 3) 0) * 16777216))))), (25, iV 4), (26, iV 4), (27, bV false)] [] 0 zo ?_
  refine AW.seq ?_
  refine zf ?_
  refine AW.exit ?_
  refine kI [.no, .no, .no, .w, .no, .no, .no] (qJ ((a : Int) + 4)) [(6, kS (D.lit (.int .u32 (((((ka0 l (a + 0) 0) * 1) + ((ka0 l (a + 1) 0) * 256)) + ((ka0 l (a + 2) 0) * 65536)) + ((ka0 l (a + 3) 0) * 16777216))))), (7, iV (↑a + 4)), (8, iV 0)] [] 0 ⟨by omega, by omega⟩ ?_
  refine AW.ret ?_
  exact kC (.inr rfl) [] (P := (((g32 l a) : Int) = (((((ka0 l (a + 0) 0) * 1) + ((ka0 l (a + 1) 0) * 256)) + ((ka0 l (a + 2) 0) * 65536)) + ((ka0 l (a + 3) 0) * 16777216))) ∧ (((((a + 4) : Nat) : Int) : Int) = ((a : Int) + 4)) ∧ (kN 0)) zk ⟨(by first | omega | rfl | (unfold g32; omega)), (by first | omega | rfl | (unfold g32; omega)), rfl⟩
theorem W_get32_s (l : List Int) (m a : Nat) (hm : ka1 l = m) (hb : m ≤ 1000000) (hy : Byt l) (ha2 : a ≤ m) (ha : m < a + 4) : Fun 52 [.c (.d (D.sl (dI .u8 l) m)), iE ((a : Nat) : Int), iE 4] (kF []) 0 (.tup [.c (.d (D.lit (.int .u32 0))), iE 0, iE 4]) (kF []) 0 := by
  refine Fun.mk (n := 46) Try.func52 rfl rfl (ka4 rfl) ?_
  intro cx hcx
  refine kI [.no, .no, .no] True [(0, sV .u8 l m), (1, uV a), (2, iV 4)] [] 0 trivial ?_
  refine AW.seq ?_
  refine k8 (.no :: .b false :: kJ 4 [.b false, .no]) ((¬ ((a : Int) < 0)) ∧ (¬ ((m : Int) < (a : Int)))) [(0, sV .u8 l m), (1, uV a), (2, iV 4), (18, bV false)] ⟨zo, zo⟩ ?_
  refine yC ?_
  refine AW.seq ?_
  refine k8 [.no, .no, .no, .w, .no, .b true] ((qJ ((m : Int) - (a : Int))) ∧ ((((m : Int) - (a : Int)) < 4))) [(0, sV .u8 l m), (1, uV a), (2, iV 4), (24, bV true)] ⟨⟨by omega, by omega⟩, zo⟩ ?_
  refine zt ?_
  refine k8 [.no, .no, .no] True [(6, kS (D.lit (.int .u32 0))), (7, iV 0), (8, iV 4)] trivial ?_
  refine AW.ret ?_
  exact kC (.inr rfl) [] (P := (kN 0) ∧ (kN 0) ∧ (kN 4)) zk ⟨rfl, rfl, rfl⟩
theorem W_Get32 (l : List Int) (m a : Nat) (hm : ka1 l = m) (hb : m ≤ 1000000) (hy : Byt l) (ha : a + 4 ≤ m) : Fun 35 [.c (.d (D.sl (dI .u8 l) m)), iE ((a : Nat) : Int)] (kF []) 0 (.tup [.c (.d (D.lit (.int .u32 (g32 l a)))), iE (((a + 4) : Nat) : Int), iE 0]) (kF []) 0 := by
  refine Fun.mk (n := 13) Try.func35 rfl rfl (ka4 rfl) ?_
  intro cx hcx
  refine kI [.no, .no, .no] True [(0, sV .u8 l m), (1, uV a)] [] 0 trivial ?_
  have hx1 : (((0 : Int) ≤ (g32 l a)) ∧ ((g32 l a) ≤ 4294967295)) := g32_rng (kQ : Byt l) zo
  refine k8 (.no :: .no :: .call [] (.tup [.c (.d (D.lit (.int .u32 (g32 l a)))), uE (a + 4), iE 0]) [] 0 [] none :: kJ 6 []) _ [(4, kS (D.lit (.int .u32 (g32 l a)))), (5, uV (a + 4)), (6, iV 0)] (W_get32 l m a zo zo (kQ : Byt l) zo) ?_
  refine AW.ret ?_
  exact kC (.inr rfl) [] (P := (kN (g32 l a)) ∧ (kN (((a + 4) : Nat) : Int)) ∧ (kN 0)) zk ⟨rfl, rfl, rfl⟩
theorem W_Get32_s (l : List Int) (m a : Nat) (hm : ka1 l = m) (hb : m ≤ 1000000) (hy : Byt l) (ha2 : a ≤ m) (ha : m < a + 4) : Fun 35 [.c (.d (D.sl (dI .u8 l) m)), iE ((a : Nat) : Int)] (kF []) 0 (.tup [.c (.d (D.lit (.int .u32 0))), iE 0, iE 4]) (kF []) 0 := by
  refine Fun.mk (n := 13) Try.func35 rfl rfl (ka4 rfl) ?_
  intro cx hcx
  refine kI [.no, .no, .no] True [(0, sV .u8 l m), (1, uV a)] [] 0 trivial ?_
  refine k8 (.no :: .no :: .call [] (.tup [.c (.d (D.lit (.int .u32 0))), iE 0, iE 4]) [] 0 [] none :: kJ 6 []) _ [(4, kS (D.lit (.int .u32 0))), (5, iV 0), (6, iV 4)] (W_get32_s l m a zo zo (kQ : Byt l) zo zo) ?_
  refine AW.ret ?_
  exact kC (.inr rfl) [] (P := (kN 0) ∧ (kN 0) ∧ (kN 4)) zk ⟨rfl, rfl, rfl⟩
theorem W_get64 (l : List Int) (m a : Nat) (hm : ka1 l = m) (hb : m ≤ 1000000) (hy : Byt l) (ha : a + 8 ≤ m) : Fun 81 [.c (.d (D.sl (dI .u8 l) m)), iE ((a : Nat) : Int), iE 8] (kF []) 0 (.tup [.c (.d (D.lit (.int .u64 (g64 l a)))), iE (((a + 8) : Nat) : Int), iE 0]) (kF []) 0 := by
  refine Fun.mk (n := 46) Try.func81 rfl rfl (ka4 rfl) ?_
  intro cx hcx
  refine kI [.no, .no, .no] True [(0, sV .u8 l m), (1, uV a), (2, iV 8)] [] 0 trivial ?_
  refine AW.seq ?_
  refine k8 (.no :: .b false :: kJ 4 [.b false, .no]) ((¬ ((a : Int) < 0)) ∧ (¬ ((m : Int) < (a : Int)))) [(0, sV .u8 l m), (1, uV a), (2, iV 8), (18, bV false)] ⟨zo, zo⟩ ?_
  refine yC ?_
  refine AW.seq ?_
  refine k8 [.no, .no, .no, .w, .no, .b false] ((qJ ((m : Int) - (a : Int))) ∧ (¬ (((m : Int) - (a : Int)) < 8))) [(0, sV .u8 l m), (1, uV a), (2, iV 8), (24, bV false)] ⟨⟨by omega, by omega⟩, zo⟩ ?_
  refine yC ?_
  refine k8 [.no] True [(0, sV .u8 l m), (1, uV a), (2, iV 8), (9, kS (D.lit (.int .u64 0)))] trivial ?_
  refine AW.seq ?_
  refine k8 [.no, .no] True [(0, sV .u8 l m), (1, uV a), (2, iV 8), (9, kS (D.lit (.int .u64 0))), (25, iV 8), (26, iV 0)] trivial ?_
  refine AW.block ?_
  refine AW.rounds 9 ?_
  refine AWr.s ?_
  refine kI [.b true] (((0 : Int) < 8)) [(0, sV .u8 l m), (1, uV a), (2, iV 8), (9, kS (D.lit (.int .u64 0))), (25, iV 8), (26, iV 0), (27, bV true)] [] 0 zo ?_
  refine AW.seq ?_
  refine vD ?_
  refine AW.seq ?_
  refine AW.block ?_
  refine k8 [.no, .no] True [(0, sV .u8 l m), (1, uV a), (2, iV 8), (9, kS (D.lit (.int .u64 0))), (10, iV 0), (25, iV 8), (26, iV 0)] trivial ?_
  have hx1 : 0 ≤ (ka0 l (a + 0) 0) ∧ (ka0 l (a + 0) 0) ≤ 255 := (kQ : Byt l).at _ zlwi1
  refine yD (kJ 4 [.w, .n (a + 0), .d (D.lit (.int .u8 (ka0 l (a + 0) 0))), .w, .no, .w, .n 0, .i ((ka0 l (a + 0) 0) * 1), .no]) ((qJ ((a : Int) + 0)) ∧ ((((a : Int) + 0) : Int) = (((a + 0) : Nat) : Int)) ∧ ((a + 0) < m) ∧ ((ka7 (a + 0) (dI .u8 l))[0]? = some (D.lit (.int .u8 (ka0 l (a + 0) 0)))) ∧ (0 ≤ (ka0 l (a + 0) 0) ∧ (ka0 l (a + 0) 0) ≤ 18446744073709551615) ∧ (qJ (0 : Int)) ∧ (kN 0) ∧ ((0 : Nat) ≤ 64) ∧ (0 ≤ ((ka0 l (a + 0) 0) * 1) ∧ ((ka0 l (a + 0) 0) * 1) ≤ 18446744073709551615) ∧ (qR .or .u64 0 ((ka0 l (a + 0) 0) * 1) = ((ka0 l (a + 0) 0) * 1))) [(0, sV .u8 l m), (1, uV a), (2, iV 8), (9, kS (D.lit (.int .u64 ((ka0 l (a + 0) 0) * 1)))), (25, iV 8), (26, iV 0)] ⟨⟨by omega, by omega⟩, (by first | rfl | omega), zo, (qW _ _ _ zlwi0), ⟨by omega, by omega⟩, ⟨by omega, by omega⟩, rfl, zo, ⟨by omega, by omega⟩, (or_zU (.inr (.inl ⟨rfl, rfl⟩)) zo).1⟩ ?_
  refine yD [.w, .no] (qJ (1 : Int)) [(0, sV .u8 l m), (1, uV a), (2, iV 8), (9, kS (D.lit (.int .u64 ((ka0 l (a + 0) 0) * 1)))), (25, iV 8), (26, iV 1)] ⟨by omega, by omega⟩ ?_
  refine AWr.s ?_
  refine kI [.b true] (((1 : Int) < 8)) [(0, sV .u8 l m), (1, uV a), (2, iV 8), (9, kS (D.lit (.int .u64 ((ka0 l (a + 0) 0) * 1)))), (25, iV 8), (26, iV 1), (27, bV true)] [] 0 zo ?_
  refine AW.seq ?_
  refine vD ?_
  refine AW.seq ?_
  refine AW.block ?_
  refine k8 [.no, .no] True [(0, sV .u8 l m), (1, uV a), (2, iV 8), (9, kS (D.lit (.int .u64 ((ka0 l (a + 0) 0) * 1)))), (10, iV 1), (25, iV 8), (26, iV 1)] trivial ?_
  have hx2 : 0 ≤ (ka0 l (a + 1) 0) ∧ (ka0 l (a + 1) 0) ≤ 255 := (kQ : Byt l).at _ zlwi1
  refine yD (kJ 4 [.w, .n (a + 1), .d (D.lit (.int .u8 (ka0 l (a + 1) 0))), .w, .no, .w, .n 8, .i (((ka0 l (a + 0) 0) * 1) + ((ka0 l (a + 1) 0) * 256)), .no]) ((qJ ((a : Int) + 1)) ∧ ((((a : Int) + 1) : Int) = (((a + 1) : Nat) : Int)) ∧ ((a + 1) < m) ∧ ((ka7 (a + 1) (dI .u8 l))[0]? = some (D.lit (.int .u8 (ka0 l (a + 1) 0)))) ∧ (0 ≤ (ka0 l (a + 1) 0) ∧ (ka0 l (a + 1) 0) ≤ 18446744073709551615) ∧ (qJ (8 : Int)) ∧ (kN 8) ∧ ((8 : Nat) ≤ 64) ∧ (0 ≤ ((ka0 l (a + 1) 0) * 256) ∧ ((ka0 l (a + 1) 0) * 256) ≤ 18446744073709551615) ∧ (qR .or .u64 ((ka0 l (a + 0) 0) * 1) ((ka0 l (a + 1) 0) * 256) = (((ka0 l (a + 0) 0) * 1) + ((ka0 l (a + 1) 0) * 256)))) [(0, sV .u8 l m), (1, uV a), (2, iV 8), (9, kS (D.lit (.int .u64 (((ka0 l (a + 0) 0) * 1) + ((ka0 l (a + 1) 0) * 256))))), (25, iV 8), (26, iV 1)] ⟨⟨by omega, by omega⟩, (by first | rfl | omega), zo, (qW _ _ _ zlwi0), ⟨by omega, by omega⟩, ⟨by omega, by omega⟩, rfl, zo, ⟨by omega, by omega⟩, (or_loU (.inr (.inl ⟨rfl, rfl⟩)) (i := 8) 256 (by decide) zo zo zo)⟩ ?_
  refine yD [.w, .no] (qJ (2 : Int)) [(0, sV .u8 l m), (1, uV a), (2, iV 8), (9, kS (D.lit (.int .u64 (((ka0 l (a + 0) 0) * 1) + ((ka0 l (a + 1) 0) * 256))))), (25, iV 8), (26, iV 2)] ⟨by omega, by omega⟩ ?_
  refine AWr.s ?_
  refine kI [.b true] (((2 : Int) < 8)) [(0, sV .u8 l m), (1, uV a), (2, iV 8), (9, kS (D.lit (.int .u64 (((ka0 l (a + 0) 0) * 1) + ((ka0 l (a + 1) 0) * 256))))), (25, iV 8), (26, iV 2), (27, bV true)] [] 0 zo ?_
  refine AW.seq ?_
  refine vD ?_
  refine AW.seq ?_
  refine AW.block ?_
  refine k8 [.no, .no] True [(0, sV .u8 l m), (1, uV a), (2, iV 8), (9, kS (D.lit (.int .u64 (((ka0 l (a + 0) 0) * 1) + ((ka0 l (a + 1) 0) * 256))))), (10, iV 2), (25, iV 8), (26, iV 2)] trivial ?_
  have hx3 : 0 ≤ (ka0 l (a + 2) 0) ∧ (ka0 l (a + 2) 0) ≤ 255 := (kQ : Byt l).at _ zlwi1
  refine yD (kJ 4 [.w, .n (a + 2), .d (D.lit (.int .u8 (ka0 l (a + 2) 0))), .w, .no, .w, .n 16, .i ((((ka0 l (a + 0) 0) * 1) + ((ka0 l (a + 1) 0) * 256)) + ((ka0 l (a + 2) 0) * 65536)), .no]) ((qJ ((a : Int) + 2)) ∧ ((((a : Int) + 2) : Int) = (((a + 2) : Nat) : Int)) ∧ ((a + 2) < m) ∧ ((ka7 (a + 2) (dI .u8 l))[0]? = some (D.lit (.int .u8 (ka0 l (a + 2) 0)))) ∧ (0 ≤ (ka0 l (a + 2) 0) ∧ (ka0 l (a + 2) 0) ≤ 18446744073709551615) ∧ (qJ (16 : Int)) ∧ (kN 16) ∧ ((16 : Nat) ≤ 64) ∧ (0 ≤ ((ka0 l (a + 2) 0) * 65536) ∧ ((ka0 l (a + 2) 0) * 65536) ≤ 18446744073709551615) ∧ (qR .or .u64 (((ka0 l (a + 0) 0) * 1) + ((ka0 l (a + 1) 0) * 256)) ((ka0 l (a + 2) 0) * 65536) = ((((ka0 l (a + 0) 0) * 1) + ((ka0 l (a + 1) 0) * 256)) + ((ka0 l (a + 2) 0) * 65536)))) [(0, sV .u8 l m), (1, uV a), (2, iV 8), (9, kS (D.lit (.int .u64 ((((ka0 l (a + 0) 0) * 1) + ((ka0 l (a + 1) 0) * 256)) + ((ka0 l (a + 2) 0) * 65536))))), (25, iV 8), (26, iV 2)] ⟨⟨by omega, by omega⟩, (by first | rfl | omega), zo, (qW _ _ _ zlwi0), ⟨by omega, by omega⟩, ⟨by omega, by omega⟩, rfl, zo, ⟨by omega, by omega⟩, (or_loU (.inr (.inl ⟨rfl, rfl⟩)) (i := 16) 65536 (by decide) zo zo zo)⟩ ?_
  refine yD [.w, .no] (qJ (3 : Int)) [(0, sV .u8 l m), (1, uV a), (2, iV 8), (9, kS (D.lit (.int .u64 ((((ka0 l (a + 0) 0) * 1) + ((ka0 l (a + 1) 0) * 256)) + ((ka0 l (a + 2) 0) * 65536))))), (25, iV 8), (26, iV 3)] ⟨by omega, by omega⟩ ?_
  refine AWr.s ?_
  refine kI [.b true] (((3 : Int) < 8)) [(0, sV .u8 l m), (1, uV a), (2, iV 8), (9, kS (D.lit (.int .u64 ((((ka0 l (a + 0) 0) * 1) + ((ka0 l (a + 1) 0) * 256)) + ((ka0 l (a + 2) 0) * 65536))))), (25, iV 8), (26, iV 3), (27, bV true)] [] 0 zo ?_
  refine AW.seq ?_
  refine vD ?_
  refine AW.seq ?_
  refine AW.block ?_
  refine k8 [.no, .no] True [(0, sV .u8 l m), (1, uV a), (2, iV 8), (9, kS (D.lit (.int .u64 ((((ka0 l (a + 0) 0) * 1) + ((ka0 l (a + 1) 0) * 256)) + ((ka0 l (a + 2) 0) * 65536))))), (10, iV 3), (25, iV 8), (26, iV 3)] trivial ?_
  have hx4 : 0 ≤ (ka0 l (a + 3) 0) ∧ (ka0 l (a + 3) 0) ≤ 255 := (kQ : Byt l).at _ zlwi1
  refine yD (kJ 4 [.w, .n (a + 3), .d (D.lit (.int .u8 (ka0 l (a + 3) 0))), .w, .no, .w, .n 24, .i (((((ka0 l (a + 0) 0) * 1) + ((ka0 l (a + 1) 0) * 256)) + ((ka0 l (a + 2) 0) * 65536)) + ((ka0 l (a + 3) 0) * 16777216)), .no]) ((qJ ((a : Int) + 3)) ∧ ((((a : Int) + 3) : Int) = (((a + 3) : Nat) : Int)) ∧ ((a + 3) < m) ∧ ((ka7 (a + 3) (dI .u8 l))[0]? = some (D.lit (.int .u8 (ka0 l (a + 3) 0)))) ∧ (0 ≤ (ka0 l (a + 3) 0) ∧ (ka0 l (a + 3) 0) ≤ 18446744073709551615) ∧ (qJ (24 : Int)) ∧ (kN 24) ∧ ((24 : Nat) ≤ 64) ∧ (0 ≤ ((ka0 l (a + 3) 0) * 16777216) ∧ ((ka0 l (a + 3) 0) * 16777216) ≤ 18446744073709551615) ∧ (qR .or .u64 ((((ka0 l (a + 0) 0) * 1) + ((ka0 l (a + 1) 0) * 256)) + ((ka0 l (a + 2) 0) * 65536)) ((ka0 l (a + 3) 0) * 16777216) = (((((ka0 l (a + 0) 0) * 1) + ((ka0 l (a + 1) 0) * 256)) + ((ka0 l (a + 2) 0) * 65536)) + ((ka0 l (a + 3) 0) * 16777216)))) [(0, sV .u8 l m), (1, uV a), (2, iV 8), (9, kS (D.lit (.int .u64 (((((ka0 l (a + 0) 0) * 1) + ((ka0 l (a + 1) 0) * 256)) + ((ka0 l (a + 2) 0) * 65536)) + ((ka0 l (a + 3) 0) * 16777216))))), (25, iV 8), (26, iV 3)] ⟨⟨by omega, by omega⟩, (by first | rfl | omega), zo, (qW _ _ _ zlwi0), ⟨by omega, by omega⟩, ⟨by omega, by omega⟩, rfl, zo, ⟨by omega, by omega⟩, (or_loU (.inr (.inl ⟨rfl, rfl⟩)) (i := 24) 16777216 (by decide) zo zo zo)⟩ ?_
  refine yD [.w, .no] (qJ (4 : Int)) [(0, sV .u8 l m), (1, uV a), (2, iV 8), (9, kS (D.lit (.int .u64 (((((ka0 l (a + 0) 0) * 1) + ((ka0 l (a + 1) 0) * 256)) + ((ka0 l (a + 2) 0) * 65536)) + ((ka0 l (a + 3) 0) * 16777216))))), (25, iV 8), (26, iV 4)] ⟨by omega, by omega⟩ ?_
  refine AWr.s ?_
  refine kI [.b true] (((4 : Int) < 8)) [(0, sV .u8 l m), (1, uV a), (2, iV 8), (9, kS (D.lit (.int .u64 (((((ka0 l (a + 0) 0) * 1) + ((ka0 l (a + 1) 0) * 256)) + ((ka0 l (a + 2) 0) * 65536)) + ((ka0 l (a + 3) 0) * 16777216))))), (25, iV 8), (26, iV 4), (27, bV true)] [] 0 zo ?_
  refine AW.seq ?_
  refine vD ?_
  refine AW.seq ?_
  refine AW.block ?_
  refine k8 [.no, .no] True [(0, sV .u8 l m), (1, uV a), (2, iV 8), (9, kS (D.lit (.int .u64 (((((ka0 l (a + 0) 0) * 1) + ((ka0 l (a + 1) 0) * 256)) + ((ka0 l (a + 2) 0) * 65536)) + ((ka0 l (a + 3) 0) * 16777216))))), (10, iV 4), (25, iV 8), (26, iV 4)] trivial ?_
  have hx5 : 0 ≤ (ka0 l (a + 4) 0) ∧ (ka0 l (a + 4) 0) ≤ 255 := (kQ : Byt l).at _ zlwi1
  refine yD (kJ 4 [.w, .n (a + 4), .d (D.lit (.int .u8 (ka0 l (a + 4) 0))), .w, .no, .w, .n 32, .i ((((((ka0 l (a + 0) 0) * 1) + ((ka0 l (a + 1) 0) * 256)) + ((ka0 l (a + 2) 0) * 65536)) + ((ka0 l (a + 3) 0) * 16777216)) + ((ka0 l (a + 4) 0) * 4294967296)), .no]) ((qJ ((a : Int) + 4)) ∧ ((((a : Int) + 4) : Int) = (((a + 4) : Nat) : Int)) ∧ ((a + 4) < m) ∧ ((ka7 (a + 4) (dI .u8 l))[0]? = some (D.lit (.int .u8 (ka0 l (a + 4) 0)))) ∧ (0 ≤ (ka0 l (a + 4) 0) ∧ (ka0 l (a + 4) 0) ≤ 18446744073709551615) ∧ (qJ (32 : Int)) ∧ (kN 32) ∧ ((32 : Nat) ≤ 64) ∧ (0 ≤ ((ka0 l (a + 4) 0) * 4294967296) ∧ ((ka0 l (a + 4) 0) * 4294967296) ≤ 18446744073709551615) ∧ (qR .or .u64 (((((ka0 l (a + 0) 0) * 1) + ((ka0 l (a + 1) 0) * 256)) + ((ka0 l (a + 2) 0) * 65536)) + ((ka0 l (a + 3) 0) * 16777216)) ((ka0 l (a + 4) 0) * 4294967296) = ((((((ka0 l (a + 0) 0) * 1) + ((ka0 l (a + 1) 0) * 256)) + ((ka0 l (a + 2) 0) * 65536)) + ((ka0 l (a + 3) 0) * 16777216)) + ((ka0 l (a + 4) 0) * 4294967296)))) [(0, sV .u8 l m), (1, uV a), (2, iV 8), (9, kS (D.lit (.int .u64 ((((((ka0 l (a + 0) 0) * 1) + ((ka0 l (a + 1) 0) * 256)) + ((ka0 l (a + 2) 0) * 65536)) + ((ka0 l (a + 3) 0) * 16777216)) + ((ka0 l (a + 4) 0) * 4294967296))))), (25, iV 8), (26, iV 4)] ⟨⟨by omega, by omega⟩, (by first | rfl | omega), zo, (qW _ _ _ zlwi0), ⟨by omega, by omega⟩, ⟨by omega, by omega⟩, rfl, zo, ⟨by omega, by omega⟩, (or_loU (.inr (.inl ⟨rfl, rfl⟩)) (i := 32) 4294967296 (by decide) zo zo zo)⟩ ?_
  refine yD [.w, .no] (qJ (5 : Int)) [(0, sV .u8 l m), (1, uV a), (2, iV 8), (9, kS (D.lit (.int .u64 ((((((ka0 l (a + 0) 0) * 1) + ((ka0 l (a + 1) 0) * 256)) + ((ka0 l (a + 2) 0) * 65536)) + ((ka0 l (a + 3) 0) * 16777216)) + ((ka0 l (a + 4) 0) * 4294967296))))), (25, iV 8), (26, iV 5)] ⟨by omega, by omega⟩ ?_
  refine AWr.s ?_
  refine kI [.b true] (((5 : Int) < 8)) [(0, sV .u8 l m), (1, uV a), (2, iV 8), (9, kS (D.lit (.int .u64 ((((((ka0 l (a + 0) 0) * 1) + ((ka0 l (a + 1) 0) * 256)) + ((ka0 l (a + 2) 0) * 65536)) + ((ka0 l (a + 3) 0) * 16777216)) + ((ka0 l (a + 4) 0) * 4294967296))))), (25, iV 8), (26, iV 5), (27, bV true)] [] 0 zo ?_
  refine AW.seq ?_
  refine vD ?_
  refine AW.seq ?_
  refine AW.block ?_
  refine k8 [.no, .no] True [(0, sV .u8 l m), (1, uV a), (2, iV 8), (9, kS (D.lit (.int .u64 ((((((ka0 l (a + 0) 0) * 1) + ((ka0 l (a + 1) 0) * 256)) + ((ka0 l (a + 2) 0) * 65536)) + ((ka0 l (a + 3) 0) * 16777216)) + ((ka0 l (a + 4) 0) * 4294967296))))), (10, iV 5), (25, iV 8), (26, iV 5)] trivial ?_
  have hx6 : 0 ≤ (ka0 l (a + 5) 0) ∧ (ka0 l (a + 5) 0) ≤ 255 := (kQ : Byt l).at _ zlwi1
  refine yD (kJ 4 [.w, .n (a + 5), .d (D.lit (.int .u8 (ka0 l (a + 5) 0))), .w, .no, .w, .n 40, .i (((((((ka0 l (a + 0) 0) * 1) + ((ka0 l (a + 1) 0) * 256)) + ((ka0 l (a + 2) 0) * 65536)) + ((ka0 l (a + 3) 0) * 16777216)) + ((ka0 l (a + 4) 0) * 4294967296)) + ((ka0 l (a + 5) 0) * 1099511627776)), .no]) ((qJ ((a : Int) + 5)) ∧ ((((a : Int) + 5) : Int) = (((a + 5) : Nat) : Int)) ∧ ((a + 5) < m) ∧ ((ka7 (a + 5) (dI .u8 l))[0]? = some (D.lit (.int .u8 (ka0 l (a + 5) 0)))) ∧ (0 ≤ (ka0 l (a + 5) 0) ∧ (ka0 l (a + 5) 0) ≤ 18446744073709551615) ∧ (qJ (40 : Int)) ∧ (kN 40) ∧ ((40 : Nat) ≤ 64) ∧ (0 ≤ ((ka0 l (a + 5) 0) * 1099511627776) ∧ ((ka0 l (a + 5) 0) * 1099511627776) ≤ 18446744073709551615) ∧ (qR .or .u64 ((((((ka0 l (a + 0) 0) * 1) + ((ka0 l (a + 1) 0) * 256)) + ((ka0 l (a + 2) 0) * 65536)) + ((ka0 l (a + 3) 0) * 16777216)) + ((ka0 l (a + 4) 0) * 4294967296)) ((ka0 l (a + 5) 0) * 1099511627776) = (((((((ka0 l (a + 0) 0) * 1) + ((ka0 l (a + 1) 0) * 256)) + ((ka0 l (a + 2) 0) * 65536)) + ((ka0 l (a + 3) 0) * 16777216)) + ((ka0 l (a + 4) 0) * 4294967296)) + ((ka0 l (a + 5) 0) * 1099511627776)))) [(0, sV .u8 l m), (1, uV a), (2, iV 8), (9, kS (D.lit (.int .u64 (((((((ka0 l (a + 0) 0) * 1) + ((ka0 l (a + 1) 0) * 256)) + ((ka0 l (a + 2) 0) * 65536)) + ((ka0 l (a + 3) 0) * 16777216)) + ((ka0 l (a + 4) 0) * 4294967296)) + ((ka0 l (a + 5) 0) * 1099511627776))))), (25, iV 8), (26, iV 5)] ⟨⟨by omega, by omega⟩, (by first | rfl | omega), zo, (qW _ _ _ zlwi0), ⟨by omega, by omega⟩, ⟨by omega, by omega⟩, rfl, zo, ⟨by omega, by omega⟩, (or_loU (.inr (.inl ⟨rfl, rfl⟩)) (i := 40) 1099511627776 (by decide) zo zo zo)⟩ ?_
  refine yD [.w, .no] (qJ (6 : Int)) [(0, sV .u8 l m), (1, uV a), (2, iV 8), (9, kS (D.lit (.int .u64 (((((((ka0 l (a + 0) 0) * 1) + ((ka0 l (a + 1) 0) * 256)) + ((ka0 l (a + 2) 0) * 65536)) + ((ka0 l (a + 3) 0) * 16777216)) + ((ka0 l (a + 4) 0) * 4294967296)) + ((ka0 l (a + 5) 0) * 1099511627776))))), (25, iV 8), (26, iV 6)] ⟨by omega, by omega⟩ ?_
  refine AWr.s ?_
  refine kI [.b true] (((6 : Int) < 8)) [(0, sV .u8 l m), (1, uV a), (2, iV 8), (9, kS (D.lit (.int .u64 (((((((ka0 l (a + 0) 0) * 1) + ((ka0 l (a + 1) 0) * 256)) + ((ka0 l (a + 2) 0) * 65536)) + ((ka0 l (a + 3) 0) * 16777216)) + ((ka0 l (a + 4) 0) * 4294967296)) + ((ka0 l (a + 5) 0) * 1099511627776))))), (25, iV 8), (26, iV 6), (27, bV true)] [] 0 zo ?_
  refine AW.seq ?_
  refine vD ?_
  refine AW.seq ?_
  refine AW.block ?_
  refine k8 [.no, .no] True [(0, sV .u8 l m), (1, uV a), (2, iV 8), (9, kS (D.lit (.int .u64 (((((((ka0 l (a + 0) 0) * 1) + ((ka0 l (a + 1) 0) * 256)) + ((ka0 l (a + 2) 0) * 65536)) + ((ka0 l (a + 3) 0) * 16777216)) + ((ka0 l (a + 4) 0) * 4294967296)) + ((ka0 l (a + 5) 0) * 1099511627776))))), (10, iV 6), (25, iV 8), (26, iV 6)] trivial ?_
  have hx7 : 0 ≤ (ka0 l (a + 6) 0) ∧ (ka0 l (a + 6) 0) ≤ 255 := (kQ : Byt l).at _ zlwi1
  refine yD (kJ 4 [.w, .n (a + 6), .d (D.lit (.int .u8 (ka0 l (a + 6) 0))), .w, .no, .w, .n 48, .i ((((((((ka0 l (a + 0) 0) * 1) + ((ka0 l (a + 1) 0) * 256)) + ((ka0 l (a + 2) 0) * 65536)) + ((ka0 l (a + 3) 0) * 16777216)) + ((ka0 l (a + 4) 0) * 4294967296)) + ((ka0 l (a + 5) 0) * 1099511627776)) + ((ka0 l (a + 6) 0) * 281474976710656)), .no]) ((qJ ((a : Int) + 6)) ∧ ((((a : Int) + 6) : Int) = (((a + 6) : Nat) : Int)) ∧ ((a + 6) < m) ∧ ((ka7 (a + 6) (dI .u8 l))[0]? = some (D.lit (.int .u8 (ka0 l (a + 6) 0)))) ∧ (0 ≤ (ka0 l (a + 6) 0) ∧ (ka0 l (a + 6) 0) ≤ 18446744073709551615) ∧ (qJ (48 : Int)) ∧ (kN 48) ∧ ((48 : Nat) ≤ 64) ∧ (0 ≤ ((ka0 l (a + 6) 0) * 281474976710656) ∧ ((ka0 l (a + 6) 0) * 281474976710656) ≤ 18446744073709551615) ∧ (qR .or .u64 (((((((ka0 l (a + 0) 0) * 1) + ((ka0 l (a + 1) 0) * 256)) + ((ka0 l (a + 2) 0) * 65536)) + ((ka0 l (a + 3) 0) * 16777216)) + ((ka0 l (a + 4) 0) * 4294967296)) + ((ka0 l (a + 5) 0) * 1099511627776)) ((ka0 l (a + 6) 0) * 281474976710656) = ((((((((ka0 l (a + 0) 0) * 1) + ((ka0 l (a + 1) 0) * 256)) + ((ka0 l (a + 2) 0) * 65536)) + ((ka0 l (a + 3) 0) * 16777216)) + ((ka0 l (a + 4) 0) * 4294967296)) + ((ka0 l (a + 5) 0) * 1099511627776)) + ((ka0 l (a + 6) 0) * 281474976710656)))) [(0, sV .u8 l m), (1, uV a), (2, iV 8), (9, kS (D.lit (.int .u64 ((((((((ka0 l (a + 0) 0) * 1) + ((ka0 l (a + 1) 0) * 256)) + ((ka0 l (a + 2) 0) * 65536)) + ((ka0 l (a + 3) 0) * 16777216)) + ((ka0 l (a + 4) 0) * 4294967296)) + ((ka0 l (a + 5) 0) * 1099511627776)) + ((ka0 l (a + 6) 0) * 281474976710656))))), (25, iV 8), (26, iV 6)] ⟨⟨by omega, by omega⟩, (by first | rfl | omega), zo, (qW _ _ _ zlwi0), ⟨by omega, by omega⟩, ⟨by omega, by omega⟩, rfl, zo, ⟨by omega, by omega⟩, (or_loU (.inr (.inl ⟨rfl, rfl⟩)) (i := 48) 281474976710656 (by decide) zo zo zo)⟩ ?_
  refine yD [.w, .no] (qJ (7 : Int)) [(0, sV .u8 l m), (1, uV a), (2, iV 8), (9, kS (D.lit (.int .u64 ((((((((ka0 l (a + 0) 0) * 1) + ((ka0 l (a + 1) 0) * 256)) + ((ka0 l (a + 2) 0) * 65536)) + ((ka0 l (a + 3) 0) * 16777216)) + ((ka0 l (a + 4) 0) * 4294967296)) + ((ka0 l (a + 5) 0) * 1099511627776)) + ((ka0 l (a + 6) 0) * 281474976710656))))), (25, iV 8), (26, iV 7)] ⟨by omega, by omega⟩ ?_
  refine AWr.s ?_
  refine kI [.b true] (((7 : Int) < 8)) [(0, sV .u8 l m), (1, uV a), (2, iV 8), (9, kS (D.lit (.int .u64 ((((((((ka0 l (a + 0) 0) * 1) + ((ka0 l (a + 1) 0) * 256)) + ((ka0 l (a + 2) 0) * 65536)) + ((ka0 l (a + 3) 0) * 16777216)) + ((ka0 l (a + 4) 0) * 4294967296)) + ((ka0 l (a + 5) 0) * 1099511627776)) + ((ka0 l (a + 6) 0) * 281474976710656))))), (25, iV 8), (26, iV 7), (27, bV true)] [] 0 zo ?_
  refine AW.seq ?_
  refine vD ?_
  refine AW.seq ?_
  refine AW.block ?_
  refine k8 [.no, .no] True [(0, sV .u8 l m), (1, uV a), (2, iV 8), (9, kS (D.lit (.int .u64 ((((((((ka0 l (a + 0) 0) * 1) + ((ka0 l (a + 1) 0) * 256)) + ((ka0 l (a + 2) 0) * 65536)) + ((ka0 l (a + 3) 0) * 16777216)) + ((ka0 l (a + 4) 0) * 4294967296)) + ((ka0 l (a + 5) 0) * 1099511627776)) + ((ka0 l (a + 6) 0) * 281474976710656))))), (10, iV 7), (25, iV 8), (26, iV 7)] trivial ?_
  have hx8 : 0 ≤ (ka0 l (a + 7) 0) ∧ (ka0 l (a + 7) 0) ≤ 255 := (kQ : Byt l).at _ zlwi1
  refine yD (kJ 4 [.w, .n (a + 7), .d (D.lit (.int .u8 (ka0 l (a + 7) 0))), .w, .no, .w, .n 56, .i (((((((((ka0 l (a + 0) 0) * 1) + ((ka0 l (a + 1) 0) * 256)) + ((ka0 l (a + 2) 0) * 65536)) + ((ka0 l (a + 3) 0) * 16777216)) + ((ka0 l (a + 4) 0) * 4294967296)) + ((ka0 l (a + 5) 0) * 1099511627776)) + ((ka0 l (a + 6) 0) * 281474976710656)) + ((ka0 l (a + 7) 0) * 72057594037927936)), .no]) ((qJ ((a : Int) + 7)) ∧ ((((a : Int) + 7) : Int) = (((a + 7) : Nat) : Int)) ∧ ((a + 7) < m) ∧ ((ka7 (a + 7) (dI .u8 l))[0]? = some (D.lit (.int .u8 (ka0 l (a + 7) 0)))) ∧ (0 ≤ (ka0 l (a + 7) 0) ∧ (ka0 l (a + 7) 0) ≤ 18446744073709551615) ∧ (qJ (56 : Int)) ∧ (kN 56) ∧ ((56 : Nat) ≤ 64) ∧ (0 ≤ ((ka0 l (a + 7) 0) * 72057594037927936) ∧ ((ka0 l (a + 7) 0) * 72057594037927936) ≤ 18446744073709551615) ∧ (qR .or .u64 ((((((((ka0 l (a + 0) 0) * 1) + ((ka0 l (a + 1) 0) * 256)) + ((ka0 l (a + 2) 0) * 65536)) + ((ka0 l (a + 3) 0) * 16777216)) + ((ka0 l (a + 4) 0) * 4294967296)) + ((ka0 l (a + 5) 0) * 1099511627776)) + ((ka0 l (a + 6) 0) * 281474976710656)) ((ka0 l (a + 7) 0) * 72057594037927936) = (((((((((ka0 l (a + 0) 0) * 1) + ((ka0 l (a + 1) 0) * 256)) + ((ka0 l (a + 2) 0) * 65536)) + ((ka0 l (a + 3) 0) * 16777216)) + ((ka0 l (a + 4) 0) * 4294967296)) + ((ka0 l (a + 5) 0) * 1099511627776)) + ((ka0 l (a + 6) 0) * 281474976710656)) + ((ka0 l (a + 7) 0) * 72057594037927936)))) [(0, sV .u8 l m), (1, uV a), (2, iV 8), (9, kS (D.lit (.int .u64 (((((((((ka0 l (a + 0) 0) * 1) + ((ka0 l (a + 1) 0) * 256)) + ((ka0 l (a + 2) 0) * 65536)) + ((ka0 l (a + 3) 0) * 16777216)) + ((ka0 l (a + 4) 0) * 4294967296)) + ((ka0 l (a + 5) 0) * 1099511627776)) + ((ka0 l (a + 6) 0) * 281474976710656)) + ((ka0 l (a + 7) 0) * 72057594037927936))))), (25, iV 8), (26, iV 7)] ⟨⟨by omega, by omega⟩, (by first | rfl | omega), zo, (qW _ _ _ zlwi0), ⟨by omega, by omega⟩, ⟨by omega, by omega⟩, rfl, zo, ⟨by omega, by omega⟩, (or_loU (.inr (.inl ⟨rfl, rfl⟩)) (i := 56) 72057594037927936 (by decide) zo zo zo)⟩ ?_
  refine yD [.w, .no] (qJ (8 : Int)) [(0, sV .u8 l m), (1, uV a), (2, iV 8), (9, kS (D.lit (.int .u64 (((((((((ka0 l (a + 0) 0) * 1) + ((ka0 l (a + 1) 0) * 256)) + ((ka0 l (a + 2) 0) * 65536)) + ((ka0 l (a + 3) 0) * 16777216)) + ((ka0 l (a + 4) 0) * 4294967296)) + ((ka0 l (a + 5) 0) * 1099511627776)) + ((ka0 l (a + 6) 0) * 281474976710656)) + ((ka0 l (a + 7) 0) * 72057594037927936))))), (25, iV 8), (26, iV 8)] ⟨by omega, by omega⟩ ?_
  refine AWr.s ?_
  refine kI [.b false] (¬ ((8 : Int) < 8)) [(0, sV .u8 l m), (1, uV a), (2, iV 8), (9, kS (D.lit (.int .u64 (((((((((ka0 l (a + 0) 0) * 1) + ((ka0 l (a + 1) 0) * 256)) + ((ka0 l (a + 2) 0) * 65536)) + ((ka0 l (a + 3) 0) * 16777216)) + ((ka0 l (a + 4) 0) * 4294967296)) + ((ka0 l (a + 5) 0) * 1099511627776)) + ((ka0 l (a + 6) 0) * 281474976710656)) + ((ka0 l (a + 7) 0) * 72057594037927936))))), (25, iV 8), (26, iV 8), (27, bV false)] [] 0 zo ?_
  refine AW.seq ?_
  refine zf ?_
  refine AW.exit ?_
  refine kI [.no, .no, .no, .w, .no, .no, .no] (qJ ((a : Int) + 8)) [(6, kS (D.lit (.int .u64 (((((((((ka0 l (a + 0) 0) * 1) + ((ka0 l (a + 1) 0) * 256)) + ((ka0 l (a + 2) 0) * 65536)) + ((ka0 l (a + 3) 0) * 16777216)) + ((ka0 l (a + 4) 0) * 4294967296)) + ((ka0 l (a + 5) 0) * 1099511627776)) + ((ka0 l (a + 6) 0) * 281474976710656)) + ((ka0 l (a + 7) 0) * 72057594037927936))))), (7, iV (↑a + 8)), (8, iV 0)] [] 0 ⟨by omega, by omega⟩ ?_
  refine AW.ret ?_
  exact kC (.inr rfl) [] (P := (((g64 l a) : Int) = (((((((((ka0 l (a + 0) 0) * 1) + ((ka0 l (a + 1) 0) * 256)) + ((ka0 l (a + 2) 0) * 65536)) + ((ka0 l (a + 3) 0) * 16777216)) + ((ka0 l (a + 4) 0) * 4294967296)) + ((ka0 l (a + 5) 0) * 1099511627776)) + ((ka0 l (a + 6) 0) * 281474976710656)) + ((ka0 l (a + 7) 0) * 72057594037927936))) ∧ (((((a + 8) : Nat) : Int) : Int) = ((a : Int) + 8)) ∧ (kN 0)) zk ⟨(by first | omega | rfl | (unfold g64; omega)), (by first | omega | rfl | (unfold g64; omega)), rfl⟩
theorem W_get64_s (l : List Int) (m a : Nat) (hm : ka1 l = m) (hb : m ≤ 1000000) (hy : Byt l) (ha2 : a ≤ m) (ha : m < a + 8) : Fun 81 [.c (.d (D.sl (dI .u8 l) m)), iE ((a : Nat) : Int), iE 8] (kF []) 0 (.tup [.c (.d (D.lit (.int .u64 0))), iE 0, iE 4]) (kF []) 0 := by
  refine Fun.mk (n := 46) Try.func81 rfl rfl (ka4 rfl) ?_
  intro cx hcx
  refine kI [.no, .no, .no] True [(0, sV .u8 l m), (1, uV a), (2, iV 8)] [] 0 trivial ?_
  refine AW.seq ?_
  refine k8 (.no :: .b false :: kJ 4 [.b false, .no]) ((¬ ((a : Int) < 0)) ∧ (¬ ((m : Int) < (a : Int)))) [(0, sV .u8 l m), (1, uV a), (2, iV 8), (18, bV false)] ⟨zo, zo⟩ ?_
  refine yC ?_
  refine AW.seq ?_
  refine k8 [.no, .no, .no, .w, .no, .b true] ((qJ ((m : Int) - (a : Int))) ∧ ((((m : Int) - (a : Int)) < 8))) [(0, sV .u8 l m), (1, uV a), (2, iV 8), (24, bV true)] ⟨⟨by omega, by omega⟩, zo⟩ ?_
  refine zt ?_
  refine k8 [.no, .no, .no] True [(6, kS (D.lit (.int .u64 0))), (7, iV 0), (8, iV 4)] trivial ?_
  refine AW.ret ?_
  exact kC (.inr rfl) [] (P := (kN 0) ∧ (kN 0) ∧ (kN 4)) zk ⟨rfl, rfl, rfl⟩
theorem W_Get64 (l : List Int) (m a : Nat) (hm : ka1 l = m) (hb : m ≤ 1000000) (hy : Byt l) (ha : a + 8 ≤ m) : Fun 67 [.c (.d (D.sl (dI .u8 l) m)), iE ((a : Nat) : Int)] (kF []) 0 (.tup [.c (.d (D.lit (.int .u64 (g64 l a)))), iE (((a + 8) : Nat) : Int), iE 0]) (kF []) 0 := by
  refine Fun.mk (n := 13) Try.func67 rfl rfl (ka4 rfl) ?_
  intro cx hcx
  refine kI [.no, .no, .no] True [(0, sV .u8 l m), (1, uV a)] [] 0 trivial ?_
  have hx1 : (((0 : Int) ≤ (g64 l a)) ∧ ((g64 l a) ≤ 18446744073709551615)) := g64_rng (kQ : Byt l) zo
  refine k8 (.no :: .no :: .call [] (.tup [.c (.d (D.lit (.int .u64 (g64 l a)))), uE (a + 8), iE 0]) [] 0 [] none :: kJ 6 []) _ [(4, kS (D.lit (.int .u64 (g64 l a)))), (5, uV (a + 8)), (6, iV 0)] (W_get64 l m a zo zo (kQ : Byt l) zo) ?_
  refine AW.ret ?_
  exact kC (.inr rfl) [] (P := (kN (g64 l a)) ∧ (kN (((a + 8) : Nat) : Int)) ∧ (kN 0)) zk ⟨rfl, rfl, rfl⟩
theorem W_Get64_s (l : List Int) (m a : Nat) (hm : ka1 l = m) (hb : m ≤ 1000000) (hy : Byt l) (ha2 : a ≤ m) (ha : m < a + 8) : Fun 67 [.c (.d (D.sl (dI .u8 l) m)), iE ((a : Nat) : Int)] (kF []) 0 (.tup [.c (.d (D.lit (.int .u64 0))), iE 0, iE 4]) (kF []) 0 := by
  refine Fun.mk (n := 13) Try.func67 rfl rfl (ka4 rfl) ?_
  intro cx hcx
  refine kI [.no, .no, .no] True [(0, sV .u8 l m), (1, uV a)] [] 0 trivial ?_
  refine k8 (.no :: .no :: .call [] (.tup [.c (.d (D.lit (.int .u64 0))), iE 0, iE 4]) [] 0 [] none :: kJ 6 []) _ [(4, kS (D.lit (.int .u64 0))), (5, iV 0), (6, iV 4)] (W_get64_s l m a zo zo (kQ : Byt l) zo zo) ?_
  refine AW.ret ?_
  exact kC (.inr rfl) [] (P := (kN 0) ∧ (kN 0) ∧ (kN 4)) zk ⟨rfl, rfl, rfl⟩
end Go.Proofs.Ytdbjebdomdnbkaa
