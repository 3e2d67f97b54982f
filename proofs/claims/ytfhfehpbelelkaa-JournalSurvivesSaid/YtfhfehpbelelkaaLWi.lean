/- Numbers in bytes, hashes. No statement is proved here. -/
import Derived.Test.YtfhfehpbelelkaaLBy
namespace Go.Proofs.Ytfhfehpbelelkaa
open Go.ChangeShapes Go.WideShapes Go.ChangeAt Go.RowKit
set_option linter.unusedVariables false
set_option linter.unusedSimpArgs false


theorem wrap_u8 (x : Int) : IntKind.u8.wrap x = x % 256 := by simp [IntKind.wrap, IntKind.bits, IntKind.signed]
theorem wrap_u16 (x : Int) : IntKind.u16.wrap x = x % 65536 := by simp [IntKind.wrap, IntKind.bits, IntKind.signed]
theorem wrap_u64 (x : Int) : IntKind.u64.wrap x = x % 18446744073709551616 := by simp [IntKind.wrap, IntKind.bits, IntKind.signed]
theorem or_natN {N a c i : Nat} (hc : c < 2 ^ i) (hs : a * 2 ^ i + c < 2 ^ N) : ((BitVec.ofInt N ((a * 2 ^ i : Nat) : Int)) ||| (BitVec.ofInt N (c : Int))).toNat = a * 2 ^ i + c := by
  have h1 : a * 2 ^ i < 2 ^ N := by omega
  have h2 : c < 2 ^ N := by omega
  rw [BitVec.toNat_or, BitVec.toNat_ofInt, BitVec.toNat_ofInt]
  have e1 : (((a * 2 ^ i : Nat) : Int) % (2 ^ N : Nat)).toNat = a * 2 ^ i := by
    rw [← Int.natCast_emod, Int.toNat_natCast]; exact Nat.mod_eq_of_lt h1
  have e2 : ((c : Int) % (2 ^ N : Nat)).toNat = c := by
    rw [← Int.natCast_emod, Int.toNat_natCast]; exact Nat.mod_eq_of_lt h2
  rw [e1, e2, ← Nat.shiftLeft_eq, ← Nat.shiftLeft_add_eq_or_of_lt hc]
theorem or_hiU {lim : Int} {k : IntKind} (hk : (k = .u16 ∧ lim = 65536) ∨ (k = .u64 ∧ lim = 18446744073709551616)) {a c : Int} {i : Nat} (p : Int) (hp : p = 2 ^ i) (ha : 0 ≤ a) (hc : 0 ≤ c ∧ c < p) (hs : a * p + c < lim) : bitsI .or k (a * p) c = a * p + c := by
  obtain ⟨a, rfl⟩ := Int.eq_ofNat_of_zero_le ha
  obtain ⟨c, rfl⟩ := Int.eq_ofNat_of_zero_le hc.1
  have e0 : (a : Int) * p = ((a * 2 ^ i : Nat) : Int) := by rw [hp]; simp
  rw [e0] at hs ⊢
  have hc2 : c < 2 ^ i := by have := hc.2; rw [hp] at this; exact_mod_cast this
  rcases hk with ⟨rfl, rfl⟩ | ⟨rfl, rfl⟩
  · have h9 := or_natN (N := 16) (a := a) hc2 (by omega)
    show IntKind.u16.wrap (((BitVec.ofInt 16 _) ||| (BitVec.ofInt 16 _)).toNat : Int) = _
    rw [h9, wrap_in (by simp only [inK]; omega)]; simp
  · have h9 := or_natN (N := 64) (a := a) hc2 (by omega)
    show IntKind.u64.wrap (((BitVec.ofInt 64 _) ||| (BitVec.ofInt 64 _)).toNat : Int) = _
    rw [h9, wrap_in (by simp only [inK]; omega)]; simp
theorem bitsI_or_comm (k : IntKind) (x y : Int) : bitsI .or k x y = bitsI .or k y x := by
  show k.wrap ((BitVec.ofInt k.bits x) ||| (BitVec.ofInt k.bits y)).toNat = k.wrap ((BitVec.ofInt k.bits y) ||| (BitVec.ofInt k.bits x)).toNat
  rw [BitVec.or_comm]
theorem or_loU {lim : Int} {k : IntKind} (hk : (k = .u16 ∧ lim = 65536) ∨ (k = .u64 ∧ lim = 18446744073709551616)) {a c : Int} {i : Nat} (p : Int) (hp : p = 2 ^ i) (ha : 0 ≤ a) (hc : 0 ≤ c ∧ c < p) (hs : a * p + c < lim) : bitsI .or k c (a * p) = c + a * p := by
  rw [bitsI_or_comm, or_hiU hk p hp ha hc hs, Int.add_comm]
theorem or_zU {lim : Int} {k : IntKind} (hk : (k = .u16 ∧ lim = 65536) ∨ (k = .u64 ∧ lim = 18446744073709551616)) {c : Int} (hc : 0 ≤ c ∧ c < lim) : bitsI .or k 0 c = c ∧ bitsI .or k c 0 = c := by
  have h := or_hiU (k := k) hk (a := 0) (c := c) (i := 64) 18446744073709551616 (by decide) (by omega) (by rcases hk with ⟨_, rfl⟩ | ⟨_, rfl⟩ <;> omega) (by omega)
  rw [Int.zero_mul, Int.zero_add] at h
  exact ⟨h, (bitsI_or_comm k c 0).trans h⟩
/-- the first k bytes of a number -/
def pbL (n : Int) : Nat → List Int
  | 0 => []
  | k + 1 => pbL n k ++ [n / ((2 ^ (8 * k) : Nat) : Int) % 256]
theorem pbL_len (n : Int) : ∀ k, (pbL n k).length = k
  | 0 => rfl
  | k + 1 => by show (pbL n k ++ [_]).length = _; rw [List.length_append, pbL_len n k]; rfl
theorem pbL_byt (n : Int) : ∀ k, Byt (pbL n k)
  | 0 => Byt.nil
  | k + 1 => (pbL_byt n k).app (Byt.cons (by omega) Byt.nil)
theorem put_z (m s : Nat) (l : List Int) (n : Int) (hm : l.length = m) : List.take 0 (List.replicate m (0 : Int)) ++ List.take m l ++ List.drop (0 + m) (List.replicate m (0 : Int)) = l ++ pbL n 0 := by
  subst hm; simp [pbL]
/-- numbers of 2 and of 8 bytes -/
def g16 (l : List Int) (a : Nat) : Int := List.getD l (a + 0) 0 * 1 + List.getD l (a + 1) 0 * 256
def g64 (l : List Int) (a : Nat) : Int := List.getD l (a + 0) 0 * 1 + List.getD l (a + 1) 0 * 256 + List.getD l (a + 2) 0 * 65536 + List.getD l (a + 3) 0 * 16777216 + List.getD l (a + 4) 0 * 4294967296 + List.getD l (a + 5) 0 * 1099511627776 + List.getD l (a + 6) 0 * 281474976710656 + List.getD l (a + 7) 0 * 72057594037927936
theorem g16_rng {l : List Int} {a : Nat} (h : Byt l) (ha : a + 2 ≤ l.length) : 0 ≤ g16 l a ∧ g16 l a ≤ 65535 := by
  have h0 := h.at (a + 0) (by omega); have h1 := h.at (a + 1) (by omega)
  unfold g16; omega
theorem g64_rng {l : List Int} {a : Nat} (h : Byt l) (ha : a + 8 ≤ l.length) : 0 ≤ g64 l a ∧ g64 l a ≤ 18446744073709551615 := by
  have h0 := h.at (a + 0) (by omega)
  have h1 := h.at (a + 1) (by omega)
  have h2 := h.at (a + 2) (by omega)
  have h3 := h.at (a + 3) (by omega)
  have h4 := h.at (a + 4) (by omega)
  have h5 := h.at (a + 5) (by omega)
  have h6 := h.at (a + 6) (by omega)
  have h7 := h.at (a + 7) (by omega)
  unfold g64; omega
/-- a fold over bytes -/
def foldI (f : Int → Int → Int) (h : Int) : List Int → Int
  | [] => h
  | x :: xs => foldI f (f h x) xs
theorem foldI_snoc (f : Int → Int → Int) (x : Int) : ∀ (l : List Int) (h : Int), foldI f h (l ++ [x]) = f (foldI f h l) x
  | [], _ => rfl
  | _ :: l, h => foldI_snoc f x l _
def hsF (h x : Int) : Int := IntKind.u64.wrap (bitsI .xor .u64 h x * 1099511628211)
theorem hsF_rng (h x : Int) : 0 ≤ hsF h x ∧ hsF h x ≤ 18446744073709551615 := by unfold hsF; rw [wrap_u64]; omega
def hvK (l : List Int) (k : Nat) : Int := foldI hsF 14695981039346656037 (List.take k l)
/-- the hash of bytes -/
def hvF (l : List Int) : Int := hvK l l.length
theorem hvK_z (l : List Int) : hvK l 0 = 14695981039346656037 := rfl
theorem hvK_s {l : List Int} {k : Nat} (h : k < l.length) : IntKind.u64.wrap (bitsI .xor .u64 (hvK l k) (List.getD l k 0) * 1099511628211) = hvK l (k + 1) := by
  unfold hvK
  rw [List.take_add_one, List.getElem?_eq_getElem h, Option.toList_some, foldI_snoc, List.getD_eq_getElem?_getD, List.getElem?_eq_getElem h]; rfl
theorem fold_rng {f : Int → Int → Int} (hf : ∀ a b, 0 ≤ f a b ∧ f a b ≤ 18446744073709551615) : ∀ (l : List Int) (h : Int), 0 ≤ h ∧ h ≤ 18446744073709551615 → 0 ≤ foldI f h l ∧ foldI f h l ≤ 18446744073709551615
  | [], _, h => h
  | x :: l, h, _ => fold_rng hf l _ (hf h x)
theorem hvK_rng (l : List Int) (k : Nat) : 0 ≤ hvK l k ∧ hvK l k ≤ 18446744073709551615 := fold_rng hsF_rng _ _ (by omega)
theorem hvF_rng (l : List Int) : 0 ≤ hvF l ∧ hvF l ≤ 18446744073709551615 := hvK_rng l _

set_option maxHeartbeats 4000000 in
set_option maxRecDepth 100000 in
theorem W_put16 (l : List Int) (m s : Nat) (n : Int) (hm : List.length l = m) (hb : m ≤ 1000000) (hs : s ≤ 2) (hn : 0 ≤ n ∧ n ≤ 65535) : Fun 33 [.c (.d (D.sl (dI .u8 l) m)), .c (.d (D.lit (.int .u16 n))), iE ((s : Nat) : Int)] (toG []) 0 (oV 0 0 (m + s) 1) (toG [(0, some (5, .ds (dI .u8 (l ++ (pbL n s)))))]) 1 := by
  refine Fun.mk (n := 33) Try.func33 rfl rfl (Nat.le_of_ble_eq_true rfl) ?_
  intro cx hcx
  refine AW.rgs [.no] [0, 1, 2] [] (P := True) (l' := [(0, sV .u8 l m), (1, .e (.c (.d (D.lit (.int .u16 n))))), (2, iV ↑s)]) (g' := []) (nx' := 0) (by kernel_rfl) trivial ?_
  refine AW.rgs [.no, .no, .no, .no, .no, .w, .mk m (m + s) (dI .u8 (List.replicate m 0)), .no] [0, 1, 2, 7] [0] (P := ((-9223372036854775808) ≤ (((m : Nat) : Int) + ((s : Nat) : Int)) ∧ (((m : Nat) : Int) + ((s : Nat) : Int)) ≤ 9223372036854775807) ∧ ((((m : Nat) : Int) : Int) = ((m : Nat) : Int)) ∧ (((((m : Nat) : Int) + ((s : Nat) : Int)) : Int) = (((m + s) : Nat) : Int)) ∧ (m ≤ (m + s)) ∧ (1 * (m + s) ≤ 281474976710656) ∧ (List.replicate m (D.lit (.int .u8 0)) = dI .u8 (List.replicate m 0))) (l' := [(0, sV .u8 l m), (1, .e (.c (.d (D.lit (.int .u16 n))))), (2, iV ↑s), (7, oV 0 0 m 1)]) (g' := [(0, some (5, .ds (dI .u8 (List.replicate m 0))))]) (nx' := 1) (by kernel_rfl) ⟨⟨by omega, by omega⟩, rfl, (by first | rfl | omega), (by omega), (by omega), (dI_rep _ _ _)⟩ ?_
  refine AW.rgs [.no, .no, .cp none m (dI .u8 (((List.take 0 (List.replicate m 0)) ++ (List.take m l)) ++ (List.drop (0 + m) (List.replicate m 0))))] [1, 2, 7] [0] (P := ((dI .u8 l).length = m * 1) ∧ ((0 : Nat) + m ≤ (dI .u8 (List.replicate m 0)).length) ∧ (min m m = m) ∧ (List.take 0 (dI .u8 (List.replicate m 0)) ++ List.take m (dI .u8 l) ++ List.drop (0 + m) (dI .u8 (List.replicate m 0)) = dI .u8 (((List.take 0 (List.replicate m 0)) ++ (List.take m l)) ++ (List.drop (0 + m) (List.replicate m 0))))) (l' := [(1, .e (.c (.d (D.lit (.int .u16 n))))), (2, iV ↑s), (7, oV 0 0 m 1)]) (g' := [(0, some (5, .ds (dI .u8 (((List.take 0 (List.replicate m 0)) ++ (List.take m l)) ++ (List.drop (0 + m) (List.replicate m 0))))))]) (nx' := 1) (by kernel_rfl) ⟨(by first | omega | (simp only [bsD_len, dI_len, List.length_append, List.length_cons, List.length_nil, List.length_take, List.length_drop, List.length_replicate, List.length_set, List.length_map, List.length_reverse, Nat.mul_one] <;> omega) | rfl), (by first | omega | (simp only [bsD_len, dI_len, List.length_append, List.length_cons, List.length_nil, List.length_take, List.length_drop, List.length_replicate, List.length_set, List.length_map, List.length_reverse, Nat.mul_one] <;> omega) | rfl), (by omega), (by first | exact dI_cp _ _ _ _ _ | exact dI_cp _ _ _ 0 _)⟩ ?_
  refine AW.seq ?_
  refine AW.rgs [.no, .no] [1, 7, 19, 20] [0] (P := True) (l' := [(1, .e (.c (.d (D.lit (.int .u16 n))))), (7, oV 0 0 m 1), (19, iV ↑s), (20, iV 0)]) (g' := [(0, some (5, .ds (dI .u8 (((List.take 0 (List.replicate m 0)) ++ (List.take m l)) ++ (List.drop (0 + m) (List.replicate m 0))))))]) (nx' := 1) (by kernel_rfl) trivial ?_
  refine AW.block ?_
  refine AW.loopE 0 hcx (fun (x : {x : Nat // match x with | i => (i ≤ s)}) => match x with | ⟨i, _⟩ => (⟨[(1, .e (.c (.d (D.lit (.int .u16 n))))), (7, oV 0 0 (m + i) 1), (19, iV ((s : Nat) : Int)), (20, iV ((i : Nat) : Int))], [(0, some (5, .ds (dI .u8 (l ++ (pbL n i)))))], 1⟩ : ES)) (fun (x : {x : Nat // match x with | i => (i ≤ s)}) => match x with | ⟨i, _⟩ => s - i) ⟨(0 : Nat), (show ((0 : Nat) ≤ s) from (by first | omega | assumption | simp))⟩ [] (P := ((n : Int) = n) ∧ ((0 : Nat) = 0) ∧ (((m + 0) : Nat) = m) ∧ ((((s : Nat) : Int) : Int) = ((s : Nat) : Int)) ∧ ((0 : Int) = 0) ∧ (((dI .u8 (l ++ (pbL n 0))) : List D) = (dI .u8 (((List.take 0 (List.replicate m 0)) ++ (List.take m l)) ++ (List.drop (0 + m) (List.replicate m 0)))))) (by kernel_rfl) ⟨rfl, rfl, (by first | rfl | omega | assumption | (simp; done) | (simp; omega)), rfl, rfl, (by first | rfl | (rw [put_z _ s _ n hm]) | (simp [pbL]; done) | (rw [List.append_assoc]; rfl))⟩ ?_
  rintro ⟨i, hinv0⟩
  have hi : (i ≤ s) := hinv0
  refine AW.es (l := [(1, .e (.c (.d (D.lit (.int .u16 n))))), (7, oV 0 0 (m + i) 1), (19, iV ((s : Nat) : Int)), (20, iV ((i : Nat) : Int))]) (g := [(0, some (5, .ds (dI .u8 (l ++ (pbL n i)))))]) (nx := 1) rfl rfl rfl ?_
  have hpl : List.length (pbL n i) = i := pbL_len n i
  by_cases hx1 : (((i : Nat) : Int) < ((s : Nat) : Int))
  · refine AW.rgs [.b true] [1, 7, 19, 20, 21] [0] (P := ((((i : Nat) : Int) < ((s : Nat) : Int)))) (l' := [(1, .e (.c (.d (D.lit (.int .u16 n))))), (7, oV 0 0 (m + i) 1), (19, iV ↑s), (20, iV ↑i), (21, bV true)]) (g' := [(0, some (5, .ds (dI .u8 (l ++ (pbL n i)))))]) (nx' := 1) (by kernel_rfl) (by omega) ?_
    refine AW.seq ?_
    refine AW.cond_t (.tmp (Look.of rfl)) ?_
    refine AW.skip ?_
    refine AW.seq ?_
    refine AW.block ?_
    refine AW.rgs [.no, .no] [1, 7, 8, 19, 20] [0] (P := True) (l' := [(1, .e (.c (.d (D.lit (.int .u16 n))))), (7, oV 0 0 (m + i) 1), (8, iV ↑i), (19, iV ↑s), (20, iV ↑i)]) (g' := [(0, some (5, .ds (dI .u8 (l ++ (pbL n i)))))]) (nx' := 1) (by kernel_rfl) trivial ?_
    refine AW.rg [.no, .no, .no, .w, .n (8 * i), .i ((n / (((2 ^ (8 * i)) : Nat) : Int)) % 256), .no, .ap none ((m + i) + 1) (dI .u8 ((l ++ (pbL n i)) ++ ([((n / (((2 ^ (8 * i)) : Nat) : Int)) % 256)] : List Int))), .no] [1, 7, 19, 20] [2] (P := ((-9223372036854775808) ≤ (8 * ((i : Nat) : Int)) ∧ (8 * ((i : Nat) : Int)) ≤ 9223372036854775807) ∧ (((8 * ((i : Nat) : Int)) : Int) = (((8 * i) : Nat) : Int)) ∧ ((8 * i) ≤ 16) ∧ (IntKind.u8.wrap (n / (((2 ^ (8 * i)) : Nat) : Int)) = ((n / (((2 ^ (8 * i)) : Nat) : Int)) % 256)) ∧ ([D.lit (.int .u8 ((n / (((2 ^ (8 * i)) : Nat) : Int)) % 256))].length = 1 * 1) ∧ (((dI .u8 (l ++ (pbL n i))) : List D).length = (m + i) * 1) ∧ (((m + i) + 1) * 1 ≤ 140737488355328) ∧ ((m + i) + 1 = ((m + i) + 1)) ∧ (((dI .u8 (l ++ (pbL n i))) : List D) ++ [D.lit (.int .u8 ((n / (((2 ^ (8 * i)) : Nat) : Int)) % 256))] = (dI .u8 ((l ++ (pbL n i)) ++ ([((n / (((2 ^ (8 * i)) : Nat) : Int)) % 256)] : List Int))))) (l' := [(1, .e (.c (.d (D.lit (.int .u16 n))))), (7, oV 2 0 ((m + i) + 1) 1), (19, iV ↑s), (20, iV ↑i)]) (g' := [(2, some (5, .ds (dI .u8 ((l ++ (pbL n i)) ++ ([((n / (((2 ^ (8 * i)) : Nat) : Int)) % 256)] : List Int)))))]) (nx' := 3) (by kernel_rfl) ⟨⟨by omega, by omega⟩, (by first | rfl | omega), (by omega), (wrap_u8 _), (by first | omega | (simp only [bsD_len, dI_len, List.length_append, List.length_cons, List.length_nil, List.length_take, List.length_drop, List.length_replicate, List.length_set, List.length_map, List.length_reverse, Nat.mul_one] <;> omega) | rfl), (by first | omega | (simp only [bsD_len, dI_len, List.length_append, List.length_cons, List.length_nil, List.length_take, List.length_drop, List.length_replicate, List.length_set, List.length_map, List.length_reverse, Nat.mul_one] <;> omega) | rfl), (by omega), (by omega), (dI_app .u8 (l ++ (pbL n i)) ([((n / (((2 ^ (8 * i)) : Nat) : Int)) % 256)] : List Int))⟩ ?_
    refine AW.rg [.w, .no] [1, 7, 19, 20] [2] (P := ((-9223372036854775808) ≤ (((i : Nat) : Int) + 1) ∧ (((i : Nat) : Int) + 1) ≤ 9223372036854775807)) (l' := [(1, .e (.c (.d (D.lit (.int .u16 n))))), (7, oV 2 0 ((m + i) + 1) 1), (19, iV ↑s), (20, iV (↑i + 1))]) (g' := [(2, some (5, .ds (dI .u8 ((l ++ (pbL n i)) ++ ([((n / (((2 ^ (8 * i)) : Nat) : Int)) % 256)] : List Int)))))]) (nx' := 3) (by kernel_rfl) ⟨by omega, by omega⟩ ?_
    exact Rd.of ⟨((i + 1) : Nat), (show ((i + 1) ≤ s) from (by first | omega | assumption | simp))⟩ [(0, 2)] (P := ((n : Int) = n) ∧ ((0 : Nat) = 0) ∧ (((m + (i + 1)) : Nat) = ((m + i) + 1)) ∧ ((((s : Nat) : Int) : Int) = ((s : Nat) : Int)) ∧ (((((i + 1) : Nat) : Int) : Int) = (((i : Nat) : Int) + 1)) ∧ (((dI .u8 (l ++ (pbL n (i + 1)))) : List D) = (dI .u8 ((l ++ (pbL n i)) ++ ([((n / (((2 ^ (8 * i)) : Nat) : Int)) % 256)] : List Int))))) (by kernel_rfl) ⟨rfl, rfl, (by first | rfl | omega | assumption | (simp; done) | (simp; omega)), rfl, (by first | rfl | omega | assumption | (simp; done) | (simp; omega)), (by first | rfl | (rw [put_z _ s _ n hm]) | (simp [pbL]; done) | (rw [List.append_assoc]; rfl))⟩ (show s - (i + 1) < s - i from (by first | omega | (show _ < _; simp; omega)))
  · refine AW.rgs [.b false] [1, 7, 19, 20, 21] [0] (P := (¬ (((i : Nat) : Int) < ((s : Nat) : Int)))) (l' := [(1, .e (.c (.d (D.lit (.int .u16 n))))), (7, oV 0 0 (m + i) 1), (19, iV ↑s), (20, iV ↑i), (21, bV false)]) (g' := [(0, some (5, .ds (dI .u8 (l ++ (pbL n i)))))]) (nx' := 1) (by kernel_rfl) (by omega) ?_
    refine AW.seq ?_
    refine AW.cond_f (.tmp (Look.of rfl)) ?_
    refine AW.exit ?_
    refine AW.rgs [.no, .no] [6] [0] (P := True) (l' := [(6, oV 0 0 (m + i) 1)]) (g' := [(0, some (5, .ds (dI .u8 (l ++ (pbL n i)))))]) (nx' := 1) (by kernel_rfl) trivial ?_
    refine AW.ret ?_
    obtain rfl : s = i := by omega
    exact EndP.of (.inr rfl) [] (P := ((0 : Nat) = 0) ∧ (((m + s) : Nat) = (m + s)) ∧ (((dI .u8 (l ++ (pbL n s))) : List D) = (dI .u8 (l ++ (pbL n s))))) (by kernel_rfl) ⟨rfl, rfl, rfl⟩

set_option maxHeartbeats 4000000 in
set_option maxRecDepth 100000 in
theorem W_put64 (l : List Int) (m s : Nat) (n : Int) (hm : List.length l = m) (hb : m ≤ 1000000) (hs : s ≤ 8) (hn : 0 ≤ n ∧ n ≤ 18446744073709551615) : Fun 34 [.c (.d (D.sl (dI .u8 l) m)), .c (.d (D.lit (.int .u64 n))), iE ((s : Nat) : Int)] (toG []) 0 (oV 0 0 (m + s) 1) (toG [(0, some (5, .ds (dI .u8 (l ++ (pbL n s)))))]) 1 := by
  refine Fun.mk (n := 33) Try.func34 rfl rfl (Nat.le_of_ble_eq_true rfl) ?_
  intro cx hcx
  refine AW.rgs [.no] [0, 1, 2] [] (P := True) (l' := [(0, sV .u8 l m), (1, .e (.c (.d (D.lit (.int .u64 n))))), (2, iV ↑s)]) (g' := []) (nx' := 0) (by kernel_rfl) trivial ?_
  refine AW.rgs [.no, .no, .no, .no, .no, .w, .mk m (m + s) (dI .u8 (List.replicate m 0)), .no] [0, 1, 2, 7] [0] (P := ((-9223372036854775808) ≤ (((m : Nat) : Int) + ((s : Nat) : Int)) ∧ (((m : Nat) : Int) + ((s : Nat) : Int)) ≤ 9223372036854775807) ∧ ((((m : Nat) : Int) : Int) = ((m : Nat) : Int)) ∧ (((((m : Nat) : Int) + ((s : Nat) : Int)) : Int) = (((m + s) : Nat) : Int)) ∧ (m ≤ (m + s)) ∧ (1 * (m + s) ≤ 281474976710656) ∧ (List.replicate m (D.lit (.int .u8 0)) = dI .u8 (List.replicate m 0))) (l' := [(0, sV .u8 l m), (1, .e (.c (.d (D.lit (.int .u64 n))))), (2, iV ↑s), (7, oV 0 0 m 1)]) (g' := [(0, some (5, .ds (dI .u8 (List.replicate m 0))))]) (nx' := 1) (by kernel_rfl) ⟨⟨by omega, by omega⟩, rfl, (by first | rfl | omega), (by omega), (by omega), (dI_rep _ _ _)⟩ ?_
  refine AW.rgs [.no, .no, .cp none m (dI .u8 (((List.take 0 (List.replicate m 0)) ++ (List.take m l)) ++ (List.drop (0 + m) (List.replicate m 0))))] [1, 2, 7] [0] (P := ((dI .u8 l).length = m * 1) ∧ ((0 : Nat) + m ≤ (dI .u8 (List.replicate m 0)).length) ∧ (min m m = m) ∧ (List.take 0 (dI .u8 (List.replicate m 0)) ++ List.take m (dI .u8 l) ++ List.drop (0 + m) (dI .u8 (List.replicate m 0)) = dI .u8 (((List.take 0 (List.replicate m 0)) ++ (List.take m l)) ++ (List.drop (0 + m) (List.replicate m 0))))) (l' := [(1, .e (.c (.d (D.lit (.int .u64 n))))), (2, iV ↑s), (7, oV 0 0 m 1)]) (g' := [(0, some (5, .ds (dI .u8 (((List.take 0 (List.replicate m 0)) ++ (List.take m l)) ++ (List.drop (0 + m) (List.replicate m 0))))))]) (nx' := 1) (by kernel_rfl) ⟨(by first | omega | (simp only [bsD_len, dI_len, List.length_append, List.length_cons, List.length_nil, List.length_take, List.length_drop, List.length_replicate, List.length_set, List.length_map, List.length_reverse, Nat.mul_one] <;> omega) | rfl), (by first | omega | (simp only [bsD_len, dI_len, List.length_append, List.length_cons, List.length_nil, List.length_take, List.length_drop, List.length_replicate, List.length_set, List.length_map, List.length_reverse, Nat.mul_one] <;> omega) | rfl), (by omega), (by first | exact dI_cp _ _ _ _ _ | exact dI_cp _ _ _ 0 _)⟩ ?_
  refine AW.seq ?_
  refine AW.rgs [.no, .no] [1, 7, 19, 20] [0] (P := True) (l' := [(1, .e (.c (.d (D.lit (.int .u64 n))))), (7, oV 0 0 m 1), (19, iV ↑s), (20, iV 0)]) (g' := [(0, some (5, .ds (dI .u8 (((List.take 0 (List.replicate m 0)) ++ (List.take m l)) ++ (List.drop (0 + m) (List.replicate m 0))))))]) (nx' := 1) (by kernel_rfl) trivial ?_
  refine AW.block ?_
  refine AW.loopE 0 hcx (fun (x : {x : Nat // match x with | i => (i ≤ s)}) => match x with | ⟨i, _⟩ => (⟨[(1, .e (.c (.d (D.lit (.int .u64 n))))), (7, oV 0 0 (m + i) 1), (19, iV ((s : Nat) : Int)), (20, iV ((i : Nat) : Int))], [(0, some (5, .ds (dI .u8 (l ++ (pbL n i)))))], 1⟩ : ES)) (fun (x : {x : Nat // match x with | i => (i ≤ s)}) => match x with | ⟨i, _⟩ => s - i) ⟨(0 : Nat), (show ((0 : Nat) ≤ s) from (by first | omega | assumption | simp))⟩ [] (P := ((n : Int) = n) ∧ ((0 : Nat) = 0) ∧ (((m + 0) : Nat) = m) ∧ ((((s : Nat) : Int) : Int) = ((s : Nat) : Int)) ∧ ((0 : Int) = 0) ∧ (((dI .u8 (l ++ (pbL n 0))) : List D) = (dI .u8 (((List.take 0 (List.replicate m 0)) ++ (List.take m l)) ++ (List.drop (0 + m) (List.replicate m 0)))))) (by kernel_rfl) ⟨rfl, rfl, (by first | rfl | omega | assumption | (simp; done) | (simp; omega)), rfl, rfl, (by first | rfl | (rw [put_z _ s _ n hm]) | (simp [pbL]; done) | (rw [List.append_assoc]; rfl))⟩ ?_
  rintro ⟨i, hinv0⟩
  have hi : (i ≤ s) := hinv0
  refine AW.es (l := [(1, .e (.c (.d (D.lit (.int .u64 n))))), (7, oV 0 0 (m + i) 1), (19, iV ((s : Nat) : Int)), (20, iV ((i : Nat) : Int))]) (g := [(0, some (5, .ds (dI .u8 (l ++ (pbL n i)))))]) (nx := 1) rfl rfl rfl ?_
  have hpl : List.length (pbL n i) = i := pbL_len n i
  by_cases hx1 : (((i : Nat) : Int) < ((s : Nat) : Int))
  · refine AW.rgs [.b true] [1, 7, 19, 20, 21] [0] (P := ((((i : Nat) : Int) < ((s : Nat) : Int)))) (l' := [(1, .e (.c (.d (D.lit (.int .u64 n))))), (7, oV 0 0 (m + i) 1), (19, iV ↑s), (20, iV ↑i), (21, bV true)]) (g' := [(0, some (5, .ds (dI .u8 (l ++ (pbL n i)))))]) (nx' := 1) (by kernel_rfl) (by omega) ?_
    refine AW.seq ?_
    refine AW.cond_t (.tmp (Look.of rfl)) ?_
    refine AW.skip ?_
    refine AW.seq ?_
    refine AW.block ?_
    refine AW.rgs [.no, .no] [1, 7, 8, 19, 20] [0] (P := True) (l' := [(1, .e (.c (.d (D.lit (.int .u64 n))))), (7, oV 0 0 (m + i) 1), (8, iV ↑i), (19, iV ↑s), (20, iV ↑i)]) (g' := [(0, some (5, .ds (dI .u8 (l ++ (pbL n i)))))]) (nx' := 1) (by kernel_rfl) trivial ?_
    refine AW.rg [.no, .no, .no, .w, .n (8 * i), .i ((n / (((2 ^ (8 * i)) : Nat) : Int)) % 256), .no, .ap none ((m + i) + 1) (dI .u8 ((l ++ (pbL n i)) ++ ([((n / (((2 ^ (8 * i)) : Nat) : Int)) % 256)] : List Int))), .no] [1, 7, 19, 20] [2] (P := ((-9223372036854775808) ≤ (8 * ((i : Nat) : Int)) ∧ (8 * ((i : Nat) : Int)) ≤ 9223372036854775807) ∧ (((8 * ((i : Nat) : Int)) : Int) = (((8 * i) : Nat) : Int)) ∧ ((8 * i) ≤ 64) ∧ (IntKind.u8.wrap (n / (((2 ^ (8 * i)) : Nat) : Int)) = ((n / (((2 ^ (8 * i)) : Nat) : Int)) % 256)) ∧ ([D.lit (.int .u8 ((n / (((2 ^ (8 * i)) : Nat) : Int)) % 256))].length = 1 * 1) ∧ (((dI .u8 (l ++ (pbL n i))) : List D).length = (m + i) * 1) ∧ (((m + i) + 1) * 1 ≤ 140737488355328) ∧ ((m + i) + 1 = ((m + i) + 1)) ∧ (((dI .u8 (l ++ (pbL n i))) : List D) ++ [D.lit (.int .u8 ((n / (((2 ^ (8 * i)) : Nat) : Int)) % 256))] = (dI .u8 ((l ++ (pbL n i)) ++ ([((n / (((2 ^ (8 * i)) : Nat) : Int)) % 256)] : List Int))))) (l' := [(1, .e (.c (.d (D.lit (.int .u64 n))))), (7, oV 2 0 ((m + i) + 1) 1), (19, iV ↑s), (20, iV ↑i)]) (g' := [(2, some (5, .ds (dI .u8 ((l ++ (pbL n i)) ++ ([((n / (((2 ^ (8 * i)) : Nat) : Int)) % 256)] : List Int)))))]) (nx' := 3) (by kernel_rfl) ⟨⟨by omega, by omega⟩, (by first | rfl | omega), (by omega), (wrap_u8 _), (by first | omega | (simp only [bsD_len, dI_len, List.length_append, List.length_cons, List.length_nil, List.length_take, List.length_drop, List.length_replicate, List.length_set, List.length_map, List.length_reverse, Nat.mul_one] <;> omega) | rfl), (by first | omega | (simp only [bsD_len, dI_len, List.length_append, List.length_cons, List.length_nil, List.length_take, List.length_drop, List.length_replicate, List.length_set, List.length_map, List.length_reverse, Nat.mul_one] <;> omega) | rfl), (by omega), (by omega), (dI_app .u8 (l ++ (pbL n i)) ([((n / (((2 ^ (8 * i)) : Nat) : Int)) % 256)] : List Int))⟩ ?_
    refine AW.rg [.w, .no] [1, 7, 19, 20] [2] (P := ((-9223372036854775808) ≤ (((i : Nat) : Int) + 1) ∧ (((i : Nat) : Int) + 1) ≤ 9223372036854775807)) (l' := [(1, .e (.c (.d (D.lit (.int .u64 n))))), (7, oV 2 0 ((m + i) + 1) 1), (19, iV ↑s), (20, iV (↑i + 1))]) (g' := [(2, some (5, .ds (dI .u8 ((l ++ (pbL n i)) ++ ([((n / (((2 ^ (8 * i)) : Nat) : Int)) % 256)] : List Int)))))]) (nx' := 3) (by kernel_rfl) ⟨by omega, by omega⟩ ?_
    exact Rd.of ⟨((i + 1) : Nat), (show ((i + 1) ≤ s) from (by first | omega | assumption | simp))⟩ [(0, 2)] (P := ((n : Int) = n) ∧ ((0 : Nat) = 0) ∧ (((m + (i + 1)) : Nat) = ((m + i) + 1)) ∧ ((((s : Nat) : Int) : Int) = ((s : Nat) : Int)) ∧ (((((i + 1) : Nat) : Int) : Int) = (((i : Nat) : Int) + 1)) ∧ (((dI .u8 (l ++ (pbL n (i + 1)))) : List D) = (dI .u8 ((l ++ (pbL n i)) ++ ([((n / (((2 ^ (8 * i)) : Nat) : Int)) % 256)] : List Int))))) (by kernel_rfl) ⟨rfl, rfl, (by first | rfl | omega | assumption | (simp; done) | (simp; omega)), rfl, (by first | rfl | omega | assumption | (simp; done) | (simp; omega)), (by first | rfl | (rw [put_z _ s _ n hm]) | (simp [pbL]; done) | (rw [List.append_assoc]; rfl))⟩ (show s - (i + 1) < s - i from (by first | omega | (show _ < _; simp; omega)))
  · refine AW.rgs [.b false] [1, 7, 19, 20, 21] [0] (P := (¬ (((i : Nat) : Int) < ((s : Nat) : Int)))) (l' := [(1, .e (.c (.d (D.lit (.int .u64 n))))), (7, oV 0 0 (m + i) 1), (19, iV ↑s), (20, iV ↑i), (21, bV false)]) (g' := [(0, some (5, .ds (dI .u8 (l ++ (pbL n i)))))]) (nx' := 1) (by kernel_rfl) (by omega) ?_
    refine AW.seq ?_
    refine AW.cond_f (.tmp (Look.of rfl)) ?_
    refine AW.exit ?_
    refine AW.rgs [.no, .no] [6] [0] (P := True) (l' := [(6, oV 0 0 (m + i) 1)]) (g' := [(0, some (5, .ds (dI .u8 (l ++ (pbL n i)))))]) (nx' := 1) (by kernel_rfl) trivial ?_
    refine AW.ret ?_
    obtain rfl : s = i := by omega
    exact EndP.of (.inr rfl) [] (P := ((0 : Nat) = 0) ∧ (((m + s) : Nat) = (m + s)) ∧ (((dI .u8 (l ++ (pbL n s))) : List D) = (dI .u8 (l ++ (pbL n s))))) (by kernel_rfl) ⟨rfl, rfl, rfl⟩

set_option maxHeartbeats 4000000 in
set_option maxRecDepth 100000 in
theorem W_rput (l : List Int) (m s : Nat) (n : Int) (hm : List.length l = m) (hb : m ≤ 1000000) (hs : s ≤ 8) (hn : 0 ≤ n ∧ n ≤ 18446744073709551615) : Fun 36 [.c (.d (D.sl (dI .u8 l) m)), .c (.d (D.lit (.int .u64 n))), iE ((s : Nat) : Int)] (toG []) 0 (oV 0 0 (m + s) 1) (toG [(0, some (5, .ds (dI .u8 (l ++ (pbL n s)))))]) 1 := by
  refine Fun.mk (n := 25) Try.func36 rfl rfl (Nat.le_of_ble_eq_true rfl) ?_
  intro cx hcx
  refine AW.rgs [.no] [0, 1, 2] [] (P := True) (l' := [(0, sV .u8 l m), (1, .e (.c (.d (D.lit (.int .u64 n))))), (2, iV ↑s)]) (g' := []) (nx' := 0) (by kernel_rfl) trivial ?_
  refine AW.rgs [.no, .ap none m (dI .u8 l), .no] [1, 2, 7] [0] (P := ((dI .u8 l).length = m * 1) ∧ (m * 1 ≤ 140737488355328) ∧ (m = m) ∧ (((dI .u8 l) : List D) = (dI .u8 l))) (l' := [(1, .e (.c (.d (D.lit (.int .u64 n))))), (2, iV ↑s), (7, oV 0 0 m 1)]) (g' := [(0, some (5, .ds (dI .u8 l)))]) (nx' := 1) (by kernel_rfl) ⟨(by first | omega | (simp only [bsD_len, dI_len, List.length_append, List.length_cons, List.length_nil, List.length_take, List.length_drop, List.length_replicate, List.length_set, List.length_map, List.length_reverse, Nat.mul_one] <;> omega) | rfl), (by omega), rfl, rfl⟩ ?_
  refine AW.seq ?_
  refine AW.rgs [.no] [1, 2, 7, 8] [0] (P := True) (l' := [(1, .e (.c (.d (D.lit (.int .u64 n))))), (2, iV ↑s), (7, oV 0 0 m 1), (8, iV 0)]) (g' := [(0, some (5, .ds (dI .u8 l)))]) (nx' := 1) (by kernel_rfl) trivial ?_
  refine AW.block ?_
  refine AW.loopE 0 hcx (fun (x : {x : Nat // match x with | i => (i ≤ s)}) => match x with | ⟨i, _⟩ => (⟨[(1, .e (.c (.d (D.lit (.int .u64 n))))), (2, iV ((s : Nat) : Int)), (7, oV 0 0 (m + i) 1), (8, iV ((i : Nat) : Int))], [(0, some (5, .ds (dI .u8 (l ++ (pbL n i)))))], 1⟩ : ES)) (fun (x : {x : Nat // match x with | i => (i ≤ s)}) => match x with | ⟨i, _⟩ => s - i) ⟨(0 : Nat), (show ((0 : Nat) ≤ s) from (by first | omega | assumption | simp))⟩ [] (P := ((n : Int) = n) ∧ ((((s : Nat) : Int) : Int) = ((s : Nat) : Int)) ∧ ((0 : Nat) = 0) ∧ (((m + 0) : Nat) = m) ∧ ((0 : Int) = 0) ∧ (((dI .u8 (l ++ (pbL n 0))) : List D) = (dI .u8 l))) (by kernel_rfl) ⟨rfl, rfl, rfl, (by first | rfl | omega | assumption | (simp; done) | (simp; omega)), rfl, (by first | rfl | (rw [put_z _ s _ n hm]) | (simp [pbL]; done) | (rw [List.append_assoc]; rfl))⟩ ?_
  rintro ⟨i, hinv0⟩
  have hi : (i ≤ s) := hinv0
  refine AW.es (l := [(1, .e (.c (.d (D.lit (.int .u64 n))))), (2, iV ((s : Nat) : Int)), (7, oV 0 0 (m + i) 1), (8, iV ((i : Nat) : Int))]) (g := [(0, some (5, .ds (dI .u8 (l ++ (pbL n i)))))]) (nx := 1) rfl rfl rfl ?_
  have hpl : List.length (pbL n i) = i := pbL_len n i
  refine AW.seq ?_
  by_cases hx1 : (((i : Nat) : Int) < ((s : Nat) : Int))
  · refine AW.rgs [.no, .no, .b true] [1, 2, 7, 8, 13] [0] (P := ((((i : Nat) : Int) < ((s : Nat) : Int)))) (l' := [(1, .e (.c (.d (D.lit (.int .u64 n))))), (2, iV ↑s), (7, oV 0 0 (m + i) 1), (8, iV ↑i), (13, bV true)]) (g' := [(0, some (5, .ds (dI .u8 (l ++ (pbL n i)))))]) (nx' := 1) (by kernel_rfl) (by omega) ?_
    refine AW.cond_t (.tmp (Look.of rfl)) ?_
    refine AW.skip ?_
    refine AW.seq ?_
    refine AW.block ?_
    refine AW.rg [.no, .no, .no, .w, .n (8 * i), .i ((n / (((2 ^ (8 * i)) : Nat) : Int)) % 256), .no, .ap none ((m + i) + 1) (dI .u8 ((l ++ (pbL n i)) ++ ([((n / (((2 ^ (8 * i)) : Nat) : Int)) % 256)] : List Int))), .no] [1, 2, 7, 8] [2] (P := ((-9223372036854775808) ≤ (8 * ((i : Nat) : Int)) ∧ (8 * ((i : Nat) : Int)) ≤ 9223372036854775807) ∧ (((8 * ((i : Nat) : Int)) : Int) = (((8 * i) : Nat) : Int)) ∧ ((8 * i) ≤ 64) ∧ (IntKind.u8.wrap (n / (((2 ^ (8 * i)) : Nat) : Int)) = ((n / (((2 ^ (8 * i)) : Nat) : Int)) % 256)) ∧ ([D.lit (.int .u8 ((n / (((2 ^ (8 * i)) : Nat) : Int)) % 256))].length = 1 * 1) ∧ (((dI .u8 (l ++ (pbL n i))) : List D).length = (m + i) * 1) ∧ (((m + i) + 1) * 1 ≤ 140737488355328) ∧ ((m + i) + 1 = ((m + i) + 1)) ∧ (((dI .u8 (l ++ (pbL n i))) : List D) ++ [D.lit (.int .u8 ((n / (((2 ^ (8 * i)) : Nat) : Int)) % 256))] = (dI .u8 ((l ++ (pbL n i)) ++ ([((n / (((2 ^ (8 * i)) : Nat) : Int)) % 256)] : List Int))))) (l' := [(1, .e (.c (.d (D.lit (.int .u64 n))))), (2, iV ↑s), (7, oV 2 0 ((m + i) + 1) 1), (8, iV ↑i)]) (g' := [(2, some (5, .ds (dI .u8 ((l ++ (pbL n i)) ++ ([((n / (((2 ^ (8 * i)) : Nat) : Int)) % 256)] : List Int)))))]) (nx' := 3) (by kernel_rfl) ⟨⟨by omega, by omega⟩, (by first | rfl | omega), (by omega), (wrap_u8 _), (by first | omega | (simp only [bsD_len, dI_len, List.length_append, List.length_cons, List.length_nil, List.length_take, List.length_drop, List.length_replicate, List.length_set, List.length_map, List.length_reverse, Nat.mul_one] <;> omega) | rfl), (by first | omega | (simp only [bsD_len, dI_len, List.length_append, List.length_cons, List.length_nil, List.length_take, List.length_drop, List.length_replicate, List.length_set, List.length_map, List.length_reverse, Nat.mul_one] <;> omega) | rfl), (by omega), (by omega), (dI_app .u8 (l ++ (pbL n i)) ([((n / (((2 ^ (8 * i)) : Nat) : Int)) % 256)] : List Int))⟩ ?_
    refine AW.rg [.no, .w, .no] [1, 2, 7, 8] [2] (P := ((-9223372036854775808) ≤ (((i : Nat) : Int) + 1) ∧ (((i : Nat) : Int) + 1) ≤ 9223372036854775807)) (l' := [(1, .e (.c (.d (D.lit (.int .u64 n))))), (2, iV ↑s), (7, oV 2 0 ((m + i) + 1) 1), (8, iV (↑i + 1))]) (g' := [(2, some (5, .ds (dI .u8 ((l ++ (pbL n i)) ++ ([((n / (((2 ^ (8 * i)) : Nat) : Int)) % 256)] : List Int)))))]) (nx' := 3) (by kernel_rfl) ⟨by omega, by omega⟩ ?_
    exact Rd.of ⟨((i + 1) : Nat), (show ((i + 1) ≤ s) from (by first | omega | assumption | simp))⟩ [(0, 2)] (P := ((n : Int) = n) ∧ ((((s : Nat) : Int) : Int) = ((s : Nat) : Int)) ∧ ((0 : Nat) = 0) ∧ (((m + (i + 1)) : Nat) = ((m + i) + 1)) ∧ (((((i + 1) : Nat) : Int) : Int) = (((i : Nat) : Int) + 1)) ∧ (((dI .u8 (l ++ (pbL n (i + 1)))) : List D) = (dI .u8 ((l ++ (pbL n i)) ++ ([((n / (((2 ^ (8 * i)) : Nat) : Int)) % 256)] : List Int))))) (by kernel_rfl) ⟨rfl, rfl, rfl, (by first | rfl | omega | assumption | (simp; done) | (simp; omega)), (by first | rfl | omega | assumption | (simp; done) | (simp; omega)), (by first | rfl | (rw [put_z _ s _ n hm]) | (simp [pbL]; done) | (rw [List.append_assoc]; rfl))⟩ (show s - (i + 1) < s - i from (by first | omega | (show _ < _; simp; omega)))
  · refine AW.rgs [.no, .no, .b false] [1, 2, 7, 8, 13] [0] (P := (¬ (((i : Nat) : Int) < ((s : Nat) : Int)))) (l' := [(1, .e (.c (.d (D.lit (.int .u64 n))))), (2, iV ↑s), (7, oV 0 0 (m + i) 1), (8, iV ↑i), (13, bV false)]) (g' := [(0, some (5, .ds (dI .u8 (l ++ (pbL n i)))))]) (nx' := 1) (by kernel_rfl) (by omega) ?_
    refine AW.cond_f (.tmp (Look.of rfl)) ?_
    refine AW.exit ?_
    refine AW.rgs [.no, .no] [6] [0] (P := True) (l' := [(6, oV 0 0 (m + i) 1)]) (g' := [(0, some (5, .ds (dI .u8 (l ++ (pbL n i)))))]) (nx' := 1) (by kernel_rfl) trivial ?_
    refine AW.ret ?_
    obtain rfl : s = i := by omega
    exact EndP.of (.inr rfl) [] (P := ((0 : Nat) = 0) ∧ (((m + s) : Nat) = (m + s)) ∧ (((dI .u8 (l ++ (pbL n s))) : List D) = (dI .u8 (l ++ (pbL n s))))) (by kernel_rfl) ⟨rfl, rfl, rfl⟩

set_option maxHeartbeats 4000000 in
set_option maxRecDepth 100000 in
theorem W_Put16 (l : List Int) (m : Nat) (n : Int) (hm : List.length l = m) (hb : m ≤ 1000000) (hn : 0 ≤ n ∧ n ≤ 65535) : Fun 22 [.c (.d (D.sl (dI .u8 l) m)), .c (.d (D.lit (.int .u16 n)))] (toG []) 0 (oV 0 0 (m + 2) 1) (toG [(0, some (5, .ds (dI .u8 (l ++ (pbL n 2)))))]) 1 := by
  refine Fun.mk (n := 8) Try.func22 rfl rfl (Nat.le_of_ble_eq_true rfl) ?_
  intro cx hcx
  refine AW.rgs [.no] [0, 1] [] (P := True) (l' := [(0, sV .u8 l m), (1, .e (.c (.d (D.lit (.int .u16 n)))))]) (g' := []) (nx' := 0) (by kernel_rfl) trivial ?_
  refine AW.rgs [.no, .no, .call [] (oV 0 0 (m + 2) 1) [(0, some (5, .ds (dI .u8 (l ++ (pbL n 2)))))] 1 [] none, .no] [4] [0] (P := (_)) (l' := [(4, oV 0 0 (m + 2) 1)]) (g' := [(0, some (5, .ds (dI .u8 (l ++ (pbL n 2)))))]) (nx' := 1) (by kernel_rfl) (W_put16 l m 2 n (by omega) (by omega) (by omega) (by omega)) ?_
  refine AW.ret ?_
  exact EndP.of (.inr rfl) [] (P := ((0 : Nat) = 0) ∧ (((m + 2) : Nat) = (m + 2)) ∧ (((dI .u8 (l ++ (pbL n 2))) : List D) = (dI .u8 (l ++ (pbL n 2))))) (by kernel_rfl) ⟨rfl, rfl, rfl⟩

theorem W_Put16_z (l : List Int) (m : Nat) (n : Int) (hm : List.length l = m) (hb : m ≤ 1000000) (hn : 0 ≤ n ∧ n ≤ 65535) : Fun 22 [.c (.d (D.sl (dI .u8 l) m)), .c (.d (D.lit (.int .u16 n)))] (toG []) 0 (sV .u8 (l ++ (pbL n 2)) (m + 2)) (toG []) 1 := (Fun.frz (y := oV 0 0 (m + 2) 1) (g1 := [(0, some (5, .ds (dI .u8 (l ++ (pbL n 2)))))]) (y' := sV .u8 (l ++ (pbL n 2)) (m + 2)) (g1' := []) (ds := (dI .u8 (l ++ (pbL n 2)))) 0 (W_Put16 l m n hm hb hn) rfl FzG.nil (.e (.c (FzC.wh ((by simp only [List.length_append, pbL_len]; omega))))))

set_option maxHeartbeats 4000000 in
set_option maxRecDepth 100000 in
theorem W_Put64 (l : List Int) (m : Nat) (n : Int) (hm : List.length l = m) (hb : m ≤ 1000000) (hn : 0 ≤ n ∧ n ≤ 18446744073709551615) : Fun 23 [.c (.d (D.sl (dI .u8 l) m)), .c (.d (D.lit (.int .u64 n)))] (toG []) 0 (oV 0 0 (m + 8) 1) (toG [(0, some (5, .ds (dI .u8 (l ++ (pbL n 8)))))]) 1 := by
  refine Fun.mk (n := 8) Try.func23 rfl rfl (Nat.le_of_ble_eq_true rfl) ?_
  intro cx hcx
  refine AW.rgs [.no] [0, 1] [] (P := True) (l' := [(0, sV .u8 l m), (1, .e (.c (.d (D.lit (.int .u64 n)))))]) (g' := []) (nx' := 0) (by kernel_rfl) trivial ?_
  refine AW.rgs [.no, .no, .call [] (oV 0 0 (m + 8) 1) [(0, some (5, .ds (dI .u8 (l ++ (pbL n 8)))))] 1 [] none, .no] [4] [0] (P := (_)) (l' := [(4, oV 0 0 (m + 8) 1)]) (g' := [(0, some (5, .ds (dI .u8 (l ++ (pbL n 8)))))]) (nx' := 1) (by kernel_rfl) (W_put64 l m 8 n (by omega) (by omega) (by omega) (by omega)) ?_
  refine AW.ret ?_
  exact EndP.of (.inr rfl) [] (P := ((0 : Nat) = 0) ∧ (((m + 8) : Nat) = (m + 8)) ∧ (((dI .u8 (l ++ (pbL n 8))) : List D) = (dI .u8 (l ++ (pbL n 8))))) (by kernel_rfl) ⟨rfl, rfl, rfl⟩

theorem W_Put64_z (l : List Int) (m : Nat) (n : Int) (hm : List.length l = m) (hb : m ≤ 1000000) (hn : 0 ≤ n ∧ n ≤ 18446744073709551615) : Fun 23 [.c (.d (D.sl (dI .u8 l) m)), .c (.d (D.lit (.int .u64 n)))] (toG []) 0 (sV .u8 (l ++ (pbL n 8)) (m + 8)) (toG []) 1 := (Fun.frz (y := oV 0 0 (m + 8) 1) (g1 := [(0, some (5, .ds (dI .u8 (l ++ (pbL n 8)))))]) (y' := sV .u8 (l ++ (pbL n 8)) (m + 8)) (g1' := []) (ds := (dI .u8 (l ++ (pbL n 8)))) 0 (W_Put64 l m n hm hb hn) rfl FzG.nil (.e (.c (FzC.wh ((by simp only [List.length_append, pbL_len]; omega))))))

set_option maxHeartbeats 4000000 in
set_option maxRecDepth 100000 in
theorem W_rPut16 (l : List Int) (m : Nat) (n : Int) (hm : List.length l = m) (hb : m ≤ 1000000) (hn : 0 ≤ n ∧ n ≤ 65535) : Fun 25 [.c (.d (D.sl (dI .u8 l) m)), .c (.d (D.lit (.int .u16 n)))] (toG []) 0 (oV 0 0 (m + 2) 1) (toG [(0, some (5, .ds (dI .u8 (l ++ (pbL n 2)))))]) 1 := by
  refine Fun.mk (n := 9) Try.func25 rfl rfl (Nat.le_of_ble_eq_true rfl) ?_
  intro cx hcx
  refine AW.rgs [.no] [0, 1] [] (P := True) (l' := [(0, sV .u8 l m), (1, .e (.c (.d (D.lit (.int .u16 n)))))]) (g' := []) (nx' := 0) (by kernel_rfl) trivial ?_
  refine AW.rgs [.no, .no, .w, .call [] (oV 0 0 (m + 2) 1) [(0, some (5, .ds (dI .u8 (l ++ (pbL n 2)))))] 1 [] none, .no] [4] [0] (P := (0 ≤ n ∧ n ≤ 18446744073709551615) ∧ (_)) (l' := [(4, oV 0 0 (m + 2) 1)]) (g' := [(0, some (5, .ds (dI .u8 (l ++ (pbL n 2)))))]) (nx' := 1) (by kernel_rfl) ⟨⟨by omega, by omega⟩, (W_rput l m 2 n (by omega) (by omega) (by omega) (by omega))⟩ ?_
  refine AW.ret ?_
  exact EndP.of (.inr rfl) [] (P := ((0 : Nat) = 0) ∧ (((m + 2) : Nat) = (m + 2)) ∧ (((dI .u8 (l ++ (pbL n 2))) : List D) = (dI .u8 (l ++ (pbL n 2))))) (by kernel_rfl) ⟨rfl, rfl, rfl⟩

set_option maxHeartbeats 4000000 in
set_option maxRecDepth 100000 in
theorem W_rPut64 (l : List Int) (m : Nat) (n : Int) (hm : List.length l = m) (hb : m ≤ 1000000) (hn : 0 ≤ n ∧ n ≤ 18446744073709551615) : Fun 26 [.c (.d (D.sl (dI .u8 l) m)), .c (.d (D.lit (.int .u64 n)))] (toG []) 0 (oV 0 0 (m + 8) 1) (toG [(0, some (5, .ds (dI .u8 (l ++ (pbL n 8)))))]) 1 := by
  refine Fun.mk (n := 8) Try.func26 rfl rfl (Nat.le_of_ble_eq_true rfl) ?_
  intro cx hcx
  refine AW.rgs [.no] [0, 1] [] (P := True) (l' := [(0, sV .u8 l m), (1, .e (.c (.d (D.lit (.int .u64 n)))))]) (g' := []) (nx' := 0) (by kernel_rfl) trivial ?_
  refine AW.rgs [.no, .no, .call [] (oV 0 0 (m + 8) 1) [(0, some (5, .ds (dI .u8 (l ++ (pbL n 8)))))] 1 [] none, .no] [4] [0] (P := (_)) (l' := [(4, oV 0 0 (m + 8) 1)]) (g' := [(0, some (5, .ds (dI .u8 (l ++ (pbL n 8)))))]) (nx' := 1) (by kernel_rfl) (W_rput l m 8 n (by omega) (by omega) (by omega) (by omega)) ?_
  refine AW.ret ?_
  exact EndP.of (.inr rfl) [] (P := ((0 : Nat) = 0) ∧ (((m + 8) : Nat) = (m + 8)) ∧ (((dI .u8 (l ++ (pbL n 8))) : List D) = (dI .u8 (l ++ (pbL n 8))))) (by kernel_rfl) ⟨rfl, rfl, rfl⟩

set_option maxHeartbeats 4000000 in
set_option maxRecDepth 100000 in
theorem W_get16 (l : List Int) (m a : Nat) (hm : List.length l = m) (hb : m ≤ 1000000) (hy : Byt l) (ha : a + 2 ≤ m) : Fun 41 [.c (.d (D.sl (dI .u8 l) m)), iE ((a : Nat) : Int), iE 2] (toG []) 0 (.tup [.c (.d (D.lit (.int .u16 (g16 l a)))), iE (((a + 2) : Nat) : Int), iE 0]) (toG []) 0 := by
  refine Fun.mk (n := 46) Try.func41 rfl rfl (Nat.le_of_ble_eq_true rfl) ?_
  intro cx hcx
  refine AW.rgs [.no, .no, .no] [0, 1, 2] [] (P := True) (l' := [(0, sV .u8 l m), (1, iV ↑a), (2, iV 2)]) (g' := []) (nx' := 0) (by kernel_rfl) trivial ?_
  refine AW.seq ?_
  refine AW.rgs [.no, .b false, .no, .no, .no, .no, .b false, .no] [0, 1, 2, 18] [] (P := (¬ (((a : Nat) : Int) < 0)) ∧ (¬ (((m : Nat) : Int) < ((a : Nat) : Int)))) (l' := [(0, sV .u8 l m), (1, iV ↑a), (2, iV 2), (18, bV false)]) (g' := []) (nx' := 0) (by kernel_rfl) ⟨(by omega), (by omega)⟩ ?_
  refine AW.cond_f (.tmp (Look.of rfl)) ?_
  refine AW.skip ?_
  refine AW.seq ?_
  refine AW.rgs [.no, .no, .no, .w, .no, .b false] [0, 1, 2, 24] [] (P := ((-9223372036854775808) ≤ (((m : Nat) : Int) - ((a : Nat) : Int)) ∧ (((m : Nat) : Int) - ((a : Nat) : Int)) ≤ 9223372036854775807) ∧ (¬ ((((m : Nat) : Int) - ((a : Nat) : Int)) < 2))) (l' := [(0, sV .u8 l m), (1, iV ↑a), (2, iV 2), (24, bV false)]) (g' := []) (nx' := 0) (by kernel_rfl) ⟨⟨by omega, by omega⟩, (by omega)⟩ ?_
  refine AW.cond_f (.tmp (Look.of rfl)) ?_
  refine AW.skip ?_
  refine AW.rgs [.no] [0, 1, 2, 9] [] (P := True) (l' := [(0, sV .u8 l m), (1, iV ↑a), (2, iV 2), (9, .e (.c (.d (D.lit (.int .u16 0)))))]) (g' := []) (nx' := 0) (by kernel_rfl) trivial ?_
  refine AW.seq ?_
  refine AW.rgs [.no, .no] [0, 1, 2, 9, 25, 26] [] (P := True) (l' := [(0, sV .u8 l m), (1, iV ↑a), (2, iV 2), (9, .e (.c (.d (D.lit (.int .u16 0))))), (25, iV 2), (26, iV 0)]) (g' := []) (nx' := 0) (by kernel_rfl) trivial ?_
  refine AW.block ?_
  refine AW.rounds 3 ?_
  refine AWr.s ?_
  refine AW.rgs [.b true] [0, 1, 2, 9, 25, 26, 27] [] (P := (((0 : Int) < 2))) (l' := [(0, sV .u8 l m), (1, iV ↑a), (2, iV 2), (9, .e (.c (.d (D.lit (.int .u16 0))))), (25, iV 2), (26, iV 0), (27, bV true)]) (g' := []) (nx' := 0) (by kernel_rfl) (by omega) ?_
  refine AW.seq ?_
  refine AW.cond_t (.tmp (Look.of rfl)) ?_
  refine AW.skip ?_
  refine AW.seq ?_
  refine AW.block ?_
  refine AW.rgs [.no, .no] [0, 1, 2, 9, 10, 25, 26] [] (P := True) (l' := [(0, sV .u8 l m), (1, iV ↑a), (2, iV 2), (9, .e (.c (.d (D.lit (.int .u16 0))))), (10, iV 0), (25, iV 2), (26, iV 0)]) (g' := []) (nx' := 0) (by kernel_rfl) trivial ?_
  have hx1 : 0 ≤ (List.getD l (a + 0) 0) ∧ (List.getD l (a + 0) 0) ≤ 255 := (show Byt l by with_reducible assumption).at _ (by first | omega | (simp <;> omega))
  refine AW.rg [.no, .no, .no, .no, .w, .n (a + 0), .d (D.lit (.int .u8 (List.getD l (a + 0) 0))), .w, .no, .w, .n 0, .i ((List.getD l (a + 0) 0) * 1), .no] [0, 1, 2, 9, 25, 26] [] (P := ((-9223372036854775808) ≤ (((a : Nat) : Int) + 0) ∧ (((a : Nat) : Int) + 0) ≤ 9223372036854775807) ∧ (((((a : Nat) : Int) + 0) : Int) = (((a + 0) : Nat) : Int)) ∧ ((a + 0) < m) ∧ ((List.drop (a + 0) (dI .u8 l))[0]? = some (D.lit (.int .u8 (List.getD l (a + 0) 0)))) ∧ (0 ≤ (List.getD l (a + 0) 0) ∧ (List.getD l (a + 0) 0) ≤ 65535) ∧ ((-9223372036854775808) ≤ (0 : Int) ∧ (0 : Int) ≤ 9223372036854775807) ∧ ((0 : Int) = 0) ∧ ((0 : Nat) ≤ 16) ∧ (0 ≤ ((List.getD l (a + 0) 0) * 1) ∧ ((List.getD l (a + 0) 0) * 1) ≤ 65535) ∧ (bitsI .or .u16 0 ((List.getD l (a + 0) 0) * 1) = ((List.getD l (a + 0) 0) * 1))) (l' := [(0, sV .u8 l m), (1, iV ↑a), (2, iV 2), (9, .e (.c (.d (D.lit (.int .u16 ((List.getD l (a + 0) 0) * 1)))))), (25, iV 2), (26, iV 0)]) (g' := []) (nx' := 0) (by kernel_rfl) ⟨⟨by omega, by omega⟩, (by first | rfl | omega), (by omega), (dI_at _ _ _ (by first | omega | (simp only [bsD_len, dI_len, List.length_append, List.length_cons, List.length_nil, List.length_take, List.length_drop, List.length_replicate, List.length_set, List.length_map, List.length_reverse, Nat.mul_one] <;> omega) | rfl)), ⟨by omega, by omega⟩, ⟨by omega, by omega⟩, rfl, (by omega), ⟨by omega, by omega⟩, (or_zU (.inl ⟨rfl, rfl⟩) (by omega)).1⟩ ?_
  refine AW.rg [.w, .no] [0, 1, 2, 9, 25, 26] [] (P := ((-9223372036854775808) ≤ (1 : Int) ∧ (1 : Int) ≤ 9223372036854775807)) (l' := [(0, sV .u8 l m), (1, iV ↑a), (2, iV 2), (9, .e (.c (.d (D.lit (.int .u16 ((List.getD l (a + 0) 0) * 1)))))), (25, iV 2), (26, iV 1)]) (g' := []) (nx' := 0) (by kernel_rfl) ⟨by omega, by omega⟩ ?_
  refine AWr.s ?_
  refine AW.rgs [.b true] [0, 1, 2, 9, 25, 26, 27] [] (P := (((1 : Int) < 2))) (l' := [(0, sV .u8 l m), (1, iV ↑a), (2, iV 2), (9, .e (.c (.d (D.lit (.int .u16 ((List.getD l (a + 0) 0) * 1)))))), (25, iV 2), (26, iV 1), (27, bV true)]) (g' := []) (nx' := 0) (by kernel_rfl) (by omega) ?_
  refine AW.seq ?_
  refine AW.cond_t (.tmp (Look.of rfl)) ?_
  refine AW.skip ?_
  refine AW.seq ?_
  refine AW.block ?_
  refine AW.rgs [.no, .no] [0, 1, 2, 9, 10, 25, 26] [] (P := True) (l' := [(0, sV .u8 l m), (1, iV ↑a), (2, iV 2), (9, .e (.c (.d (D.lit (.int .u16 ((List.getD l (a + 0) 0) * 1)))))), (10, iV 1), (25, iV 2), (26, iV 1)]) (g' := []) (nx' := 0) (by kernel_rfl) trivial ?_
  have hx2 : 0 ≤ (List.getD l (a + 1) 0) ∧ (List.getD l (a + 1) 0) ≤ 255 := (show Byt l by with_reducible assumption).at _ (by first | omega | (simp <;> omega))
  refine AW.rg [.no, .no, .no, .no, .w, .n (a + 1), .d (D.lit (.int .u8 (List.getD l (a + 1) 0))), .w, .no, .w, .n 8, .i (((List.getD l (a + 0) 0) * 1) + ((List.getD l (a + 1) 0) * 256)), .no] [0, 1, 2, 9, 25, 26] [] (P := ((-9223372036854775808) ≤ (((a : Nat) : Int) + 1) ∧ (((a : Nat) : Int) + 1) ≤ 9223372036854775807) ∧ (((((a : Nat) : Int) + 1) : Int) = (((a + 1) : Nat) : Int)) ∧ ((a + 1) < m) ∧ ((List.drop (a + 1) (dI .u8 l))[0]? = some (D.lit (.int .u8 (List.getD l (a + 1) 0)))) ∧ (0 ≤ (List.getD l (a + 1) 0) ∧ (List.getD l (a + 1) 0) ≤ 65535) ∧ ((-9223372036854775808) ≤ (8 : Int) ∧ (8 : Int) ≤ 9223372036854775807) ∧ ((8 : Int) = 8) ∧ ((8 : Nat) ≤ 16) ∧ (0 ≤ ((List.getD l (a + 1) 0) * 256) ∧ ((List.getD l (a + 1) 0) * 256) ≤ 65535) ∧ (bitsI .or .u16 ((List.getD l (a + 0) 0) * 1) ((List.getD l (a + 1) 0) * 256) = (((List.getD l (a + 0) 0) * 1) + ((List.getD l (a + 1) 0) * 256)))) (l' := [(0, sV .u8 l m), (1, iV ↑a), (2, iV 2), (9, .e (.c (.d (D.lit (.int .u16 (((List.getD l (a + 0) 0) * 1) + ((List.getD l (a + 1) 0) * 256))))))), (25, iV 2), (26, iV 1)]) (g' := []) (nx' := 0) (by kernel_rfl) ⟨⟨by omega, by omega⟩, (by first | rfl | omega), (by omega), (dI_at _ _ _ (by first | omega | (simp only [bsD_len, dI_len, List.length_append, List.length_cons, List.length_nil, List.length_take, List.length_drop, List.length_replicate, List.length_set, List.length_map, List.length_reverse, Nat.mul_one] <;> omega) | rfl)), ⟨by omega, by omega⟩, ⟨by omega, by omega⟩, rfl, (by omega), ⟨by omega, by omega⟩, (or_loU (.inl ⟨rfl, rfl⟩) (i := 8) 256 (by decide) (by omega) (by omega) (by omega))⟩ ?_
  refine AW.rg [.w, .no] [0, 1, 2, 9, 25, 26] [] (P := ((-9223372036854775808) ≤ (2 : Int) ∧ (2 : Int) ≤ 9223372036854775807)) (l' := [(0, sV .u8 l m), (1, iV ↑a), (2, iV 2), (9, .e (.c (.d (D.lit (.int .u16 (((List.getD l (a + 0) 0) * 1) + ((List.getD l (a + 1) 0) * 256))))))), (25, iV 2), (26, iV 2)]) (g' := []) (nx' := 0) (by kernel_rfl) ⟨by omega, by omega⟩ ?_
  refine AWr.s ?_
  refine AW.rgs [.b false] [0, 1, 2, 9, 25, 26, 27] [] (P := (¬ ((2 : Int) < 2))) (l' := [(0, sV .u8 l m), (1, iV ↑a), (2, iV 2), (9, .e (.c (.d (D.lit (.int .u16 (((List.getD l (a + 0) 0) * 1) + ((List.getD l (a + 1) 0) * 256))))))), (25, iV 2), (26, iV 2), (27, bV false)]) (g' := []) (nx' := 0) (by kernel_rfl) (by omega) ?_
  refine AW.seq ?_
  refine AW.cond_f (.tmp (Look.of rfl)) ?_
  refine AW.exit ?_
  refine AW.rgs [.no, .no, .no, .w, .no, .no, .no] [6, 7, 8] [] (P := ((-9223372036854775808) ≤ (((a : Nat) : Int) + 2) ∧ (((a : Nat) : Int) + 2) ≤ 9223372036854775807)) (l' := [(6, .e (.c (.d (D.lit (.int .u16 (((List.getD l (a + 0) 0) * 1) + ((List.getD l (a + 1) 0) * 256))))))), (7, iV (↑a + 2)), (8, iV 0)]) (g' := []) (nx' := 0) (by kernel_rfl) ⟨by omega, by omega⟩ ?_
  refine AW.ret ?_
  exact EndP.of (.inr rfl) [] (P := (((g16 l a) : Int) = (((List.getD l (a + 0) 0) * 1) + ((List.getD l (a + 1) 0) * 256))) ∧ (((((a + 2) : Nat) : Int) : Int) = (((a : Nat) : Int) + 2)) ∧ ((0 : Int) = 0)) (by kernel_rfl) ⟨(by first | omega | rfl | (unfold g16; omega)), (by first | omega | rfl | (unfold g16; omega)), rfl⟩

set_option maxHeartbeats 4000000 in
set_option maxRecDepth 100000 in
theorem W_get16_s (l : List Int) (m a : Nat) (hm : List.length l = m) (hb : m ≤ 1000000) (hy : Byt l) (ha2 : a ≤ m) (ha : m < a + 2) : Fun 41 [.c (.d (D.sl (dI .u8 l) m)), iE ((a : Nat) : Int), iE 2] (toG []) 0 (.tup [.c (.d (D.lit (.int .u16 0))), iE 0, iE 4]) (toG []) 0 := by
  refine Fun.mk (n := 46) Try.func41 rfl rfl (Nat.le_of_ble_eq_true rfl) ?_
  intro cx hcx
  refine AW.rgs [.no, .no, .no] [0, 1, 2] [] (P := True) (l' := [(0, sV .u8 l m), (1, iV ↑a), (2, iV 2)]) (g' := []) (nx' := 0) (by kernel_rfl) trivial ?_
  refine AW.seq ?_
  refine AW.rgs [.no, .b false, .no, .no, .no, .no, .b false, .no] [0, 1, 2, 18] [] (P := (¬ (((a : Nat) : Int) < 0)) ∧ (¬ (((m : Nat) : Int) < ((a : Nat) : Int)))) (l' := [(0, sV .u8 l m), (1, iV ↑a), (2, iV 2), (18, bV false)]) (g' := []) (nx' := 0) (by kernel_rfl) ⟨(by omega), (by omega)⟩ ?_
  refine AW.cond_f (.tmp (Look.of rfl)) ?_
  refine AW.skip ?_
  refine AW.seq ?_
  refine AW.rgs [.no, .no, .no, .w, .no, .b true] [0, 1, 2, 24] [] (P := ((-9223372036854775808) ≤ (((m : Nat) : Int) - ((a : Nat) : Int)) ∧ (((m : Nat) : Int) - ((a : Nat) : Int)) ≤ 9223372036854775807) ∧ (((((m : Nat) : Int) - ((a : Nat) : Int)) < 2))) (l' := [(0, sV .u8 l m), (1, iV ↑a), (2, iV 2), (24, bV true)]) (g' := []) (nx' := 0) (by kernel_rfl) ⟨⟨by omega, by omega⟩, (by omega)⟩ ?_
  refine AW.cond_t (.tmp (Look.of rfl)) ?_
  refine AW.rgs [.no, .no, .no] [6, 7, 8] [] (P := True) (l' := [(6, .e (.c (.d (D.lit (.int .u16 0))))), (7, iV 0), (8, iV 4)]) (g' := []) (nx' := 0) (by kernel_rfl) trivial ?_
  refine AW.ret ?_
  exact EndP.of (.inr rfl) [] (P := ((0 : Int) = 0) ∧ ((0 : Int) = 0) ∧ ((4 : Int) = 4)) (by kernel_rfl) ⟨rfl, rfl, rfl⟩

set_option maxHeartbeats 4000000 in
set_option maxRecDepth 100000 in
theorem W_get16_r (l : List Int) (m a : Nat) (hm : List.length l = m) (hb : m ≤ 1000000) (hy : Byt l) (ha : m < a) : Fun 41 [.c (.d (D.sl (dI .u8 l) m)), iE ((a : Nat) : Int), iE 2] (toG []) 0 (.tup [.c (.d (D.lit (.int .u16 0))), iE 0, iE 2]) (toG []) 0 := by
  refine Fun.mk (n := 46) Try.func41 rfl rfl (Nat.le_of_ble_eq_true rfl) ?_
  intro cx hcx
  refine AW.rgs [.no, .no, .no] [0, 1, 2] [] (P := True) (l' := [(0, sV .u8 l m), (1, iV ↑a), (2, iV 2)]) (g' := []) (nx' := 0) (by kernel_rfl) trivial ?_
  refine AW.seq ?_
  refine AW.rgs [.no, .b false, .no, .no, .no, .no, .b true, .no] [0, 1, 2, 18] [] (P := (¬ (((a : Nat) : Int) < 0)) ∧ ((((m : Nat) : Int) < ((a : Nat) : Int)))) (l' := [(0, sV .u8 l m), (1, iV ↑a), (2, iV 2), (18, bV true)]) (g' := []) (nx' := 0) (by kernel_rfl) ⟨(by omega), (by omega)⟩ ?_
  refine AW.cond_t (.tmp (Look.of rfl)) ?_
  refine AW.rgs [.no, .no, .no] [6, 7, 8] [] (P := True) (l' := [(6, .e (.c (.d (D.lit (.int .u16 0))))), (7, iV 0), (8, iV 2)]) (g' := []) (nx' := 0) (by kernel_rfl) trivial ?_
  refine AW.ret ?_
  exact EndP.of (.inr rfl) [] (P := ((0 : Int) = 0) ∧ ((0 : Int) = 0) ∧ ((2 : Int) = 2)) (by kernel_rfl) ⟨rfl, rfl, rfl⟩

set_option maxHeartbeats 4000000 in
set_option maxRecDepth 100000 in
theorem W_rget16 (l : List Int) (m a : Nat) (hm : List.length l = m) (hb : m ≤ 1000000) (hy : Byt l) (ha : a + 2 ≤ m) : Fun 40 [.c (.d (D.sl (dI .u8 l) m)), iE ((a : Nat) : Int), iE 2] (toG []) 0 (.tup [.c (.d (D.lit (.int .u64 (g16 l a)))), iE (((a + 2) : Nat) : Int), iE 0]) (toG []) 0 := by
  refine Fun.mk (n := 45) Try.func40 rfl rfl (Nat.le_of_ble_eq_true rfl) ?_
  intro cx hcx
  refine AW.rgs [.no, .no, .no] [0, 1, 2] [] (P := True) (l' := [(0, sV .u8 l m), (1, iV ↑a), (2, iV 2)]) (g' := []) (nx' := 0) (by kernel_rfl) trivial ?_
  refine AW.seq ?_
  refine AW.rgs [.no, .b false, .no, .no, .no, .no, .b false, .no] [0, 1, 2, 18] [] (P := (¬ (((a : Nat) : Int) < 0)) ∧ (¬ (((m : Nat) : Int) < ((a : Nat) : Int)))) (l' := [(0, sV .u8 l m), (1, iV ↑a), (2, iV 2), (18, bV false)]) (g' := []) (nx' := 0) (by kernel_rfl) ⟨(by omega), (by omega)⟩ ?_
  refine AW.cond_f (.tmp (Look.of rfl)) ?_
  refine AW.skip ?_
  refine AW.seq ?_
  refine AW.rgs [.no, .no, .no, .w, .no, .b false] [0, 1, 2, 24] [] (P := ((-9223372036854775808) ≤ (((m : Nat) : Int) - ((a : Nat) : Int)) ∧ (((m : Nat) : Int) - ((a : Nat) : Int)) ≤ 9223372036854775807) ∧ (¬ ((((m : Nat) : Int) - ((a : Nat) : Int)) < 2))) (l' := [(0, sV .u8 l m), (1, iV ↑a), (2, iV 2), (24, bV false)]) (g' := []) (nx' := 0) (by kernel_rfl) ⟨⟨by omega, by omega⟩, (by omega)⟩ ?_
  refine AW.cond_f (.tmp (Look.of rfl)) ?_
  refine AW.skip ?_
  refine AW.rgs [.no] [0, 1, 2, 9] [] (P := True) (l' := [(0, sV .u8 l m), (1, iV ↑a), (2, iV 2), (9, .e (.c (.d (D.lit (.int .u64 0)))))]) (g' := []) (nx' := 0) (by kernel_rfl) trivial ?_
  refine AW.seq ?_
  refine AW.rgs [.no, .w, .no] [0, 1, 2, 9, 10] [] (P := ((-9223372036854775808) ≤ (1 : Int) ∧ (1 : Int) ≤ 9223372036854775807)) (l' := [(0, sV .u8 l m), (1, iV ↑a), (2, iV 2), (9, .e (.c (.d (D.lit (.int .u64 0))))), (10, iV 1)]) (g' := []) (nx' := 0) (by kernel_rfl) ⟨by omega, by omega⟩ ?_
  refine AW.block ?_
  refine AW.rounds 3 ?_
  refine AWr.s ?_
  refine AW.seq ?_
  refine AW.rgs [.no, .b true] [0, 1, 2, 9, 10, 28] [] (P := (((0 : Int) ≤ 1))) (l' := [(0, sV .u8 l m), (1, iV ↑a), (2, iV 2), (9, .e (.c (.d (D.lit (.int .u64 0))))), (10, iV 1), (28, bV true)]) (g' := []) (nx' := 0) (by kernel_rfl) (by omega) ?_
  refine AW.cond_t (.tmp (Look.of rfl)) ?_
  refine AW.skip ?_
  refine AW.seq ?_
  refine AW.block ?_
  have hx1 : 0 ≤ (List.getD l (a + 1) 0) ∧ (List.getD l (a + 1) 0) ≤ 255 := (show Byt l by with_reducible assumption).at _ (by first | omega | (simp <;> omega))
  refine AW.rg [.no, .n 8, .no, .no, .no, .w, .n (a + 1), .d (D.lit (.int .u8 (List.getD l (a + 1) 0))), .w, .i (List.getD l (a + 1) 0), .no] [0, 1, 2, 9, 10] [] (P := ((8 : Int) = 8) ∧ ((8 : Nat) ≤ 64) ∧ (0 ≤ (0 : Int) ∧ (0 : Int) ≤ 18446744073709551615) ∧ ((-9223372036854775808) ≤ (((a : Nat) : Int) + 1) ∧ (((a : Nat) : Int) + 1) ≤ 9223372036854775807) ∧ (((((a : Nat) : Int) + 1) : Int) = (((a + 1) : Nat) : Int)) ∧ ((a + 1) < m) ∧ ((List.drop (a + 1) (dI .u8 l))[0]? = some (D.lit (.int .u8 (List.getD l (a + 1) 0)))) ∧ (0 ≤ (List.getD l (a + 1) 0) ∧ (List.getD l (a + 1) 0) ≤ 18446744073709551615) ∧ (bitsI .or .u64 0 (List.getD l (a + 1) 0) = (List.getD l (a + 1) 0))) (l' := [(0, sV .u8 l m), (1, iV ↑a), (2, iV 2), (9, .e (.c (.d (D.lit (.int .u64 (List.getD l (a + 1) 0)))))), (10, iV 1)]) (g' := []) (nx' := 0) (by kernel_rfl) ⟨rfl, (by omega), ⟨by omega, by omega⟩, ⟨by omega, by omega⟩, (by first | rfl | omega), (by omega), (dI_at _ _ _ (by first | omega | (simp only [bsD_len, dI_len, List.length_append, List.length_cons, List.length_nil, List.length_take, List.length_drop, List.length_replicate, List.length_set, List.length_map, List.length_reverse, Nat.mul_one] <;> omega) | rfl)), ⟨by omega, by omega⟩, (or_zU (.inr ⟨rfl, rfl⟩) (by omega)).1⟩ ?_
  refine AW.rg [.no, .w, .no] [0, 1, 2, 9, 10] [] (P := ((-9223372036854775808) ≤ (0 : Int) ∧ (0 : Int) ≤ 9223372036854775807)) (l' := [(0, sV .u8 l m), (1, iV ↑a), (2, iV 2), (9, .e (.c (.d (D.lit (.int .u64 (List.getD l (a + 1) 0)))))), (10, iV 0)]) (g' := []) (nx' := 0) (by kernel_rfl) ⟨by omega, by omega⟩ ?_
  refine AWr.s ?_
  refine AW.seq ?_
  refine AW.rgs [.no, .b true] [0, 1, 2, 9, 10, 28] [] (P := (((0 : Int) ≤ 0))) (l' := [(0, sV .u8 l m), (1, iV ↑a), (2, iV 2), (9, .e (.c (.d (D.lit (.int .u64 (List.getD l (a + 1) 0)))))), (10, iV 0), (28, bV true)]) (g' := []) (nx' := 0) (by kernel_rfl) (by omega) ?_
  refine AW.cond_t (.tmp (Look.of rfl)) ?_
  refine AW.skip ?_
  refine AW.seq ?_
  refine AW.block ?_
  have hx2 : 0 ≤ (List.getD l (a + 0) 0) ∧ (List.getD l (a + 0) 0) ≤ 255 := (show Byt l by with_reducible assumption).at _ (by first | omega | (simp <;> omega))
  refine AW.rg [.no, .n 8, .no, .no, .no, .w, .n (a + 0), .d (D.lit (.int .u8 (List.getD l (a + 0) 0))), .w, .i (((List.getD l (a + 1) 0) * 256) + (List.getD l (a + 0) 0)), .no] [0, 1, 2, 9, 10] [] (P := ((8 : Int) = 8) ∧ ((8 : Nat) ≤ 64) ∧ (0 ≤ ((List.getD l (a + 1) 0) * 256) ∧ ((List.getD l (a + 1) 0) * 256) ≤ 18446744073709551615) ∧ ((-9223372036854775808) ≤ (((a : Nat) : Int) + 0) ∧ (((a : Nat) : Int) + 0) ≤ 9223372036854775807) ∧ (((((a : Nat) : Int) + 0) : Int) = (((a + 0) : Nat) : Int)) ∧ ((a + 0) < m) ∧ ((List.drop (a + 0) (dI .u8 l))[0]? = some (D.lit (.int .u8 (List.getD l (a + 0) 0)))) ∧ (0 ≤ (List.getD l (a + 0) 0) ∧ (List.getD l (a + 0) 0) ≤ 18446744073709551615) ∧ (bitsI .or .u64 ((List.getD l (a + 1) 0) * 256) (List.getD l (a + 0) 0) = (((List.getD l (a + 1) 0) * 256) + (List.getD l (a + 0) 0)))) (l' := [(0, sV .u8 l m), (1, iV ↑a), (2, iV 2), (9, .e (.c (.d (D.lit (.int .u64 (((List.getD l (a + 1) 0) * 256) + (List.getD l (a + 0) 0))))))), (10, iV 0)]) (g' := []) (nx' := 0) (by kernel_rfl) ⟨rfl, (by omega), ⟨by omega, by omega⟩, ⟨by omega, by omega⟩, (by first | rfl | omega), (by omega), (dI_at _ _ _ (by first | omega | (simp only [bsD_len, dI_len, List.length_append, List.length_cons, List.length_nil, List.length_take, List.length_drop, List.length_replicate, List.length_set, List.length_map, List.length_reverse, Nat.mul_one] <;> omega) | rfl)), ⟨by omega, by omega⟩, (or_hiU (.inr ⟨rfl, rfl⟩) (i := 8) 256 (by decide) (by omega) (by omega) (by omega))⟩ ?_
  refine AW.rg [.no, .w, .no] [0, 1, 2, 9, 10] [] (P := ((-9223372036854775808) ≤ ((-1) : Int) ∧ ((-1) : Int) ≤ 9223372036854775807)) (l' := [(0, sV .u8 l m), (1, iV ↑a), (2, iV 2), (9, .e (.c (.d (D.lit (.int .u64 (((List.getD l (a + 1) 0) * 256) + (List.getD l (a + 0) 0))))))), (10, iV (-1))]) (g' := []) (nx' := 0) (by kernel_rfl) ⟨by omega, by omega⟩ ?_
  refine AWr.s ?_
  refine AW.seq ?_
  refine AW.rgs [.no, .b false] [0, 1, 2, 9, 10, 28] [] (P := (¬ ((0 : Int) ≤ (-1)))) (l' := [(0, sV .u8 l m), (1, iV ↑a), (2, iV 2), (9, .e (.c (.d (D.lit (.int .u64 (((List.getD l (a + 1) 0) * 256) + (List.getD l (a + 0) 0))))))), (10, iV (-1)), (28, bV false)]) (g' := []) (nx' := 0) (by kernel_rfl) (by omega) ?_
  refine AW.cond_f (.tmp (Look.of rfl)) ?_
  refine AW.exit ?_
  refine AW.rgs [.no, .no, .no, .w, .no, .no, .no] [6, 7, 8] [] (P := ((-9223372036854775808) ≤ (((a : Nat) : Int) + 2) ∧ (((a : Nat) : Int) + 2) ≤ 9223372036854775807)) (l' := [(6, .e (.c (.d (D.lit (.int .u64 (((List.getD l (a + 1) 0) * 256) + (List.getD l (a + 0) 0))))))), (7, iV (↑a + 2)), (8, iV 0)]) (g' := []) (nx' := 0) (by kernel_rfl) ⟨by omega, by omega⟩ ?_
  refine AW.ret ?_
  exact EndP.of (.inr rfl) [] (P := (((g16 l a) : Int) = (((List.getD l (a + 1) 0) * 256) + (List.getD l (a + 0) 0))) ∧ (((((a + 2) : Nat) : Int) : Int) = (((a : Nat) : Int) + 2)) ∧ ((0 : Int) = 0)) (by kernel_rfl) ⟨(by first | omega | rfl | (unfold g16; omega)), (by first | omega | rfl | (unfold g16; omega)), rfl⟩

set_option maxHeartbeats 4000000 in
set_option maxRecDepth 100000 in
theorem W_rget16_s (l : List Int) (m a : Nat) (hm : List.length l = m) (hb : m ≤ 1000000) (hy : Byt l) (ha2 : a ≤ m) (ha : m < a + 2) : Fun 40 [.c (.d (D.sl (dI .u8 l) m)), iE ((a : Nat) : Int), iE 2] (toG []) 0 (.tup [.c (.d (D.lit (.int .u64 0))), iE 0, iE 4]) (toG []) 0 := by
  refine Fun.mk (n := 45) Try.func40 rfl rfl (Nat.le_of_ble_eq_true rfl) ?_
  intro cx hcx
  refine AW.rgs [.no, .no, .no] [0, 1, 2] [] (P := True) (l' := [(0, sV .u8 l m), (1, iV ↑a), (2, iV 2)]) (g' := []) (nx' := 0) (by kernel_rfl) trivial ?_
  refine AW.seq ?_
  refine AW.rgs [.no, .b false, .no, .no, .no, .no, .b false, .no] [0, 1, 2, 18] [] (P := (¬ (((a : Nat) : Int) < 0)) ∧ (¬ (((m : Nat) : Int) < ((a : Nat) : Int)))) (l' := [(0, sV .u8 l m), (1, iV ↑a), (2, iV 2), (18, bV false)]) (g' := []) (nx' := 0) (by kernel_rfl) ⟨(by omega), (by omega)⟩ ?_
  refine AW.cond_f (.tmp (Look.of rfl)) ?_
  refine AW.skip ?_
  refine AW.seq ?_
  refine AW.rgs [.no, .no, .no, .w, .no, .b true] [0, 1, 2, 24] [] (P := ((-9223372036854775808) ≤ (((m : Nat) : Int) - ((a : Nat) : Int)) ∧ (((m : Nat) : Int) - ((a : Nat) : Int)) ≤ 9223372036854775807) ∧ (((((m : Nat) : Int) - ((a : Nat) : Int)) < 2))) (l' := [(0, sV .u8 l m), (1, iV ↑a), (2, iV 2), (24, bV true)]) (g' := []) (nx' := 0) (by kernel_rfl) ⟨⟨by omega, by omega⟩, (by omega)⟩ ?_
  refine AW.cond_t (.tmp (Look.of rfl)) ?_
  refine AW.rgs [.no, .no, .no] [6, 7, 8] [] (P := True) (l' := [(6, .e (.c (.d (D.lit (.int .u64 0))))), (7, iV 0), (8, iV 4)]) (g' := []) (nx' := 0) (by kernel_rfl) trivial ?_
  refine AW.ret ?_
  exact EndP.of (.inr rfl) [] (P := ((0 : Int) = 0) ∧ ((0 : Int) = 0) ∧ ((4 : Int) = 4)) (by kernel_rfl) ⟨rfl, rfl, rfl⟩

set_option maxHeartbeats 4000000 in
set_option maxRecDepth 100000 in
theorem W_rget16_r (l : List Int) (m a : Nat) (hm : List.length l = m) (hb : m ≤ 1000000) (hy : Byt l) (ha : m < a) : Fun 40 [.c (.d (D.sl (dI .u8 l) m)), iE ((a : Nat) : Int), iE 2] (toG []) 0 (.tup [.c (.d (D.lit (.int .u64 0))), iE 0, iE 2]) (toG []) 0 := by
  refine Fun.mk (n := 45) Try.func40 rfl rfl (Nat.le_of_ble_eq_true rfl) ?_
  intro cx hcx
  refine AW.rgs [.no, .no, .no] [0, 1, 2] [] (P := True) (l' := [(0, sV .u8 l m), (1, iV ↑a), (2, iV 2)]) (g' := []) (nx' := 0) (by kernel_rfl) trivial ?_
  refine AW.seq ?_
  refine AW.rgs [.no, .b false, .no, .no, .no, .no, .b true, .no] [0, 1, 2, 18] [] (P := (¬ (((a : Nat) : Int) < 0)) ∧ ((((m : Nat) : Int) < ((a : Nat) : Int)))) (l' := [(0, sV .u8 l m), (1, iV ↑a), (2, iV 2), (18, bV true)]) (g' := []) (nx' := 0) (by kernel_rfl) ⟨(by omega), (by omega)⟩ ?_
  refine AW.cond_t (.tmp (Look.of rfl)) ?_
  refine AW.rgs [.no, .no, .no] [6, 7, 8] [] (P := True) (l' := [(6, .e (.c (.d (D.lit (.int .u64 0))))), (7, iV 0), (8, iV 2)]) (g' := []) (nx' := 0) (by kernel_rfl) trivial ?_
  refine AW.ret ?_
  exact EndP.of (.inr rfl) [] (P := ((0 : Int) = 0) ∧ ((0 : Int) = 0) ∧ ((2 : Int) = 2)) (by kernel_rfl) ⟨rfl, rfl, rfl⟩

set_option maxHeartbeats 4000000 in
set_option maxRecDepth 100000 in
theorem W_Get16 (l : List Int) (m a : Nat) (hm : List.length l = m) (hb : m ≤ 1000000) (hy : Byt l) (ha : a + 2 ≤ m) : Fun 38 [.c (.d (D.sl (dI .u8 l) m)), iE ((a : Nat) : Int)] (toG []) 0 (.tup [.c (.d (D.lit (.int .u16 (g16 l a)))), iE (((a + 2) : Nat) : Int), iE 0]) (toG []) 0 := by
  refine Fun.mk (n := 13) Try.func38 rfl rfl (Nat.le_of_ble_eq_true rfl) ?_
  intro cx hcx
  refine AW.rgs [.no, .no, .no] [0, 1] [] (P := True) (l' := [(0, sV .u8 l m), (1, iV ↑a)]) (g' := []) (nx' := 0) (by kernel_rfl) trivial ?_
  have hx1 : (((0 : Int) ≤ (g16 l a)) ∧ ((g16 l a) ≤ 65535)) := g16_rng hy (by omega)
  refine AW.rgs [.no, .no, .call [] (.tup [.c (.d (D.lit (.int .u16 (g16 l a)))), iE (((a + 2) : Nat) : Int), iE 0]) [] 0 [] none, .no, .no, .no, .no, .no, .no] [4, 5, 6] [] (P := (_)) (l' := [(4, .e (.c (.d (D.lit (.int .u16 (g16 l a)))))), (5, iV (((a + 2) : Nat) : Int)), (6, iV 0)]) (g' := []) (nx' := 0) (by kernel_rfl) (W_get16 l m a (by omega) (by omega) (show Byt l by with_reducible assumption) (by omega)) ?_
  refine AW.ret ?_
  exact EndP.of (.inr rfl) [] (P := (((g16 l a) : Int) = (g16 l a)) ∧ (((((a + 2) : Nat) : Int) : Int) = (((a + 2) : Nat) : Int)) ∧ ((0 : Int) = 0)) (by kernel_rfl) ⟨rfl, rfl, rfl⟩

set_option maxHeartbeats 4000000 in
set_option maxRecDepth 100000 in
theorem W_Get16_s (l : List Int) (m a : Nat) (hm : List.length l = m) (hb : m ≤ 1000000) (hy : Byt l) (ha2 : a ≤ m) (ha : m < a + 2) : Fun 38 [.c (.d (D.sl (dI .u8 l) m)), iE ((a : Nat) : Int)] (toG []) 0 (.tup [.c (.d (D.lit (.int .u16 0))), iE 0, iE 4]) (toG []) 0 := by
  refine Fun.mk (n := 13) Try.func38 rfl rfl (Nat.le_of_ble_eq_true rfl) ?_
  intro cx hcx
  refine AW.rgs [.no, .no, .no] [0, 1] [] (P := True) (l' := [(0, sV .u8 l m), (1, iV ↑a)]) (g' := []) (nx' := 0) (by kernel_rfl) trivial ?_
  refine AW.rgs [.no, .no, .call [] (.tup [.c (.d (D.lit (.int .u16 0))), iE 0, iE 4]) [] 0 [] none, .no, .no, .no, .no, .no, .no] [4, 5, 6] [] (P := (_)) (l' := [(4, .e (.c (.d (D.lit (.int .u16 0))))), (5, iV 0), (6, iV 4)]) (g' := []) (nx' := 0) (by kernel_rfl) (W_get16_s l m a (by omega) (by omega) (show Byt l by with_reducible assumption) (by omega) (by omega)) ?_
  refine AW.ret ?_
  exact EndP.of (.inr rfl) [] (P := ((0 : Int) = 0) ∧ ((0 : Int) = 0) ∧ ((4 : Int) = 4)) (by kernel_rfl) ⟨rfl, rfl, rfl⟩

set_option maxHeartbeats 4000000 in
set_option maxRecDepth 100000 in
theorem W_Get16_r (l : List Int) (m a : Nat) (hm : List.length l = m) (hb : m ≤ 1000000) (hy : Byt l) (ha : m < a) : Fun 38 [.c (.d (D.sl (dI .u8 l) m)), iE ((a : Nat) : Int)] (toG []) 0 (.tup [.c (.d (D.lit (.int .u16 0))), iE 0, iE 2]) (toG []) 0 := by
  refine Fun.mk (n := 13) Try.func38 rfl rfl (Nat.le_of_ble_eq_true rfl) ?_
  intro cx hcx
  refine AW.rgs [.no, .no, .no] [0, 1] [] (P := True) (l' := [(0, sV .u8 l m), (1, iV ↑a)]) (g' := []) (nx' := 0) (by kernel_rfl) trivial ?_
  refine AW.rgs [.no, .no, .call [] (.tup [.c (.d (D.lit (.int .u16 0))), iE 0, iE 2]) [] 0 [] none, .no, .no, .no, .no, .no, .no] [4, 5, 6] [] (P := (_)) (l' := [(4, .e (.c (.d (D.lit (.int .u16 0))))), (5, iV 0), (6, iV 2)]) (g' := []) (nx' := 0) (by kernel_rfl) (W_get16_r l m a (by omega) (by omega) (show Byt l by with_reducible assumption) (by omega)) ?_
  refine AW.ret ?_
  exact EndP.of (.inr rfl) [] (P := ((0 : Int) = 0) ∧ ((0 : Int) = 0) ∧ ((2 : Int) = 2)) (by kernel_rfl) ⟨rfl, rfl, rfl⟩

set_option maxHeartbeats 4000000 in
set_option maxRecDepth 100000 in
theorem W_rGet16 (l : List Int) (m a : Nat) (hm : List.length l = m) (hb : m ≤ 1000000) (hy : Byt l) (ha : a + 2 ≤ m) : Fun 30 [.c (.d (D.sl (dI .u8 l) m)), iE ((a : Nat) : Int)] (toG []) 0 (.tup [.c (.d (D.lit (.int .u16 (g16 l a)))), iE (((a + 2) : Nat) : Int), iE 0]) (toG []) 0 := by
  refine Fun.mk (n := 21) Try.func30 rfl rfl (Nat.le_of_ble_eq_true rfl) ?_
  intro cx hcx
  refine AW.rgs [.no, .no, .no] [0, 1] [] (P := True) (l' := [(0, sV .u8 l m), (1, iV ↑a)]) (g' := []) (nx' := 0) (by kernel_rfl) trivial ?_
  have hx1 : (((0 : Int) ≤ (g16 l a)) ∧ ((g16 l a) ≤ 65535)) := g16_rng hy (by omega)
  refine AW.rgs [.no, .no, .call [] (.tup [.c (.d (D.lit (.int .u64 (g16 l a)))), iE (((a + 2) : Nat) : Int), iE 0]) [] 0 [] none, .no, .no, .no, .no, .no, .no, .no] [7, 8, 9] [] (P := (_)) (l' := [(7, .e (.c (.d (D.lit (.int .u64 (g16 l a)))))), (8, iV (((a + 2) : Nat) : Int)), (9, iV 0)]) (g' := []) (nx' := 0) (by kernel_rfl) (W_rget16 l m a (by omega) (by omega) (show Byt l by with_reducible assumption) (by omega)) ?_
  refine AW.rgs [.no, .w, .no, .no, .no, .no, .no] [4, 5, 6] [] (P := (0 ≤ (g16 l a) ∧ (g16 l a) ≤ 65535)) (l' := [(4, .e (.c (.d (D.lit (.int .u16 (g16 l a)))))), (5, iV (((a + 2) : Nat) : Int)), (6, iV 0)]) (g' := []) (nx' := 0) (by kernel_rfl) ⟨by omega, by omega⟩ ?_
  refine AW.ret ?_
  exact EndP.of (.inr rfl) [] (P := (((g16 l a) : Int) = (g16 l a)) ∧ (((((a + 2) : Nat) : Int) : Int) = (((a + 2) : Nat) : Int)) ∧ ((0 : Int) = 0)) (by kernel_rfl) ⟨rfl, rfl, rfl⟩

set_option maxHeartbeats 4000000 in
set_option maxRecDepth 100000 in
theorem W_rGet16_s (l : List Int) (m a : Nat) (hm : List.length l = m) (hb : m ≤ 1000000) (hy : Byt l) (ha2 : a ≤ m) (ha : m < a + 2) : Fun 30 [.c (.d (D.sl (dI .u8 l) m)), iE ((a : Nat) : Int)] (toG []) 0 (.tup [.c (.d (D.lit (.int .u16 0))), iE 0, iE 4]) (toG []) 0 := by
  refine Fun.mk (n := 21) Try.func30 rfl rfl (Nat.le_of_ble_eq_true rfl) ?_
  intro cx hcx
  refine AW.rgs [.no, .no, .no] [0, 1] [] (P := True) (l' := [(0, sV .u8 l m), (1, iV ↑a)]) (g' := []) (nx' := 0) (by kernel_rfl) trivial ?_
  refine AW.rgs [.no, .no, .call [] (.tup [.c (.d (D.lit (.int .u64 0))), iE 0, iE 4]) [] 0 [] none, .no, .no, .no, .no, .no, .no, .no] [7, 8, 9] [] (P := (_)) (l' := [(7, .e (.c (.d (D.lit (.int .u64 0))))), (8, iV 0), (9, iV 4)]) (g' := []) (nx' := 0) (by kernel_rfl) (W_rget16_s l m a (by omega) (by omega) (show Byt l by with_reducible assumption) (by omega) (by omega)) ?_
  refine AW.rgs [.no, .w, .no, .no, .no, .no, .no] [4, 5, 6] [] (P := (0 ≤ (0 : Int) ∧ (0 : Int) ≤ 65535)) (l' := [(4, .e (.c (.d (D.lit (.int .u16 0))))), (5, iV 0), (6, iV 4)]) (g' := []) (nx' := 0) (by kernel_rfl) ⟨by omega, by omega⟩ ?_
  refine AW.ret ?_
  exact EndP.of (.inr rfl) [] (P := ((0 : Int) = 0) ∧ ((0 : Int) = 0) ∧ ((4 : Int) = 4)) (by kernel_rfl) ⟨rfl, rfl, rfl⟩

set_option maxHeartbeats 4000000 in
set_option maxRecDepth 100000 in
theorem W_rGet16_r (l : List Int) (m a : Nat) (hm : List.length l = m) (hb : m ≤ 1000000) (hy : Byt l) (ha : m < a) : Fun 30 [.c (.d (D.sl (dI .u8 l) m)), iE ((a : Nat) : Int)] (toG []) 0 (.tup [.c (.d (D.lit (.int .u16 0))), iE 0, iE 2]) (toG []) 0 := by
  refine Fun.mk (n := 21) Try.func30 rfl rfl (Nat.le_of_ble_eq_true rfl) ?_
  intro cx hcx
  refine AW.rgs [.no, .no, .no] [0, 1] [] (P := True) (l' := [(0, sV .u8 l m), (1, iV ↑a)]) (g' := []) (nx' := 0) (by kernel_rfl) trivial ?_
  refine AW.rgs [.no, .no, .call [] (.tup [.c (.d (D.lit (.int .u64 0))), iE 0, iE 2]) [] 0 [] none, .no, .no, .no, .no, .no, .no, .no] [7, 8, 9] [] (P := (_)) (l' := [(7, .e (.c (.d (D.lit (.int .u64 0))))), (8, iV 0), (9, iV 2)]) (g' := []) (nx' := 0) (by kernel_rfl) (W_rget16_r l m a (by omega) (by omega) (show Byt l by with_reducible assumption) (by omega)) ?_
  refine AW.rgs [.no, .w, .no, .no, .no, .no, .no] [4, 5, 6] [] (P := (0 ≤ (0 : Int) ∧ (0 : Int) ≤ 65535)) (l' := [(4, .e (.c (.d (D.lit (.int .u16 0))))), (5, iV 0), (6, iV 2)]) (g' := []) (nx' := 0) (by kernel_rfl) ⟨by omega, by omega⟩ ?_
  refine AW.ret ?_
  exact EndP.of (.inr rfl) [] (P := ((0 : Int) = 0) ∧ ((0 : Int) = 0) ∧ ((2 : Int) = 2)) (by kernel_rfl) ⟨rfl, rfl, rfl⟩

set_option maxHeartbeats 4000000 in
set_option maxRecDepth 100000 in
theorem W_get64 (l : List Int) (m a : Nat) (hm : List.length l = m) (hb : m ≤ 1000000) (hy : Byt l) (ha : a + 8 ≤ m) : Fun 42 [.c (.d (D.sl (dI .u8 l) m)), iE ((a : Nat) : Int), iE 8] (toG []) 0 (.tup [.c (.d (D.lit (.int .u64 (g64 l a)))), iE (((a + 8) : Nat) : Int), iE 0]) (toG []) 0 := by
  refine Fun.mk (n := 46) Try.func42 rfl rfl (Nat.le_of_ble_eq_true rfl) ?_
  intro cx hcx
  refine AW.rgs [.no, .no, .no] [0, 1, 2] [] (P := True) (l' := [(0, sV .u8 l m), (1, iV ↑a), (2, iV 8)]) (g' := []) (nx' := 0) (by kernel_rfl) trivial ?_
  refine AW.seq ?_
  refine AW.rgs [.no, .b false, .no, .no, .no, .no, .b false, .no] [0, 1, 2, 18] [] (P := (¬ (((a : Nat) : Int) < 0)) ∧ (¬ (((m : Nat) : Int) < ((a : Nat) : Int)))) (l' := [(0, sV .u8 l m), (1, iV ↑a), (2, iV 8), (18, bV false)]) (g' := []) (nx' := 0) (by kernel_rfl) ⟨(by omega), (by omega)⟩ ?_
  refine AW.cond_f (.tmp (Look.of rfl)) ?_
  refine AW.skip ?_
  refine AW.seq ?_
  refine AW.rgs [.no, .no, .no, .w, .no, .b false] [0, 1, 2, 24] [] (P := ((-9223372036854775808) ≤ (((m : Nat) : Int) - ((a : Nat) : Int)) ∧ (((m : Nat) : Int) - ((a : Nat) : Int)) ≤ 9223372036854775807) ∧ (¬ ((((m : Nat) : Int) - ((a : Nat) : Int)) < 8))) (l' := [(0, sV .u8 l m), (1, iV ↑a), (2, iV 8), (24, bV false)]) (g' := []) (nx' := 0) (by kernel_rfl) ⟨⟨by omega, by omega⟩, (by omega)⟩ ?_
  refine AW.cond_f (.tmp (Look.of rfl)) ?_
  refine AW.skip ?_
  refine AW.rgs [.no] [0, 1, 2, 9] [] (P := True) (l' := [(0, sV .u8 l m), (1, iV ↑a), (2, iV 8), (9, .e (.c (.d (D.lit (.int .u64 0)))))]) (g' := []) (nx' := 0) (by kernel_rfl) trivial ?_
  refine AW.seq ?_
  refine AW.rgs [.no, .no] [0, 1, 2, 9, 25, 26] [] (P := True) (l' := [(0, sV .u8 l m), (1, iV ↑a), (2, iV 8), (9, .e (.c (.d (D.lit (.int .u64 0))))), (25, iV 8), (26, iV 0)]) (g' := []) (nx' := 0) (by kernel_rfl) trivial ?_
  refine AW.block ?_
  refine AW.rounds 9 ?_
  refine AWr.s ?_
  refine AW.rgs [.b true] [0, 1, 2, 9, 25, 26, 27] [] (P := (((0 : Int) < 8))) (l' := [(0, sV .u8 l m), (1, iV ↑a), (2, iV 8), (9, .e (.c (.d (D.lit (.int .u64 0))))), (25, iV 8), (26, iV 0), (27, bV true)]) (g' := []) (nx' := 0) (by kernel_rfl) (by omega) ?_
  refine AW.seq ?_
  refine AW.cond_t (.tmp (Look.of rfl)) ?_
  refine AW.skip ?_
  refine AW.seq ?_
  refine AW.block ?_
  refine AW.rgs [.no, .no] [0, 1, 2, 9, 10, 25, 26] [] (P := True) (l' := [(0, sV .u8 l m), (1, iV ↑a), (2, iV 8), (9, .e (.c (.d (D.lit (.int .u64 0))))), (10, iV 0), (25, iV 8), (26, iV 0)]) (g' := []) (nx' := 0) (by kernel_rfl) trivial ?_
  have hx1 : 0 ≤ (List.getD l (a + 0) 0) ∧ (List.getD l (a + 0) 0) ≤ 255 := (show Byt l by with_reducible assumption).at _ (by first | omega | (simp <;> omega))
  refine AW.rg [.no, .no, .no, .no, .w, .n (a + 0), .d (D.lit (.int .u8 (List.getD l (a + 0) 0))), .w, .no, .w, .n 0, .i ((List.getD l (a + 0) 0) * 1), .no] [0, 1, 2, 9, 25, 26] [] (P := ((-9223372036854775808) ≤ (((a : Nat) : Int) + 0) ∧ (((a : Nat) : Int) + 0) ≤ 9223372036854775807) ∧ (((((a : Nat) : Int) + 0) : Int) = (((a + 0) : Nat) : Int)) ∧ ((a + 0) < m) ∧ ((List.drop (a + 0) (dI .u8 l))[0]? = some (D.lit (.int .u8 (List.getD l (a + 0) 0)))) ∧ (0 ≤ (List.getD l (a + 0) 0) ∧ (List.getD l (a + 0) 0) ≤ 18446744073709551615) ∧ ((-9223372036854775808) ≤ (0 : Int) ∧ (0 : Int) ≤ 9223372036854775807) ∧ ((0 : Int) = 0) ∧ ((0 : Nat) ≤ 64) ∧ (0 ≤ ((List.getD l (a + 0) 0) * 1) ∧ ((List.getD l (a + 0) 0) * 1) ≤ 18446744073709551615) ∧ (bitsI .or .u64 0 ((List.getD l (a + 0) 0) * 1) = ((List.getD l (a + 0) 0) * 1))) (l' := [(0, sV .u8 l m), (1, iV ↑a), (2, iV 8), (9, .e (.c (.d (D.lit (.int .u64 ((List.getD l (a + 0) 0) * 1)))))), (25, iV 8), (26, iV 0)]) (g' := []) (nx' := 0) (by kernel_rfl) ⟨⟨by omega, by omega⟩, (by first | rfl | omega), (by omega), (dI_at _ _ _ (by first | omega | (simp only [bsD_len, dI_len, List.length_append, List.length_cons, List.length_nil, List.length_take, List.length_drop, List.length_replicate, List.length_set, List.length_map, List.length_reverse, Nat.mul_one] <;> omega) | rfl)), ⟨by omega, by omega⟩, ⟨by omega, by omega⟩, rfl, (by omega), ⟨by omega, by omega⟩, (or_zU (.inr ⟨rfl, rfl⟩) (by omega)).1⟩ ?_
  refine AW.rg [.w, .no] [0, 1, 2, 9, 25, 26] [] (P := ((-9223372036854775808) ≤ (1 : Int) ∧ (1 : Int) ≤ 9223372036854775807)) (l' := [(0, sV .u8 l m), (1, iV ↑a), (2, iV 8), (9, .e (.c (.d (D.lit (.int .u64 ((List.getD l (a + 0) 0) * 1)))))), (25, iV 8), (26, iV 1)]) (g' := []) (nx' := 0) (by kernel_rfl) ⟨by omega, by omega⟩ ?_
  refine AWr.s ?_
  refine AW.rgs [.b true] [0, 1, 2, 9, 25, 26, 27] [] (P := (((1 : Int) < 8))) (l' := [(0, sV .u8 l m), (1, iV ↑a), (2, iV 8), (9, .e (.c (.d (D.lit (.int .u64 ((List.getD l (a + 0) 0) * 1)))))), (25, iV 8), (26, iV 1), (27, bV true)]) (g' := []) (nx' := 0) (by kernel_rfl) (by omega) ?_
  refine AW.seq ?_
  refine AW.cond_t (.tmp (Look.of rfl)) ?_
  refine AW.skip ?_
  refine AW.seq ?_
  refine AW.block ?_
  refine AW.rgs [.no, .no] [0, 1, 2, 9, 10, 25, 26] [] (P := True) (l' := [(0, sV .u8 l m), (1, iV ↑a), (2, iV 8), (9, .e (.c (.d (D.lit (.int .u64 ((List.getD l (a + 0) 0) * 1)))))), (10, iV 1), (25, iV 8), (26, iV 1)]) (g' := []) (nx' := 0) (by kernel_rfl) trivial ?_
  have hx2 : 0 ≤ (List.getD l (a + 1) 0) ∧ (List.getD l (a + 1) 0) ≤ 255 := (show Byt l by with_reducible assumption).at _ (by first | omega | (simp <;> omega))
  refine AW.rg [.no, .no, .no, .no, .w, .n (a + 1), .d (D.lit (.int .u8 (List.getD l (a + 1) 0))), .w, .no, .w, .n 8, .i (((List.getD l (a + 0) 0) * 1) + ((List.getD l (a + 1) 0) * 256)), .no] [0, 1, 2, 9, 25, 26] [] (P := ((-9223372036854775808) ≤ (((a : Nat) : Int) + 1) ∧ (((a : Nat) : Int) + 1) ≤ 9223372036854775807) ∧ (((((a : Nat) : Int) + 1) : Int) = (((a + 1) : Nat) : Int)) ∧ ((a + 1) < m) ∧ ((List.drop (a + 1) (dI .u8 l))[0]? = some (D.lit (.int .u8 (List.getD l (a + 1) 0)))) ∧ (0 ≤ (List.getD l (a + 1) 0) ∧ (List.getD l (a + 1) 0) ≤ 18446744073709551615) ∧ ((-9223372036854775808) ≤ (8 : Int) ∧ (8 : Int) ≤ 9223372036854775807) ∧ ((8 : Int) = 8) ∧ ((8 : Nat) ≤ 64) ∧ (0 ≤ ((List.getD l (a + 1) 0) * 256) ∧ ((List.getD l (a + 1) 0) * 256) ≤ 18446744073709551615) ∧ (bitsI .or .u64 ((List.getD l (a + 0) 0) * 1) ((List.getD l (a + 1) 0) * 256) = (((List.getD l (a + 0) 0) * 1) + ((List.getD l (a + 1) 0) * 256)))) (l' := [(0, sV .u8 l m), (1, iV ↑a), (2, iV 8), (9, .e (.c (.d (D.lit (.int .u64 (((List.getD l (a + 0) 0) * 1) + ((List.getD l (a + 1) 0) * 256))))))), (25, iV 8), (26, iV 1)]) (g' := []) (nx' := 0) (by kernel_rfl) ⟨⟨by omega, by omega⟩, (by first | rfl | omega), (by omega), (dI_at _ _ _ (by first | omega | (simp only [bsD_len, dI_len, List.length_append, List.length_cons, List.length_nil, List.length_take, List.length_drop, List.length_replicate, List.length_set, List.length_map, List.length_reverse, Nat.mul_one] <;> omega) | rfl)), ⟨by omega, by omega⟩, ⟨by omega, by omega⟩, rfl, (by omega), ⟨by omega, by omega⟩, (or_loU (.inr ⟨rfl, rfl⟩) (i := 8) 256 (by decide) (by omega) (by omega) (by omega))⟩ ?_
  refine AW.rg [.w, .no] [0, 1, 2, 9, 25, 26] [] (P := ((-9223372036854775808) ≤ (2 : Int) ∧ (2 : Int) ≤ 9223372036854775807)) (l' := [(0, sV .u8 l m), (1, iV ↑a), (2, iV 8), (9, .e (.c (.d (D.lit (.int .u64 (((List.getD l (a + 0) 0) * 1) + ((List.getD l (a + 1) 0) * 256))))))), (25, iV 8), (26, iV 2)]) (g' := []) (nx' := 0) (by kernel_rfl) ⟨by omega, by omega⟩ ?_
  refine AWr.s ?_
  refine AW.rgs [.b true] [0, 1, 2, 9, 25, 26, 27] [] (P := (((2 : Int) < 8))) (l' := [(0, sV .u8 l m), (1, iV ↑a), (2, iV 8), (9, .e (.c (.d (D.lit (.int .u64 (((List.getD l (a + 0) 0) * 1) + ((List.getD l (a + 1) 0) * 256))))))), (25, iV 8), (26, iV 2), (27, bV true)]) (g' := []) (nx' := 0) (by kernel_rfl) (by omega) ?_
  refine AW.seq ?_
  refine AW.cond_t (.tmp (Look.of rfl)) ?_
  refine AW.skip ?_
  refine AW.seq ?_
  refine AW.block ?_
  refine AW.rgs [.no, .no] [0, 1, 2, 9, 10, 25, 26] [] (P := True) (l' := [(0, sV .u8 l m), (1, iV ↑a), (2, iV 8), (9, .e (.c (.d (D.lit (.int .u64 (((List.getD l (a + 0) 0) * 1) + ((List.getD l (a + 1) 0) * 256))))))), (10, iV 2), (25, iV 8), (26, iV 2)]) (g' := []) (nx' := 0) (by kernel_rfl) trivial ?_
  have hx3 : 0 ≤ (List.getD l (a + 2) 0) ∧ (List.getD l (a + 2) 0) ≤ 255 := (show Byt l by with_reducible assumption).at _ (by first | omega | (simp <;> omega))
  refine AW.rg [.no, .no, .no, .no, .w, .n (a + 2), .d (D.lit (.int .u8 (List.getD l (a + 2) 0))), .w, .no, .w, .n 16, .i ((((List.getD l (a + 0) 0) * 1) + ((List.getD l (a + 1) 0) * 256)) + ((List.getD l (a + 2) 0) * 65536)), .no] [0, 1, 2, 9, 25, 26] [] (P := ((-9223372036854775808) ≤ (((a : Nat) : Int) + 2) ∧ (((a : Nat) : Int) + 2) ≤ 9223372036854775807) ∧ (((((a : Nat) : Int) + 2) : Int) = (((a + 2) : Nat) : Int)) ∧ ((a + 2) < m) ∧ ((List.drop (a + 2) (dI .u8 l))[0]? = some (D.lit (.int .u8 (List.getD l (a + 2) 0)))) ∧ (0 ≤ (List.getD l (a + 2) 0) ∧ (List.getD l (a + 2) 0) ≤ 18446744073709551615) ∧ ((-9223372036854775808) ≤ (16 : Int) ∧ (16 : Int) ≤ 9223372036854775807) ∧ ((16 : Int) = 16) ∧ ((16 : Nat) ≤ 64) ∧ (0 ≤ ((List.getD l (a + 2) 0) * 65536) ∧ ((List.getD l (a + 2) 0) * 65536) ≤ 18446744073709551615) ∧ (bitsI .or .u64 (((List.getD l (a + 0) 0) * 1) + ((List.getD l (a + 1) 0) * 256)) ((List.getD l (a + 2) 0) * 65536) = ((((List.getD l (a + 0) 0) * 1) + ((List.getD l (a + 1) 0) * 256)) + ((List.getD l (a + 2) 0) * 65536)))) (l' := [(0, sV .u8 l m), (1, iV ↑a), (2, iV 8), (9, .e (.c (.d (D.lit (.int .u64 ((((List.getD l (a + 0) 0) * 1) + ((List.getD l (a + 1) 0) * 256)) + ((List.getD l (a + 2) 0) * 65536))))))), (25, iV 8), (26, iV 2)]) (g' := []) (nx' := 0) (by kernel_rfl) ⟨⟨by omega, by omega⟩, (by first | rfl | omega), (by omega), (dI_at _ _ _ (by first | omega | (simp only [bsD_len, dI_len, List.length_append, List.length_cons, List.length_nil, List.length_take, List.length_drop, List.length_replicate, List.length_set, List.length_map, List.length_reverse, Nat.mul_one] <;> omega) | rfl)), ⟨by omega, by omega⟩, ⟨by omega, by omega⟩, rfl, (by omega), ⟨by omega, by omega⟩, (or_loU (.inr ⟨rfl, rfl⟩) (i := 16) 65536 (by decide) (by omega) (by omega) (by omega))⟩ ?_
  refine AW.rg [.w, .no] [0, 1, 2, 9, 25, 26] [] (P := ((-9223372036854775808) ≤ (3 : Int) ∧ (3 : Int) ≤ 9223372036854775807)) (l' := [(0, sV .u8 l m), (1, iV ↑a), (2, iV 8), (9, .e (.c (.d (D.lit (.int .u64 ((((List.getD l (a + 0) 0) * 1) + ((List.getD l (a + 1) 0) * 256)) + ((List.getD l (a + 2) 0) * 65536))))))), (25, iV 8), (26, iV 3)]) (g' := []) (nx' := 0) (by kernel_rfl) ⟨by omega, by omega⟩ ?_
  refine AWr.s ?_
  refine AW.rgs [.b true] [0, 1, 2, 9, 25, 26, 27] [] (P := (((3 : Int) < 8))) (l' := [(0, sV .u8 l m), (1, iV ↑a), (2, iV 8), (9, .e (.c (.d (D.lit (.int .u64 ((((List.getD l (a + 0) 0) * 1) + ((List.getD l (a + 1) 0) * 256)) + ((List.getD l (a + 2) 0) * 65536))))))), (25, iV 8), (26, iV 3), (27, bV true)]) (g' := []) (nx' := 0) (by kernel_rfl) (by omega) ?_
  refine AW.seq ?_
  refine AW.cond_t (.tmp (Look.of rfl)) ?_
  refine AW.skip ?_
  refine AW.seq ?_
  refine AW.block ?_
  refine AW.rgs [.no, .no] [0, 1, 2, 9, 10, 25, 26] [] (P := True) (l' := [(0, sV .u8 l m), (1, iV ↑a), (2, iV 8), (9, .e (.c (.d (D.lit (.int .u64 ((((List.getD l (a + 0) 0) * 1) + ((List.getD l (a + 1) 0) * 256)) + ((List.getD l (a + 2) 0) * 65536))))))), (10, iV 3), (25, iV 8), (26, iV 3)]) (g' := []) (nx' := 0) (by kernel_rfl) trivial ?_
  have hx4 : 0 ≤ (List.getD l (a + 3) 0) ∧ (List.getD l (a + 3) 0) ≤ 255 := (show Byt l by with_reducible assumption).at _ (by first | omega | (simp <;> omega))
  refine AW.rg [.no, .no, .no, .no, .w, .n (a + 3), .d (D.lit (.int .u8 (List.getD l (a + 3) 0))), .w, .no, .w, .n 24, .i (((((List.getD l (a + 0) 0) * 1) + ((List.getD l (a + 1) 0) * 256)) + ((List.getD l (a + 2) 0) * 65536)) + ((List.getD l (a + 3) 0) * 16777216)), .no] [0, 1, 2, 9, 25, 26] [] (P := ((-9223372036854775808) ≤ (((a : Nat) : Int) + 3) ∧ (((a : Nat) : Int) + 3) ≤ 9223372036854775807) ∧ (((((a : Nat) : Int) + 3) : Int) = (((a + 3) : Nat) : Int)) ∧ ((a + 3) < m) ∧ ((List.drop (a + 3) (dI .u8 l))[0]? = some (D.lit (.int .u8 (List.getD l (a + 3) 0)))) ∧ (0 ≤ (List.getD l (a + 3) 0) ∧ (List.getD l (a + 3) 0) ≤ 18446744073709551615) ∧ ((-9223372036854775808) ≤ (24 : Int) ∧ (24 : Int) ≤ 9223372036854775807) ∧ ((24 : Int) = 24) ∧ ((24 : Nat) ≤ 64) ∧ (0 ≤ ((List.getD l (a + 3) 0) * 16777216) ∧ ((List.getD l (a + 3) 0) * 16777216) ≤ 18446744073709551615) ∧ (bitsI .or .u64 ((((List.getD l (a + 0) 0) * 1) + ((List.getD l (a + 1) 0) * 256)) + ((List.getD l (a + 2) 0) * 65536)) ((List.getD l (a + 3) 0) * 16777216) = (((((List.getD l (a + 0) 0) * 1) + ((List.getD l (a + 1) 0) * 256)) + ((List.getD l (a + 2) 0) * 65536)) + ((List.getD l (a + 3) 0) * 16777216)))) (l' := [(0, sV .u8 l m), (1, iV ↑a), (2, iV 8), (9, .e (.c (.d (D.lit (.int .u64 (((((List.getD l (a + 0) 0) * 1) + ((List.getD l (a + 1) 0) * 256)) + ((List.getD l (a + 2) 0) * 65536)) + ((List.getD l (a + 3) 0) * 16777216))))))), (25, iV 8), (26, iV 3)]) (g' := []) (nx' := 0) (by kernel_rfl) ⟨⟨by omega, by omega⟩, (by first | rfl | omega), (by omega), (dI_at _ _ _ (by first | omega | (simp only [bsD_len, dI_len, List.length_append, List.length_cons, List.length_nil, List.length_take, List.length_drop, List.length_replicate, List.length_set, List.length_map, List.length_reverse, Nat.mul_one] <;> omega) | rfl)), ⟨by omega, by omega⟩, ⟨by omega, by omega⟩, rfl, (by omega), ⟨by omega, by omega⟩, (or_loU (.inr ⟨rfl, rfl⟩) (i := 24) 16777216 (by decide) (by omega) (by omega) (by omega))⟩ ?_
  refine AW.rg [.w, .no] [0, 1, 2, 9, 25, 26] [] (P := ((-9223372036854775808) ≤ (4 : Int) ∧ (4 : Int) ≤ 9223372036854775807)) (l' := [(0, sV .u8 l m), (1, iV ↑a), (2, iV 8), (9, .e (.c (.d (D.lit (.int .u64 (((((List.getD l (a + 0) 0) * 1) + ((List.getD l (a + 1) 0) * 256)) + ((List.getD l (a + 2) 0) * 65536)) + ((List.getD l (a + 3) 0) * 16777216))))))), (25, iV 8), (26, iV 4)]) (g' := []) (nx' := 0) (by kernel_rfl) ⟨by omega, by omega⟩ ?_
  refine AWr.s ?_
  refine AW.rgs [.b true] [0, 1, 2, 9, 25, 26, 27] [] (P := (((4 : Int) < 8))) (l' := [(0, sV .u8 l m), (1, iV ↑a), (2, iV 8), (9, .e (.c (.d (D.lit (.int .u64 (((((List.getD l (a + 0) 0) * 1) + ((List.getD l (a + 1) 0) * 256)) + ((List.getD l (a + 2) 0) * 65536)) + ((List.getD l (a + 3) 0) * 16777216))))))), (25, iV 8), (26, iV 4), (27, bV true)]) (g' := []) (nx' := 0) (by kernel_rfl) (by omega) ?_
  refine AW.seq ?_
  refine AW.cond_t (.tmp (Look.of rfl)) ?_
  refine AW.skip ?_
  refine AW.seq ?_
  refine AW.block ?_
  refine AW.rgs [.no, .no] [0, 1, 2, 9, 10, 25, 26] [] (P := True) (l' := [(0, sV .u8 l m), (1, iV ↑a), (2, iV 8), (9, .e (.c (.d (D.lit (.int .u64 (((((List.getD l (a + 0) 0) * 1) + ((List.getD l (a + 1) 0) * 256)) + ((List.getD l (a + 2) 0) * 65536)) + ((List.getD l (a + 3) 0) * 16777216))))))), (10, iV 4), (25, iV 8), (26, iV 4)]) (g' := []) (nx' := 0) (by kernel_rfl) trivial ?_
  have hx5 : 0 ≤ (List.getD l (a + 4) 0) ∧ (List.getD l (a + 4) 0) ≤ 255 := (show Byt l by with_reducible assumption).at _ (by first | omega | (simp <;> omega))
  refine AW.rg [.no, .no, .no, .no, .w, .n (a + 4), .d (D.lit (.int .u8 (List.getD l (a + 4) 0))), .w, .no, .w, .n 32, .i ((((((List.getD l (a + 0) 0) * 1) + ((List.getD l (a + 1) 0) * 256)) + ((List.getD l (a + 2) 0) * 65536)) + ((List.getD l (a + 3) 0) * 16777216)) + ((List.getD l (a + 4) 0) * 4294967296)), .no] [0, 1, 2, 9, 25, 26] [] (P := ((-9223372036854775808) ≤ (((a : Nat) : Int) + 4) ∧ (((a : Nat) : Int) + 4) ≤ 9223372036854775807) ∧ (((((a : Nat) : Int) + 4) : Int) = (((a + 4) : Nat) : Int)) ∧ ((a + 4) < m) ∧ ((List.drop (a + 4) (dI .u8 l))[0]? = some (D.lit (.int .u8 (List.getD l (a + 4) 0)))) ∧ (0 ≤ (List.getD l (a + 4) 0) ∧ (List.getD l (a + 4) 0) ≤ 18446744073709551615) ∧ ((-9223372036854775808) ≤ (32 : Int) ∧ (32 : Int) ≤ 9223372036854775807) ∧ ((32 : Int) = 32) ∧ ((32 : Nat) ≤ 64) ∧ (0 ≤ ((List.getD l (a + 4) 0) * 4294967296) ∧ ((List.getD l (a + 4) 0) * 4294967296) ≤ 18446744073709551615) ∧ (bitsI .or .u64 (((((List.getD l (a + 0) 0) * 1) + ((List.getD l (a + 1) 0) * 256)) + ((List.getD l (a + 2) 0) * 65536)) + ((List.getD l (a + 3) 0) * 16777216)) ((List.getD l (a + 4) 0) * 4294967296) = ((((((List.getD l (a + 0) 0) * 1) + ((List.getD l (a + 1) 0) * 256)) + ((List.getD l (a + 2) 0) * 65536)) + ((List.getD l (a + 3) 0) * 16777216)) + ((List.getD l (a + 4) 0) * 4294967296)))) (l' := [(0, sV .u8 l m), (1, iV ↑a), (2, iV 8), (9, .e (.c (.d (D.lit (.int .u64 ((((((List.getD l (a + 0) 0) * 1) + ((List.getD l (a + 1) 0) * 256)) + ((List.getD l (a + 2) 0) * 65536)) + ((List.getD l (a + 3) 0) * 16777216)) + ((List.getD l (a + 4) 0) * 4294967296))))))), (25, iV 8), (26, iV 4)]) (g' := []) (nx' := 0) (by kernel_rfl) ⟨⟨by omega, by omega⟩, (by first | rfl | omega), (by omega), (dI_at _ _ _ (by first | omega | (simp only [bsD_len, dI_len, List.length_append, List.length_cons, List.length_nil, List.length_take, List.length_drop, List.length_replicate, List.length_set, List.length_map, List.length_reverse, Nat.mul_one] <;> omega) | rfl)), ⟨by omega, by omega⟩, ⟨by omega, by omega⟩, rfl, (by omega), ⟨by omega, by omega⟩, (or_loU (.inr ⟨rfl, rfl⟩) (i := 32) 4294967296 (by decide) (by omega) (by omega) (by omega))⟩ ?_
  refine AW.rg [.w, .no] [0, 1, 2, 9, 25, 26] [] (P := ((-9223372036854775808) ≤ (5 : Int) ∧ (5 : Int) ≤ 9223372036854775807)) (l' := [(0, sV .u8 l m), (1, iV ↑a), (2, iV 8), (9, .e (.c (.d (D.lit (.int .u64 ((((((List.getD l (a + 0) 0) * 1) + ((List.getD l (a + 1) 0) * 256)) + ((List.getD l (a + 2) 0) * 65536)) + ((List.getD l (a + 3) 0) * 16777216)) + ((List.getD l (a + 4) 0) * 4294967296))))))), (25, iV 8), (26, iV 5)]) (g' := []) (nx' := 0) (by kernel_rfl) ⟨by omega, by omega⟩ ?_
  refine AWr.s ?_
  refine AW.rgs [.b true] [0, 1, 2, 9, 25, 26, 27] [] (P := (((5 : Int) < 8))) (l' := [(0, sV .u8 l m), (1, iV ↑a), (2, iV 8), (9, .e (.c (.d (D.lit (.int .u64 ((((((List.getD l (a + 0) 0) * 1) + ((List.getD l (a + 1) 0) * 256)) + ((List.getD l (a + 2) 0) * 65536)) + ((List.getD l (a + 3) 0) * 16777216)) + ((List.getD l (a + 4) 0) * 4294967296))))))), (25, iV 8), (26, iV 5), (27, bV true)]) (g' := []) (nx' := 0) (by kernel_rfl) (by omega) ?_
  refine AW.seq ?_
  refine AW.cond_t (.tmp (Look.of rfl)) ?_
  refine AW.skip ?_
  refine AW.seq ?_
  refine AW.block ?_
  refine AW.rgs [.no, .no] [0, 1, 2, 9, 10, 25, 26] [] (P := True) (l' := [(0, sV .u8 l m), (1, iV ↑a), (2, iV 8), (9, .e (.c (.d (D.lit (.int .u64 ((((((List.getD l (a + 0) 0) * 1) + ((List.getD l (a + 1) 0) * 256)) + ((List.getD l (a + 2) 0) * 65536)) + ((List.getD l (a + 3) 0) * 16777216)) + ((List.getD l (a + 4) 0) * 4294967296))))))), (10, iV 5), (25, iV 8), (26, iV 5)]) (g' := []) (nx' := 0) (by kernel_rfl) trivial ?_
  have hx6 : 0 ≤ (List.getD l (a + 5) 0) ∧ (List.getD l (a + 5) 0) ≤ 255 := (show Byt l by with_reducible assumption).at _ (by first | omega | (simp <;> omega))
  refine AW.rg [.no, .no, .no, .no, .w, .n (a + 5), .d (D.lit (.int .u8 (List.getD l (a + 5) 0))), .w, .no, .w, .n 40, .i (((((((List.getD l (a + 0) 0) * 1) + ((List.getD l (a + 1) 0) * 256)) + ((List.getD l (a + 2) 0) * 65536)) + ((List.getD l (a + 3) 0) * 16777216)) + ((List.getD l (a + 4) 0) * 4294967296)) + ((List.getD l (a + 5) 0) * 1099511627776)), .no] [0, 1, 2, 9, 25, 26] [] (P := ((-9223372036854775808) ≤ (((a : Nat) : Int) + 5) ∧ (((a : Nat) : Int) + 5) ≤ 9223372036854775807) ∧ (((((a : Nat) : Int) + 5) : Int) = (((a + 5) : Nat) : Int)) ∧ ((a + 5) < m) ∧ ((List.drop (a + 5) (dI .u8 l))[0]? = some (D.lit (.int .u8 (List.getD l (a + 5) 0)))) ∧ (0 ≤ (List.getD l (a + 5) 0) ∧ (List.getD l (a + 5) 0) ≤ 18446744073709551615) ∧ ((-9223372036854775808) ≤ (40 : Int) ∧ (40 : Int) ≤ 9223372036854775807) ∧ ((40 : Int) = 40) ∧ ((40 : Nat) ≤ 64) ∧ (0 ≤ ((List.getD l (a + 5) 0) * 1099511627776) ∧ ((List.getD l (a + 5) 0) * 1099511627776) ≤ 18446744073709551615) ∧ (bitsI .or .u64 ((((((List.getD l (a + 0) 0) * 1) + ((List.getD l (a + 1) 0) * 256)) + ((List.getD l (a + 2) 0) * 65536)) + ((List.getD l (a + 3) 0) * 16777216)) + ((List.getD l (a + 4) 0) * 4294967296)) ((List.getD l (a + 5) 0) * 1099511627776) = (((((((List.getD l (a + 0) 0) * 1) + ((List.getD l (a + 1) 0) * 256)) + ((List.getD l (a + 2) 0) * 65536)) + ((List.getD l (a + 3) 0) * 16777216)) + ((List.getD l (a + 4) 0) * 4294967296)) + ((List.getD l (a + 5) 0) * 1099511627776)))) (l' := [(0, sV .u8 l m), (1, iV ↑a), (2, iV 8), (9, .e (.c (.d (D.lit (.int .u64 (((((((List.getD l (a + 0) 0) * 1) + ((List.getD l (a + 1) 0) * 256)) + ((List.getD l (a + 2) 0) * 65536)) + ((List.getD l (a + 3) 0) * 16777216)) + ((List.getD l (a + 4) 0) * 4294967296)) + ((List.getD l (a + 5) 0) * 1099511627776))))))), (25, iV 8), (26, iV 5)]) (g' := []) (nx' := 0) (by kernel_rfl) ⟨⟨by omega, by omega⟩, (by first | rfl | omega), (by omega), (dI_at _ _ _ (by first | omega | (simp only [bsD_len, dI_len, List.length_append, List.length_cons, List.length_nil, List.length_take, List.length_drop, List.length_replicate, List.length_set, List.length_map, List.length_reverse, Nat.mul_one] <;> omega) | rfl)), ⟨by omega, by omega⟩, ⟨by omega, by omega⟩, rfl, (by omega), ⟨by omega, by omega⟩, (or_loU (.inr ⟨rfl, rfl⟩) (i := 40) 1099511627776 (by decide) (by omega) (by omega) (by omega))⟩ ?_
  refine AW.rg [.w, .no] [0, 1, 2, 9, 25, 26] [] (P := ((-9223372036854775808) ≤ (6 : Int) ∧ (6 : Int) ≤ 9223372036854775807)) (l' := [(0, sV .u8 l m), (1, iV ↑a), (2, iV 8), (9, .e (.c (.d (D.lit (.int .u64 (((((((List.getD l (a + 0) 0) * 1) + ((List.getD l (a + 1) 0) * 256)) + ((List.getD l (a + 2) 0) * 65536)) + ((List.getD l (a + 3) 0) * 16777216)) + ((List.getD l (a + 4) 0) * 4294967296)) + ((List.getD l (a + 5) 0) * 1099511627776))))))), (25, iV 8), (26, iV 6)]) (g' := []) (nx' := 0) (by kernel_rfl) ⟨by omega, by omega⟩ ?_
  refine AWr.s ?_
  refine AW.rgs [.b true] [0, 1, 2, 9, 25, 26, 27] [] (P := (((6 : Int) < 8))) (l' := [(0, sV .u8 l m), (1, iV ↑a), (2, iV 8), (9, .e (.c (.d (D.lit (.int .u64 (((((((List.getD l (a + 0) 0) * 1) + ((List.getD l (a + 1) 0) * 256)) + ((List.getD l (a + 2) 0) * 65536)) + ((List.getD l (a + 3) 0) * 16777216)) + ((List.getD l (a + 4) 0) * 4294967296)) + ((List.getD l (a + 5) 0) * 1099511627776))))))), (25, iV 8), (26, iV 6), (27, bV true)]) (g' := []) (nx' := 0) (by kernel_rfl) (by omega) ?_
  refine AW.seq ?_
  refine AW.cond_t (.tmp (Look.of rfl)) ?_
  refine AW.skip ?_
  refine AW.seq ?_
  refine AW.block ?_
  refine AW.rgs [.no, .no] [0, 1, 2, 9, 10, 25, 26] [] (P := True) (l' := [(0, sV .u8 l m), (1, iV ↑a), (2, iV 8), (9, .e (.c (.d (D.lit (.int .u64 (((((((List.getD l (a + 0) 0) * 1) + ((List.getD l (a + 1) 0) * 256)) + ((List.getD l (a + 2) 0) * 65536)) + ((List.getD l (a + 3) 0) * 16777216)) + ((List.getD l (a + 4) 0) * 4294967296)) + ((List.getD l (a + 5) 0) * 1099511627776))))))), (10, iV 6), (25, iV 8), (26, iV 6)]) (g' := []) (nx' := 0) (by kernel_rfl) trivial ?_
  have hx7 : 0 ≤ (List.getD l (a + 6) 0) ∧ (List.getD l (a + 6) 0) ≤ 255 := (show Byt l by with_reducible assumption).at _ (by first | omega | (simp <;> omega))
  refine AW.rg [.no, .no, .no, .no, .w, .n (a + 6), .d (D.lit (.int .u8 (List.getD l (a + 6) 0))), .w, .no, .w, .n 48, .i ((((((((List.getD l (a + 0) 0) * 1) + ((List.getD l (a + 1) 0) * 256)) + ((List.getD l (a + 2) 0) * 65536)) + ((List.getD l (a + 3) 0) * 16777216)) + ((List.getD l (a + 4) 0) * 4294967296)) + ((List.getD l (a + 5) 0) * 1099511627776)) + ((List.getD l (a + 6) 0) * 281474976710656)), .no] [0, 1, 2, 9, 25, 26] [] (P := ((-9223372036854775808) ≤ (((a : Nat) : Int) + 6) ∧ (((a : Nat) : Int) + 6) ≤ 9223372036854775807) ∧ (((((a : Nat) : Int) + 6) : Int) = (((a + 6) : Nat) : Int)) ∧ ((a + 6) < m) ∧ ((List.drop (a + 6) (dI .u8 l))[0]? = some (D.lit (.int .u8 (List.getD l (a + 6) 0)))) ∧ (0 ≤ (List.getD l (a + 6) 0) ∧ (List.getD l (a + 6) 0) ≤ 18446744073709551615) ∧ ((-9223372036854775808) ≤ (48 : Int) ∧ (48 : Int) ≤ 9223372036854775807) ∧ ((48 : Int) = 48) ∧ ((48 : Nat) ≤ 64) ∧ (0 ≤ ((List.getD l (a + 6) 0) * 281474976710656) ∧ ((List.getD l (a + 6) 0) * 281474976710656) ≤ 18446744073709551615) ∧ (bitsI .or .u64 (((((((List.getD l (a + 0) 0) * 1) + ((List.getD l (a + 1) 0) * 256)) + ((List.getD l (a + 2) 0) * 65536)) + ((List.getD l (a + 3) 0) * 16777216)) + ((List.getD l (a + 4) 0) * 4294967296)) + ((List.getD l (a + 5) 0) * 1099511627776)) ((List.getD l (a + 6) 0) * 281474976710656) = ((((((((List.getD l (a + 0) 0) * 1) + ((List.getD l (a + 1) 0) * 256)) + ((List.getD l (a + 2) 0) * 65536)) + ((List.getD l (a + 3) 0) * 16777216)) + ((List.getD l (a + 4) 0) * 4294967296)) + ((List.getD l (a + 5) 0) * 1099511627776)) + ((List.getD l (a + 6) 0) * 281474976710656)))) (l' := [(0, sV .u8 l m), (1, iV ↑a), (2, iV 8), (9, .e (.c (.d (D.lit (.int .u64 ((((((((List.getD l (a + 0) 0) * 1) + ((List.getD l (a + 1) 0) * 256)) + ((List.getD l (a + 2) 0) * 65536)) + ((List.getD l (a + 3) 0) * 16777216)) + ((List.getD l (a + 4) 0) * 4294967296)) + ((List.getD l (a + 5) 0) * 1099511627776)) + ((List.getD l (a + 6) 0) * 281474976710656))))))), (25, iV 8), (26, iV 6)]) (g' := []) (nx' := 0) (by kernel_rfl) ⟨⟨by omega, by omega⟩, (by first | rfl | omega), (by omega), (dI_at _ _ _ (by first | omega | (simp only [bsD_len, dI_len, List.length_append, List.length_cons, List.length_nil, List.length_take, List.length_drop, List.length_replicate, List.length_set, List.length_map, List.length_reverse, Nat.mul_one] <;> omega) | rfl)), ⟨by omega, by omega⟩, ⟨by omega, by omega⟩, rfl, (by omega), ⟨by omega, by omega⟩, (or_loU (.inr ⟨rfl, rfl⟩) (i := 48) 281474976710656 (by decide) (by omega) (by omega) (by omega))⟩ ?_
  refine AW.rg [.w, .no] [0, 1, 2, 9, 25, 26] [] (P := ((-9223372036854775808) ≤ (7 : Int) ∧ (7 : Int) ≤ 9223372036854775807)) (l' := [(0, sV .u8 l m), (1, iV ↑a), (2, iV 8), (9, .e (.c (.d (D.lit (.int .u64 ((((((((List.getD l (a + 0) 0) * 1) + ((List.getD l (a + 1) 0) * 256)) + ((List.getD l (a + 2) 0) * 65536)) + ((List.getD l (a + 3) 0) * 16777216)) + ((List.getD l (a + 4) 0) * 4294967296)) + ((List.getD l (a + 5) 0) * 1099511627776)) + ((List.getD l (a + 6) 0) * 281474976710656))))))), (25, iV 8), (26, iV 7)]) (g' := []) (nx' := 0) (by kernel_rfl) ⟨by omega, by omega⟩ ?_
  refine AWr.s ?_
  refine AW.rgs [.b true] [0, 1, 2, 9, 25, 26, 27] [] (P := (((7 : Int) < 8))) (l' := [(0, sV .u8 l m), (1, iV ↑a), (2, iV 8), (9, .e (.c (.d (D.lit (.int .u64 ((((((((List.getD l (a + 0) 0) * 1) + ((List.getD l (a + 1) 0) * 256)) + ((List.getD l (a + 2) 0) * 65536)) + ((List.getD l (a + 3) 0) * 16777216)) + ((List.getD l (a + 4) 0) * 4294967296)) + ((List.getD l (a + 5) 0) * 1099511627776)) + ((List.getD l (a + 6) 0) * 281474976710656))))))), (25, iV 8), (26, iV 7), (27, bV true)]) (g' := []) (nx' := 0) (by kernel_rfl) (by omega) ?_
  refine AW.seq ?_
  refine AW.cond_t (.tmp (Look.of rfl)) ?_
  refine AW.skip ?_
  refine AW.seq ?_
  refine AW.block ?_
  refine AW.rgs [.no, .no] [0, 1, 2, 9, 10, 25, 26] [] (P := True) (l' := [(0, sV .u8 l m), (1, iV ↑a), (2, iV 8), (9, .e (.c (.d (D.lit (.int .u64 ((((((((List.getD l (a + 0) 0) * 1) + ((List.getD l (a + 1) 0) * 256)) + ((List.getD l (a + 2) 0) * 65536)) + ((List.getD l (a + 3) 0) * 16777216)) + ((List.getD l (a + 4) 0) * 4294967296)) + ((List.getD l (a + 5) 0) * 1099511627776)) + ((List.getD l (a + 6) 0) * 281474976710656))))))), (10, iV 7), (25, iV 8), (26, iV 7)]) (g' := []) (nx' := 0) (by kernel_rfl) trivial ?_
  have hx8 : 0 ≤ (List.getD l (a + 7) 0) ∧ (List.getD l (a + 7) 0) ≤ 255 := (show Byt l by with_reducible assumption).at _ (by first | omega | (simp <;> omega))
  refine AW.rg [.no, .no, .no, .no, .w, .n (a + 7), .d (D.lit (.int .u8 (List.getD l (a + 7) 0))), .w, .no, .w, .n 56, .i (((((((((List.getD l (a + 0) 0) * 1) + ((List.getD l (a + 1) 0) * 256)) + ((List.getD l (a + 2) 0) * 65536)) + ((List.getD l (a + 3) 0) * 16777216)) + ((List.getD l (a + 4) 0) * 4294967296)) + ((List.getD l (a + 5) 0) * 1099511627776)) + ((List.getD l (a + 6) 0) * 281474976710656)) + ((List.getD l (a + 7) 0) * 72057594037927936)), .no] [0, 1, 2, 9, 25, 26] [] (P := ((-9223372036854775808) ≤ (((a : Nat) : Int) + 7) ∧ (((a : Nat) : Int) + 7) ≤ 9223372036854775807) ∧ (((((a : Nat) : Int) + 7) : Int) = (((a + 7) : Nat) : Int)) ∧ ((a + 7) < m) ∧ ((List.drop (a + 7) (dI .u8 l))[0]? = some (D.lit (.int .u8 (List.getD l (a + 7) 0)))) ∧ (0 ≤ (List.getD l (a + 7) 0) ∧ (List.getD l (a + 7) 0) ≤ 18446744073709551615) ∧ ((-9223372036854775808) ≤ (56 : Int) ∧ (56 : Int) ≤ 9223372036854775807) ∧ ((56 : Int) = 56) ∧ ((56 : Nat) ≤ 64) ∧ (0 ≤ ((List.getD l (a + 7) 0) * 72057594037927936) ∧ ((List.getD l (a + 7) 0) * 72057594037927936) ≤ 18446744073709551615) ∧ (bitsI .or .u64 ((((((((List.getD l (a + 0) 0) * 1) + ((List.getD l (a + 1) 0) * 256)) + ((List.getD l (a + 2) 0) * 65536)) + ((List.getD l (a + 3) 0) * 16777216)) + ((List.getD l (a + 4) 0) * 4294967296)) + ((List.getD l (a + 5) 0) * 1099511627776)) + ((List.getD l (a + 6) 0) * 281474976710656)) ((List.getD l (a + 7) 0) * 72057594037927936) = (((((((((List.getD l (a + 0) 0) * 1) + ((List.getD l (a + 1) 0) * 256)) + ((List.getD l (a + 2) 0) * 65536)) + ((List.getD l (a + 3) 0) * 16777216)) + ((List.getD l (a + 4) 0) * 4294967296)) + ((List.getD l (a + 5) 0) * 1099511627776)) + ((List.getD l (a + 6) 0) * 281474976710656)) + ((List.getD l (a + 7) 0) * 72057594037927936)))) (l' := [(0, sV .u8 l m), (1, iV ↑a), (2, iV 8), (9, .e (.c (.d (D.lit (.int .u64 (((((((((List.getD l (a + 0) 0) * 1) + ((List.getD l (a + 1) 0) * 256)) + ((List.getD l (a + 2) 0) * 65536)) + ((List.getD l (a + 3) 0) * 16777216)) + ((List.getD l (a + 4) 0) * 4294967296)) + ((List.getD l (a + 5) 0) * 1099511627776)) + ((List.getD l (a + 6) 0) * 281474976710656)) + ((List.getD l (a + 7) 0) * 72057594037927936))))))), (25, iV 8), (26, iV 7)]) (g' := []) (nx' := 0) (by kernel_rfl) ⟨⟨by omega, by omega⟩, (by first | rfl | omega), (by omega), (dI_at _ _ _ (by first | omega | (simp only [bsD_len, dI_len, List.length_append, List.length_cons, List.length_nil, List.length_take, List.length_drop, List.length_replicate, List.length_set, List.length_map, List.length_reverse, Nat.mul_one] <;> omega) | rfl)), ⟨by omega, by omega⟩, ⟨by omega, by omega⟩, rfl, (by omega), ⟨by omega, by omega⟩, (or_loU (.inr ⟨rfl, rfl⟩) (i := 56) 72057594037927936 (by decide) (by omega) (by omega) (by omega))⟩ ?_
  refine AW.rg [.w, .no] [0, 1, 2, 9, 25, 26] [] (P := ((-9223372036854775808) ≤ (8 : Int) ∧ (8 : Int) ≤ 9223372036854775807)) (l' := [(0, sV .u8 l m), (1, iV ↑a), (2, iV 8), (9, .e (.c (.d (D.lit (.int .u64 (((((((((List.getD l (a + 0) 0) * 1) + ((List.getD l (a + 1) 0) * 256)) + ((List.getD l (a + 2) 0) * 65536)) + ((List.getD l (a + 3) 0) * 16777216)) + ((List.getD l (a + 4) 0) * 4294967296)) + ((List.getD l (a + 5) 0) * 1099511627776)) + ((List.getD l (a + 6) 0) * 281474976710656)) + ((List.getD l (a + 7) 0) * 72057594037927936))))))), (25, iV 8), (26, iV 8)]) (g' := []) (nx' := 0) (by kernel_rfl) ⟨by omega, by omega⟩ ?_
  refine AWr.s ?_
  refine AW.rgs [.b false] [0, 1, 2, 9, 25, 26, 27] [] (P := (¬ ((8 : Int) < 8))) (l' := [(0, sV .u8 l m), (1, iV ↑a), (2, iV 8), (9, .e (.c (.d (D.lit (.int .u64 (((((((((List.getD l (a + 0) 0) * 1) + ((List.getD l (a + 1) 0) * 256)) + ((List.getD l (a + 2) 0) * 65536)) + ((List.getD l (a + 3) 0) * 16777216)) + ((List.getD l (a + 4) 0) * 4294967296)) + ((List.getD l (a + 5) 0) * 1099511627776)) + ((List.getD l (a + 6) 0) * 281474976710656)) + ((List.getD l (a + 7) 0) * 72057594037927936))))))), (25, iV 8), (26, iV 8), (27, bV false)]) (g' := []) (nx' := 0) (by kernel_rfl) (by omega) ?_
  refine AW.seq ?_
  refine AW.cond_f (.tmp (Look.of rfl)) ?_
  refine AW.exit ?_
  refine AW.rgs [.no, .no, .no, .w, .no, .no, .no] [6, 7, 8] [] (P := ((-9223372036854775808) ≤ (((a : Nat) : Int) + 8) ∧ (((a : Nat) : Int) + 8) ≤ 9223372036854775807)) (l' := [(6, .e (.c (.d (D.lit (.int .u64 (((((((((List.getD l (a + 0) 0) * 1) + ((List.getD l (a + 1) 0) * 256)) + ((List.getD l (a + 2) 0) * 65536)) + ((List.getD l (a + 3) 0) * 16777216)) + ((List.getD l (a + 4) 0) * 4294967296)) + ((List.getD l (a + 5) 0) * 1099511627776)) + ((List.getD l (a + 6) 0) * 281474976710656)) + ((List.getD l (a + 7) 0) * 72057594037927936))))))), (7, iV (↑a + 8)), (8, iV 0)]) (g' := []) (nx' := 0) (by kernel_rfl) ⟨by omega, by omega⟩ ?_
  refine AW.ret ?_
  exact EndP.of (.inr rfl) [] (P := (((g64 l a) : Int) = (((((((((List.getD l (a + 0) 0) * 1) + ((List.getD l (a + 1) 0) * 256)) + ((List.getD l (a + 2) 0) * 65536)) + ((List.getD l (a + 3) 0) * 16777216)) + ((List.getD l (a + 4) 0) * 4294967296)) + ((List.getD l (a + 5) 0) * 1099511627776)) + ((List.getD l (a + 6) 0) * 281474976710656)) + ((List.getD l (a + 7) 0) * 72057594037927936))) ∧ (((((a + 8) : Nat) : Int) : Int) = (((a : Nat) : Int) + 8)) ∧ ((0 : Int) = 0)) (by kernel_rfl) ⟨(by first | omega | rfl | (unfold g64; omega)), (by first | omega | rfl | (unfold g64; omega)), rfl⟩

set_option maxHeartbeats 4000000 in
set_option maxRecDepth 100000 in
theorem W_get64_s (l : List Int) (m a : Nat) (hm : List.length l = m) (hb : m ≤ 1000000) (hy : Byt l) (ha2 : a ≤ m) (ha : m < a + 8) : Fun 42 [.c (.d (D.sl (dI .u8 l) m)), iE ((a : Nat) : Int), iE 8] (toG []) 0 (.tup [.c (.d (D.lit (.int .u64 0))), iE 0, iE 4]) (toG []) 0 := by
  refine Fun.mk (n := 46) Try.func42 rfl rfl (Nat.le_of_ble_eq_true rfl) ?_
  intro cx hcx
  refine AW.rgs [.no, .no, .no] [0, 1, 2] [] (P := True) (l' := [(0, sV .u8 l m), (1, iV ↑a), (2, iV 8)]) (g' := []) (nx' := 0) (by kernel_rfl) trivial ?_
  refine AW.seq ?_
  refine AW.rgs [.no, .b false, .no, .no, .no, .no, .b false, .no] [0, 1, 2, 18] [] (P := (¬ (((a : Nat) : Int) < 0)) ∧ (¬ (((m : Nat) : Int) < ((a : Nat) : Int)))) (l' := [(0, sV .u8 l m), (1, iV ↑a), (2, iV 8), (18, bV false)]) (g' := []) (nx' := 0) (by kernel_rfl) ⟨(by omega), (by omega)⟩ ?_
  refine AW.cond_f (.tmp (Look.of rfl)) ?_
  refine AW.skip ?_
  refine AW.seq ?_
  refine AW.rgs [.no, .no, .no, .w, .no, .b true] [0, 1, 2, 24] [] (P := ((-9223372036854775808) ≤ (((m : Nat) : Int) - ((a : Nat) : Int)) ∧ (((m : Nat) : Int) - ((a : Nat) : Int)) ≤ 9223372036854775807) ∧ (((((m : Nat) : Int) - ((a : Nat) : Int)) < 8))) (l' := [(0, sV .u8 l m), (1, iV ↑a), (2, iV 8), (24, bV true)]) (g' := []) (nx' := 0) (by kernel_rfl) ⟨⟨by omega, by omega⟩, (by omega)⟩ ?_
  refine AW.cond_t (.tmp (Look.of rfl)) ?_
  refine AW.rgs [.no, .no, .no] [6, 7, 8] [] (P := True) (l' := [(6, .e (.c (.d (D.lit (.int .u64 0))))), (7, iV 0), (8, iV 4)]) (g' := []) (nx' := 0) (by kernel_rfl) trivial ?_
  refine AW.ret ?_
  exact EndP.of (.inr rfl) [] (P := ((0 : Int) = 0) ∧ ((0 : Int) = 0) ∧ ((4 : Int) = 4)) (by kernel_rfl) ⟨rfl, rfl, rfl⟩

set_option maxHeartbeats 4000000 in
set_option maxRecDepth 100000 in
theorem W_get64_r (l : List Int) (m a : Nat) (hm : List.length l = m) (hb : m ≤ 1000000) (hy : Byt l) (ha : m < a) : Fun 42 [.c (.d (D.sl (dI .u8 l) m)), iE ((a : Nat) : Int), iE 8] (toG []) 0 (.tup [.c (.d (D.lit (.int .u64 0))), iE 0, iE 2]) (toG []) 0 := by
  refine Fun.mk (n := 46) Try.func42 rfl rfl (Nat.le_of_ble_eq_true rfl) ?_
  intro cx hcx
  refine AW.rgs [.no, .no, .no] [0, 1, 2] [] (P := True) (l' := [(0, sV .u8 l m), (1, iV ↑a), (2, iV 8)]) (g' := []) (nx' := 0) (by kernel_rfl) trivial ?_
  refine AW.seq ?_
  refine AW.rgs [.no, .b false, .no, .no, .no, .no, .b true, .no] [0, 1, 2, 18] [] (P := (¬ (((a : Nat) : Int) < 0)) ∧ ((((m : Nat) : Int) < ((a : Nat) : Int)))) (l' := [(0, sV .u8 l m), (1, iV ↑a), (2, iV 8), (18, bV true)]) (g' := []) (nx' := 0) (by kernel_rfl) ⟨(by omega), (by omega)⟩ ?_
  refine AW.cond_t (.tmp (Look.of rfl)) ?_
  refine AW.rgs [.no, .no, .no] [6, 7, 8] [] (P := True) (l' := [(6, .e (.c (.d (D.lit (.int .u64 0))))), (7, iV 0), (8, iV 2)]) (g' := []) (nx' := 0) (by kernel_rfl) trivial ?_
  refine AW.ret ?_
  exact EndP.of (.inr rfl) [] (P := ((0 : Int) = 0) ∧ ((0 : Int) = 0) ∧ ((2 : Int) = 2)) (by kernel_rfl) ⟨rfl, rfl, rfl⟩

set_option maxHeartbeats 4000000 in
set_option maxRecDepth 100000 in
theorem W_rget64 (l : List Int) (m a : Nat) (hm : List.length l = m) (hb : m ≤ 1000000) (hy : Byt l) (ha : a + 8 ≤ m) : Fun 40 [.c (.d (D.sl (dI .u8 l) m)), iE ((a : Nat) : Int), iE 8] (toG []) 0 (.tup [.c (.d (D.lit (.int .u64 (g64 l a)))), iE (((a + 8) : Nat) : Int), iE 0]) (toG []) 0 := by
  refine Fun.mk (n := 45) Try.func40 rfl rfl (Nat.le_of_ble_eq_true rfl) ?_
  intro cx hcx
  refine AW.rgs [.no, .no, .no] [0, 1, 2] [] (P := True) (l' := [(0, sV .u8 l m), (1, iV ↑a), (2, iV 8)]) (g' := []) (nx' := 0) (by kernel_rfl) trivial ?_
  refine AW.seq ?_
  refine AW.rgs [.no, .b false, .no, .no, .no, .no, .b false, .no] [0, 1, 2, 18] [] (P := (¬ (((a : Nat) : Int) < 0)) ∧ (¬ (((m : Nat) : Int) < ((a : Nat) : Int)))) (l' := [(0, sV .u8 l m), (1, iV ↑a), (2, iV 8), (18, bV false)]) (g' := []) (nx' := 0) (by kernel_rfl) ⟨(by omega), (by omega)⟩ ?_
  refine AW.cond_f (.tmp (Look.of rfl)) ?_
  refine AW.skip ?_
  refine AW.seq ?_
  refine AW.rgs [.no, .no, .no, .w, .no, .b false] [0, 1, 2, 24] [] (P := ((-9223372036854775808) ≤ (((m : Nat) : Int) - ((a : Nat) : Int)) ∧ (((m : Nat) : Int) - ((a : Nat) : Int)) ≤ 9223372036854775807) ∧ (¬ ((((m : Nat) : Int) - ((a : Nat) : Int)) < 8))) (l' := [(0, sV .u8 l m), (1, iV ↑a), (2, iV 8), (24, bV false)]) (g' := []) (nx' := 0) (by kernel_rfl) ⟨⟨by omega, by omega⟩, (by omega)⟩ ?_
  refine AW.cond_f (.tmp (Look.of rfl)) ?_
  refine AW.skip ?_
  refine AW.rgs [.no] [0, 1, 2, 9] [] (P := True) (l' := [(0, sV .u8 l m), (1, iV ↑a), (2, iV 8), (9, .e (.c (.d (D.lit (.int .u64 0)))))]) (g' := []) (nx' := 0) (by kernel_rfl) trivial ?_
  refine AW.seq ?_
  refine AW.rgs [.no, .w, .no] [0, 1, 2, 9, 10] [] (P := ((-9223372036854775808) ≤ (7 : Int) ∧ (7 : Int) ≤ 9223372036854775807)) (l' := [(0, sV .u8 l m), (1, iV ↑a), (2, iV 8), (9, .e (.c (.d (D.lit (.int .u64 0))))), (10, iV 7)]) (g' := []) (nx' := 0) (by kernel_rfl) ⟨by omega, by omega⟩ ?_
  refine AW.block ?_
  refine AW.rounds 9 ?_
  refine AWr.s ?_
  refine AW.seq ?_
  refine AW.rgs [.no, .b true] [0, 1, 2, 9, 10, 28] [] (P := (((0 : Int) ≤ 7))) (l' := [(0, sV .u8 l m), (1, iV ↑a), (2, iV 8), (9, .e (.c (.d (D.lit (.int .u64 0))))), (10, iV 7), (28, bV true)]) (g' := []) (nx' := 0) (by kernel_rfl) (by omega) ?_
  refine AW.cond_t (.tmp (Look.of rfl)) ?_
  refine AW.skip ?_
  refine AW.seq ?_
  refine AW.block ?_
  have hx1 : 0 ≤ (List.getD l (a + 7) 0) ∧ (List.getD l (a + 7) 0) ≤ 255 := (show Byt l by with_reducible assumption).at _ (by first | omega | (simp <;> omega))
  refine AW.rg [.no, .n 8, .no, .no, .no, .w, .n (a + 7), .d (D.lit (.int .u8 (List.getD l (a + 7) 0))), .w, .i (List.getD l (a + 7) 0), .no] [0, 1, 2, 9, 10] [] (P := ((8 : Int) = 8) ∧ ((8 : Nat) ≤ 64) ∧ (0 ≤ (0 : Int) ∧ (0 : Int) ≤ 18446744073709551615) ∧ ((-9223372036854775808) ≤ (((a : Nat) : Int) + 7) ∧ (((a : Nat) : Int) + 7) ≤ 9223372036854775807) ∧ (((((a : Nat) : Int) + 7) : Int) = (((a + 7) : Nat) : Int)) ∧ ((a + 7) < m) ∧ ((List.drop (a + 7) (dI .u8 l))[0]? = some (D.lit (.int .u8 (List.getD l (a + 7) 0)))) ∧ (0 ≤ (List.getD l (a + 7) 0) ∧ (List.getD l (a + 7) 0) ≤ 18446744073709551615) ∧ (bitsI .or .u64 0 (List.getD l (a + 7) 0) = (List.getD l (a + 7) 0))) (l' := [(0, sV .u8 l m), (1, iV ↑a), (2, iV 8), (9, .e (.c (.d (D.lit (.int .u64 (List.getD l (a + 7) 0)))))), (10, iV 7)]) (g' := []) (nx' := 0) (by kernel_rfl) ⟨rfl, (by omega), ⟨by omega, by omega⟩, ⟨by omega, by omega⟩, (by first | rfl | omega), (by omega), (dI_at _ _ _ (by first | omega | (simp only [bsD_len, dI_len, List.length_append, List.length_cons, List.length_nil, List.length_take, List.length_drop, List.length_replicate, List.length_set, List.length_map, List.length_reverse, Nat.mul_one] <;> omega) | rfl)), ⟨by omega, by omega⟩, (or_zU (.inr ⟨rfl, rfl⟩) (by omega)).1⟩ ?_
  refine AW.rg [.no, .w, .no] [0, 1, 2, 9, 10] [] (P := ((-9223372036854775808) ≤ (6 : Int) ∧ (6 : Int) ≤ 9223372036854775807)) (l' := [(0, sV .u8 l m), (1, iV ↑a), (2, iV 8), (9, .e (.c (.d (D.lit (.int .u64 (List.getD l (a + 7) 0)))))), (10, iV 6)]) (g' := []) (nx' := 0) (by kernel_rfl) ⟨by omega, by omega⟩ ?_
  refine AWr.s ?_
  refine AW.seq ?_
  refine AW.rgs [.no, .b true] [0, 1, 2, 9, 10, 28] [] (P := (((0 : Int) ≤ 6))) (l' := [(0, sV .u8 l m), (1, iV ↑a), (2, iV 8), (9, .e (.c (.d (D.lit (.int .u64 (List.getD l (a + 7) 0)))))), (10, iV 6), (28, bV true)]) (g' := []) (nx' := 0) (by kernel_rfl) (by omega) ?_
  refine AW.cond_t (.tmp (Look.of rfl)) ?_
  refine AW.skip ?_
  refine AW.seq ?_
  refine AW.block ?_
  have hx2 : 0 ≤ (List.getD l (a + 6) 0) ∧ (List.getD l (a + 6) 0) ≤ 255 := (show Byt l by with_reducible assumption).at _ (by first | omega | (simp <;> omega))
  refine AW.rg [.no, .n 8, .no, .no, .no, .w, .n (a + 6), .d (D.lit (.int .u8 (List.getD l (a + 6) 0))), .w, .i (((List.getD l (a + 7) 0) * 256) + (List.getD l (a + 6) 0)), .no] [0, 1, 2, 9, 10] [] (P := ((8 : Int) = 8) ∧ ((8 : Nat) ≤ 64) ∧ (0 ≤ ((List.getD l (a + 7) 0) * 256) ∧ ((List.getD l (a + 7) 0) * 256) ≤ 18446744073709551615) ∧ ((-9223372036854775808) ≤ (((a : Nat) : Int) + 6) ∧ (((a : Nat) : Int) + 6) ≤ 9223372036854775807) ∧ (((((a : Nat) : Int) + 6) : Int) = (((a + 6) : Nat) : Int)) ∧ ((a + 6) < m) ∧ ((List.drop (a + 6) (dI .u8 l))[0]? = some (D.lit (.int .u8 (List.getD l (a + 6) 0)))) ∧ (0 ≤ (List.getD l (a + 6) 0) ∧ (List.getD l (a + 6) 0) ≤ 18446744073709551615) ∧ (bitsI .or .u64 ((List.getD l (a + 7) 0) * 256) (List.getD l (a + 6) 0) = (((List.getD l (a + 7) 0) * 256) + (List.getD l (a + 6) 0)))) (l' := [(0, sV .u8 l m), (1, iV ↑a), (2, iV 8), (9, .e (.c (.d (D.lit (.int .u64 (((List.getD l (a + 7) 0) * 256) + (List.getD l (a + 6) 0))))))), (10, iV 6)]) (g' := []) (nx' := 0) (by kernel_rfl) ⟨rfl, (by omega), ⟨by omega, by omega⟩, ⟨by omega, by omega⟩, (by first | rfl | omega), (by omega), (dI_at _ _ _ (by first | omega | (simp only [bsD_len, dI_len, List.length_append, List.length_cons, List.length_nil, List.length_take, List.length_drop, List.length_replicate, List.length_set, List.length_map, List.length_reverse, Nat.mul_one] <;> omega) | rfl)), ⟨by omega, by omega⟩, (or_hiU (.inr ⟨rfl, rfl⟩) (i := 8) 256 (by decide) (by omega) (by omega) (by omega))⟩ ?_
  refine AW.rg [.no, .w, .no] [0, 1, 2, 9, 10] [] (P := ((-9223372036854775808) ≤ (5 : Int) ∧ (5 : Int) ≤ 9223372036854775807)) (l' := [(0, sV .u8 l m), (1, iV ↑a), (2, iV 8), (9, .e (.c (.d (D.lit (.int .u64 (((List.getD l (a + 7) 0) * 256) + (List.getD l (a + 6) 0))))))), (10, iV 5)]) (g' := []) (nx' := 0) (by kernel_rfl) ⟨by omega, by omega⟩ ?_
  refine AWr.s ?_
  refine AW.seq ?_
  refine AW.rgs [.no, .b true] [0, 1, 2, 9, 10, 28] [] (P := (((0 : Int) ≤ 5))) (l' := [(0, sV .u8 l m), (1, iV ↑a), (2, iV 8), (9, .e (.c (.d (D.lit (.int .u64 (((List.getD l (a + 7) 0) * 256) + (List.getD l (a + 6) 0))))))), (10, iV 5), (28, bV true)]) (g' := []) (nx' := 0) (by kernel_rfl) (by omega) ?_
  refine AW.cond_t (.tmp (Look.of rfl)) ?_
  refine AW.skip ?_
  refine AW.seq ?_
  refine AW.block ?_
  have hx3 : 0 ≤ (List.getD l (a + 5) 0) ∧ (List.getD l (a + 5) 0) ≤ 255 := (show Byt l by with_reducible assumption).at _ (by first | omega | (simp <;> omega))
  refine AW.rg [.no, .n 8, .no, .no, .no, .w, .n (a + 5), .d (D.lit (.int .u8 (List.getD l (a + 5) 0))), .w, .i (((((List.getD l (a + 7) 0) * 256) + (List.getD l (a + 6) 0)) * 256) + (List.getD l (a + 5) 0)), .no] [0, 1, 2, 9, 10] [] (P := ((8 : Int) = 8) ∧ ((8 : Nat) ≤ 64) ∧ (0 ≤ ((((List.getD l (a + 7) 0) * 256) + (List.getD l (a + 6) 0)) * 256) ∧ ((((List.getD l (a + 7) 0) * 256) + (List.getD l (a + 6) 0)) * 256) ≤ 18446744073709551615) ∧ ((-9223372036854775808) ≤ (((a : Nat) : Int) + 5) ∧ (((a : Nat) : Int) + 5) ≤ 9223372036854775807) ∧ (((((a : Nat) : Int) + 5) : Int) = (((a + 5) : Nat) : Int)) ∧ ((a + 5) < m) ∧ ((List.drop (a + 5) (dI .u8 l))[0]? = some (D.lit (.int .u8 (List.getD l (a + 5) 0)))) ∧ (0 ≤ (List.getD l (a + 5) 0) ∧ (List.getD l (a + 5) 0) ≤ 18446744073709551615) ∧ (bitsI .or .u64 ((((List.getD l (a + 7) 0) * 256) + (List.getD l (a + 6) 0)) * 256) (List.getD l (a + 5) 0) = (((((List.getD l (a + 7) 0) * 256) + (List.getD l (a + 6) 0)) * 256) + (List.getD l (a + 5) 0)))) (l' := [(0, sV .u8 l m), (1, iV ↑a), (2, iV 8), (9, .e (.c (.d (D.lit (.int .u64 (((((List.getD l (a + 7) 0) * 256) + (List.getD l (a + 6) 0)) * 256) + (List.getD l (a + 5) 0))))))), (10, iV 5)]) (g' := []) (nx' := 0) (by kernel_rfl) ⟨rfl, (by omega), ⟨by omega, by omega⟩, ⟨by omega, by omega⟩, (by first | rfl | omega), (by omega), (dI_at _ _ _ (by first | omega | (simp only [bsD_len, dI_len, List.length_append, List.length_cons, List.length_nil, List.length_take, List.length_drop, List.length_replicate, List.length_set, List.length_map, List.length_reverse, Nat.mul_one] <;> omega) | rfl)), ⟨by omega, by omega⟩, (or_hiU (.inr ⟨rfl, rfl⟩) (i := 8) 256 (by decide) (by omega) (by omega) (by omega))⟩ ?_
  refine AW.rg [.no, .w, .no] [0, 1, 2, 9, 10] [] (P := ((-9223372036854775808) ≤ (4 : Int) ∧ (4 : Int) ≤ 9223372036854775807)) (l' := [(0, sV .u8 l m), (1, iV ↑a), (2, iV 8), (9, .e (.c (.d (D.lit (.int .u64 (((((List.getD l (a + 7) 0) * 256) + (List.getD l (a + 6) 0)) * 256) + (List.getD l (a + 5) 0))))))), (10, iV 4)]) (g' := []) (nx' := 0) (by kernel_rfl) ⟨by omega, by omega⟩ ?_
  refine AWr.s ?_
  refine AW.seq ?_
  refine AW.rgs [.no, .b true] [0, 1, 2, 9, 10, 28] [] (P := (((0 : Int) ≤ 4))) (l' := [(0, sV .u8 l m), (1, iV ↑a), (2, iV 8), (9, .e (.c (.d (D.lit (.int .u64 (((((List.getD l (a + 7) 0) * 256) + (List.getD l (a + 6) 0)) * 256) + (List.getD l (a + 5) 0))))))), (10, iV 4), (28, bV true)]) (g' := []) (nx' := 0) (by kernel_rfl) (by omega) ?_
  refine AW.cond_t (.tmp (Look.of rfl)) ?_
  refine AW.skip ?_
  refine AW.seq ?_
  refine AW.block ?_
  have hx4 : 0 ≤ (List.getD l (a + 4) 0) ∧ (List.getD l (a + 4) 0) ≤ 255 := (show Byt l by with_reducible assumption).at _ (by first | omega | (simp <;> omega))
  refine AW.rg [.no, .n 8, .no, .no, .no, .w, .n (a + 4), .d (D.lit (.int .u8 (List.getD l (a + 4) 0))), .w, .i (((((((List.getD l (a + 7) 0) * 256) + (List.getD l (a + 6) 0)) * 256) + (List.getD l (a + 5) 0)) * 256) + (List.getD l (a + 4) 0)), .no] [0, 1, 2, 9, 10] [] (P := ((8 : Int) = 8) ∧ ((8 : Nat) ≤ 64) ∧ (0 ≤ ((((((List.getD l (a + 7) 0) * 256) + (List.getD l (a + 6) 0)) * 256) + (List.getD l (a + 5) 0)) * 256) ∧ ((((((List.getD l (a + 7) 0) * 256) + (List.getD l (a + 6) 0)) * 256) + (List.getD l (a + 5) 0)) * 256) ≤ 18446744073709551615) ∧ ((-9223372036854775808) ≤ (((a : Nat) : Int) + 4) ∧ (((a : Nat) : Int) + 4) ≤ 9223372036854775807) ∧ (((((a : Nat) : Int) + 4) : Int) = (((a + 4) : Nat) : Int)) ∧ ((a + 4) < m) ∧ ((List.drop (a + 4) (dI .u8 l))[0]? = some (D.lit (.int .u8 (List.getD l (a + 4) 0)))) ∧ (0 ≤ (List.getD l (a + 4) 0) ∧ (List.getD l (a + 4) 0) ≤ 18446744073709551615) ∧ (bitsI .or .u64 ((((((List.getD l (a + 7) 0) * 256) + (List.getD l (a + 6) 0)) * 256) + (List.getD l (a + 5) 0)) * 256) (List.getD l (a + 4) 0) = (((((((List.getD l (a + 7) 0) * 256) + (List.getD l (a + 6) 0)) * 256) + (List.getD l (a + 5) 0)) * 256) + (List.getD l (a + 4) 0)))) (l' := [(0, sV .u8 l m), (1, iV ↑a), (2, iV 8), (9, .e (.c (.d (D.lit (.int .u64 (((((((List.getD l (a + 7) 0) * 256) + (List.getD l (a + 6) 0)) * 256) + (List.getD l (a + 5) 0)) * 256) + (List.getD l (a + 4) 0))))))), (10, iV 4)]) (g' := []) (nx' := 0) (by kernel_rfl) ⟨rfl, (by omega), ⟨by omega, by omega⟩, ⟨by omega, by omega⟩, (by first | rfl | omega), (by omega), (dI_at _ _ _ (by first | omega | (simp only [bsD_len, dI_len, List.length_append, List.length_cons, List.length_nil, List.length_take, List.length_drop, List.length_replicate, List.length_set, List.length_map, List.length_reverse, Nat.mul_one] <;> omega) | rfl)), ⟨by omega, by omega⟩, (or_hiU (.inr ⟨rfl, rfl⟩) (i := 8) 256 (by decide) (by omega) (by omega) (by omega))⟩ ?_
  refine AW.rg [.no, .w, .no] [0, 1, 2, 9, 10] [] (P := ((-9223372036854775808) ≤ (3 : Int) ∧ (3 : Int) ≤ 9223372036854775807)) (l' := [(0, sV .u8 l m), (1, iV ↑a), (2, iV 8), (9, .e (.c (.d (D.lit (.int .u64 (((((((List.getD l (a + 7) 0) * 256) + (List.getD l (a + 6) 0)) * 256) + (List.getD l (a + 5) 0)) * 256) + (List.getD l (a + 4) 0))))))), (10, iV 3)]) (g' := []) (nx' := 0) (by kernel_rfl) ⟨by omega, by omega⟩ ?_
  refine AWr.s ?_
  refine AW.seq ?_
  refine AW.rgs [.no, .b true] [0, 1, 2, 9, 10, 28] [] (P := (((0 : Int) ≤ 3))) (l' := [(0, sV .u8 l m), (1, iV ↑a), (2, iV 8), (9, .e (.c (.d (D.lit (.int .u64 (((((((List.getD l (a + 7) 0) * 256) + (List.getD l (a + 6) 0)) * 256) + (List.getD l (a + 5) 0)) * 256) + (List.getD l (a + 4) 0))))))), (10, iV 3), (28, bV true)]) (g' := []) (nx' := 0) (by kernel_rfl) (by omega) ?_
  refine AW.cond_t (.tmp (Look.of rfl)) ?_
  refine AW.skip ?_
  refine AW.seq ?_
  refine AW.block ?_
  have hx5 : 0 ≤ (List.getD l (a + 3) 0) ∧ (List.getD l (a + 3) 0) ≤ 255 := (show Byt l by with_reducible assumption).at _ (by first | omega | (simp <;> omega))
  refine AW.rg [.no, .n 8, .no, .no, .no, .w, .n (a + 3), .d (D.lit (.int .u8 (List.getD l (a + 3) 0))), .w, .i (((((((((List.getD l (a + 7) 0) * 256) + (List.getD l (a + 6) 0)) * 256) + (List.getD l (a + 5) 0)) * 256) + (List.getD l (a + 4) 0)) * 256) + (List.getD l (a + 3) 0)), .no] [0, 1, 2, 9, 10] [] (P := ((8 : Int) = 8) ∧ ((8 : Nat) ≤ 64) ∧ (0 ≤ ((((((((List.getD l (a + 7) 0) * 256) + (List.getD l (a + 6) 0)) * 256) + (List.getD l (a + 5) 0)) * 256) + (List.getD l (a + 4) 0)) * 256) ∧ ((((((((List.getD l (a + 7) 0) * 256) + (List.getD l (a + 6) 0)) * 256) + (List.getD l (a + 5) 0)) * 256) + (List.getD l (a + 4) 0)) * 256) ≤ 18446744073709551615) ∧ ((-9223372036854775808) ≤ (((a : Nat) : Int) + 3) ∧ (((a : Nat) : Int) + 3) ≤ 9223372036854775807) ∧ (((((a : Nat) : Int) + 3) : Int) = (((a + 3) : Nat) : Int)) ∧ ((a + 3) < m) ∧ ((List.drop (a + 3) (dI .u8 l))[0]? = some (D.lit (.int .u8 (List.getD l (a + 3) 0)))) ∧ (0 ≤ (List.getD l (a + 3) 0) ∧ (List.getD l (a + 3) 0) ≤ 18446744073709551615) ∧ (bitsI .or .u64 ((((((((List.getD l (a + 7) 0) * 256) + (List.getD l (a + 6) 0)) * 256) + (List.getD l (a + 5) 0)) * 256) + (List.getD l (a + 4) 0)) * 256) (List.getD l (a + 3) 0) = (((((((((List.getD l (a + 7) 0) * 256) + (List.getD l (a + 6) 0)) * 256) + (List.getD l (a + 5) 0)) * 256) + (List.getD l (a + 4) 0)) * 256) + (List.getD l (a + 3) 0)))) (l' := [(0, sV .u8 l m), (1, iV ↑a), (2, iV 8), (9, .e (.c (.d (D.lit (.int .u64 (((((((((List.getD l (a + 7) 0) * 256) + (List.getD l (a + 6) 0)) * 256) + (List.getD l (a + 5) 0)) * 256) + (List.getD l (a + 4) 0)) * 256) + (List.getD l (a + 3) 0))))))), (10, iV 3)]) (g' := []) (nx' := 0) (by kernel_rfl) ⟨rfl, (by omega), ⟨by omega, by omega⟩, ⟨by omega, by omega⟩, (by first | rfl | omega), (by omega), (dI_at _ _ _ (by first | omega | (simp only [bsD_len, dI_len, List.length_append, List.length_cons, List.length_nil, List.length_take, List.length_drop, List.length_replicate, List.length_set, List.length_map, List.length_reverse, Nat.mul_one] <;> omega) | rfl)), ⟨by omega, by omega⟩, (or_hiU (.inr ⟨rfl, rfl⟩) (i := 8) 256 (by decide) (by omega) (by omega) (by omega))⟩ ?_
  refine AW.rg [.no, .w, .no] [0, 1, 2, 9, 10] [] (P := ((-9223372036854775808) ≤ (2 : Int) ∧ (2 : Int) ≤ 9223372036854775807)) (l' := [(0, sV .u8 l m), (1, iV ↑a), (2, iV 8), (9, .e (.c (.d (D.lit (.int .u64 (((((((((List.getD l (a + 7) 0) * 256) + (List.getD l (a + 6) 0)) * 256) + (List.getD l (a + 5) 0)) * 256) + (List.getD l (a + 4) 0)) * 256) + (List.getD l (a + 3) 0))))))), (10, iV 2)]) (g' := []) (nx' := 0) (by kernel_rfl) ⟨by omega, by omega⟩ ?_
  refine AWr.s ?_
  refine AW.seq ?_
  refine AW.rgs [.no, .b true] [0, 1, 2, 9, 10, 28] [] (P := (((0 : Int) ≤ 2))) (l' := [(0, sV .u8 l m), (1, iV ↑a), (2, iV 8), (9, .e (.c (.d (D.lit (.int .u64 (((((((((List.getD l (a + 7) 0) * 256) + (List.getD l (a + 6) 0)) * 256) + (List.getD l (a + 5) 0)) * 256) + (List.getD l (a + 4) 0)) * 256) + (List.getD l (a + 3) 0))))))), (10, iV 2), (28, bV true)]) (g' := []) (nx' := 0) (by kernel_rfl) (by omega) ?_
  refine AW.cond_t (.tmp (Look.of rfl)) ?_
  refine AW.skip ?_
  refine AW.seq ?_
  refine AW.block ?_
  have hx6 : 0 ≤ (List.getD l (a + 2) 0) ∧ (List.getD l (a + 2) 0) ≤ 255 := (show Byt l by with_reducible assumption).at _ (by first | omega | (simp <;> omega))
  refine AW.rg [.no, .n 8, .no, .no, .no, .w, .n (a + 2), .d (D.lit (.int .u8 (List.getD l (a + 2) 0))), .w, .i (((((((((((List.getD l (a + 7) 0) * 256) + (List.getD l (a + 6) 0)) * 256) + (List.getD l (a + 5) 0)) * 256) + (List.getD l (a + 4) 0)) * 256) + (List.getD l (a + 3) 0)) * 256) + (List.getD l (a + 2) 0)), .no] [0, 1, 2, 9, 10] [] (P := ((8 : Int) = 8) ∧ ((8 : Nat) ≤ 64) ∧ (0 ≤ ((((((((((List.getD l (a + 7) 0) * 256) + (List.getD l (a + 6) 0)) * 256) + (List.getD l (a + 5) 0)) * 256) + (List.getD l (a + 4) 0)) * 256) + (List.getD l (a + 3) 0)) * 256) ∧ ((((((((((List.getD l (a + 7) 0) * 256) + (List.getD l (a + 6) 0)) * 256) + (List.getD l (a + 5) 0)) * 256) + (List.getD l (a + 4) 0)) * 256) + (List.getD l (a + 3) 0)) * 256) ≤ 18446744073709551615) ∧ ((-9223372036854775808) ≤ (((a : Nat) : Int) + 2) ∧ (((a : Nat) : Int) + 2) ≤ 9223372036854775807) ∧ (((((a : Nat) : Int) + 2) : Int) = (((a + 2) : Nat) : Int)) ∧ ((a + 2) < m) ∧ ((List.drop (a + 2) (dI .u8 l))[0]? = some (D.lit (.int .u8 (List.getD l (a + 2) 0)))) ∧ (0 ≤ (List.getD l (a + 2) 0) ∧ (List.getD l (a + 2) 0) ≤ 18446744073709551615) ∧ (bitsI .or .u64 ((((((((((List.getD l (a + 7) 0) * 256) + (List.getD l (a + 6) 0)) * 256) + (List.getD l (a + 5) 0)) * 256) + (List.getD l (a + 4) 0)) * 256) + (List.getD l (a + 3) 0)) * 256) (List.getD l (a + 2) 0) = (((((((((((List.getD l (a + 7) 0) * 256) + (List.getD l (a + 6) 0)) * 256) + (List.getD l (a + 5) 0)) * 256) + (List.getD l (a + 4) 0)) * 256) + (List.getD l (a + 3) 0)) * 256) + (List.getD l (a + 2) 0)))) (l' := [(0, sV .u8 l m), (1, iV ↑a), (2, iV 8), (9, .e (.c (.d (D.lit (.int .u64 (((((((((((List.getD l (a + 7) 0) * 256) + (List.getD l (a + 6) 0)) * 256) + (List.getD l (a + 5) 0)) * 256) + (List.getD l (a + 4) 0)) * 256) + (List.getD l (a + 3) 0)) * 256) + (List.getD l (a + 2) 0))))))), (10, iV 2)]) (g' := []) (nx' := 0) (by kernel_rfl) ⟨rfl, (by omega), ⟨by omega, by omega⟩, ⟨by omega, by omega⟩, (by first | rfl | omega), (by omega), (dI_at _ _ _ (by first | omega | (simp only [bsD_len, dI_len, List.length_append, List.length_cons, List.length_nil, List.length_take, List.length_drop, List.length_replicate, List.length_set, List.length_map, List.length_reverse, Nat.mul_one] <;> omega) | rfl)), ⟨by omega, by omega⟩, (or_hiU (.inr ⟨rfl, rfl⟩) (i := 8) 256 (by decide) (by omega) (by omega) (by omega))⟩ ?_
  refine AW.rg [.no, .w, .no] [0, 1, 2, 9, 10] [] (P := ((-9223372036854775808) ≤ (1 : Int) ∧ (1 : Int) ≤ 9223372036854775807)) (l' := [(0, sV .u8 l m), (1, iV ↑a), (2, iV 8), (9, .e (.c (.d (D.lit (.int .u64 (((((((((((List.getD l (a + 7) 0) * 256) + (List.getD l (a + 6) 0)) * 256) + (List.getD l (a + 5) 0)) * 256) + (List.getD l (a + 4) 0)) * 256) + (List.getD l (a + 3) 0)) * 256) + (List.getD l (a + 2) 0))))))), (10, iV 1)]) (g' := []) (nx' := 0) (by kernel_rfl) ⟨by omega, by omega⟩ ?_
  refine AWr.s ?_
  refine AW.seq ?_
  refine AW.rgs [.no, .b true] [0, 1, 2, 9, 10, 28] [] (P := (((0 : Int) ≤ 1))) (l' := [(0, sV .u8 l m), (1, iV ↑a), (2, iV 8), (9, .e (.c (.d (D.lit (.int .u64 (((((((((((List.getD l (a + 7) 0) * 256) + (List.getD l (a + 6) 0)) * 256) + (List.getD l (a + 5) 0)) * 256) + (List.getD l (a + 4) 0)) * 256) + (List.getD l (a + 3) 0)) * 256) + (List.getD l (a + 2) 0))))))), (10, iV 1), (28, bV true)]) (g' := []) (nx' := 0) (by kernel_rfl) (by omega) ?_
  refine AW.cond_t (.tmp (Look.of rfl)) ?_
  refine AW.skip ?_
  refine AW.seq ?_
  refine AW.block ?_
  have hx7 : 0 ≤ (List.getD l (a + 1) 0) ∧ (List.getD l (a + 1) 0) ≤ 255 := (show Byt l by with_reducible assumption).at _ (by first | omega | (simp <;> omega))
  refine AW.rg [.no, .n 8, .no, .no, .no, .w, .n (a + 1), .d (D.lit (.int .u8 (List.getD l (a + 1) 0))), .w, .i (((((((((((((List.getD l (a + 7) 0) * 256) + (List.getD l (a + 6) 0)) * 256) + (List.getD l (a + 5) 0)) * 256) + (List.getD l (a + 4) 0)) * 256) + (List.getD l (a + 3) 0)) * 256) + (List.getD l (a + 2) 0)) * 256) + (List.getD l (a + 1) 0)), .no] [0, 1, 2, 9, 10] [] (P := ((8 : Int) = 8) ∧ ((8 : Nat) ≤ 64) ∧ (0 ≤ ((((((((((((List.getD l (a + 7) 0) * 256) + (List.getD l (a + 6) 0)) * 256) + (List.getD l (a + 5) 0)) * 256) + (List.getD l (a + 4) 0)) * 256) + (List.getD l (a + 3) 0)) * 256) + (List.getD l (a + 2) 0)) * 256) ∧ ((((((((((((List.getD l (a + 7) 0) * 256) + (List.getD l (a + 6) 0)) * 256) + (List.getD l (a + 5) 0)) * 256) + (List.getD l (a + 4) 0)) * 256) + (List.getD l (a + 3) 0)) * 256) + (List.getD l (a + 2) 0)) * 256) ≤ 18446744073709551615) ∧ ((-9223372036854775808) ≤ (((a : Nat) : Int) + 1) ∧ (((a : Nat) : Int) + 1) ≤ 9223372036854775807) ∧ (((((a : Nat) : Int) + 1) : Int) = (((a + 1) : Nat) : Int)) ∧ ((a + 1) < m) ∧ ((List.drop (a + 1) (dI .u8 l))[0]? = some (D.lit (.int .u8 (List.getD l (a + 1) 0)))) ∧ (0 ≤ (List.getD l (a + 1) 0) ∧ (List.getD l (a + 1) 0) ≤ 18446744073709551615) ∧ (bitsI .or .u64 ((((((((((((List.getD l (a + 7) 0) * 256) + (List.getD l (a + 6) 0)) * 256) + (List.getD l (a + 5) 0)) * 256) + (List.getD l (a + 4) 0)) * 256) + (List.getD l (a + 3) 0)) * 256) + (List.getD l (a + 2) 0)) * 256) (List.getD l (a + 1) 0) = (((((((((((((List.getD l (a + 7) 0) * 256) + (List.getD l (a + 6) 0)) * 256) + (List.getD l (a + 5) 0)) * 256) + (List.getD l (a + 4) 0)) * 256) + (List.getD l (a + 3) 0)) * 256) + (List.getD l (a + 2) 0)) * 256) + (List.getD l (a + 1) 0)))) (l' := [(0, sV .u8 l m), (1, iV ↑a), (2, iV 8), (9, .e (.c (.d (D.lit (.int .u64 (((((((((((((List.getD l (a + 7) 0) * 256) + (List.getD l (a + 6) 0)) * 256) + (List.getD l (a + 5) 0)) * 256) + (List.getD l (a + 4) 0)) * 256) + (List.getD l (a + 3) 0)) * 256) + (List.getD l (a + 2) 0)) * 256) + (List.getD l (a + 1) 0))))))), (10, iV 1)]) (g' := []) (nx' := 0) (by kernel_rfl) ⟨rfl, (by omega), ⟨by omega, by omega⟩, ⟨by omega, by omega⟩, (by first | rfl | omega), (by omega), (dI_at _ _ _ (by first | omega | (simp only [bsD_len, dI_len, List.length_append, List.length_cons, List.length_nil, List.length_take, List.length_drop, List.length_replicate, List.length_set, List.length_map, List.length_reverse, Nat.mul_one] <;> omega) | rfl)), ⟨by omega, by omega⟩, (or_hiU (.inr ⟨rfl, rfl⟩) (i := 8) 256 (by decide) (by omega) (by omega) (by omega))⟩ ?_
  refine AW.rg [.no, .w, .no] [0, 1, 2, 9, 10] [] (P := ((-9223372036854775808) ≤ (0 : Int) ∧ (0 : Int) ≤ 9223372036854775807)) (l' := [(0, sV .u8 l m), (1, iV ↑a), (2, iV 8), (9, .e (.c (.d (D.lit (.int .u64 (((((((((((((List.getD l (a + 7) 0) * 256) + (List.getD l (a + 6) 0)) * 256) + (List.getD l (a + 5) 0)) * 256) + (List.getD l (a + 4) 0)) * 256) + (List.getD l (a + 3) 0)) * 256) + (List.getD l (a + 2) 0)) * 256) + (List.getD l (a + 1) 0))))))), (10, iV 0)]) (g' := []) (nx' := 0) (by kernel_rfl) ⟨by omega, by omega⟩ ?_
  refine AWr.s ?_
  refine AW.seq ?_
  refine AW.rgs [.no, .b true] [0, 1, 2, 9, 10, 28] [] (P := (((0 : Int) ≤ 0))) (l' := [(0, sV .u8 l m), (1, iV ↑a), (2, iV 8), (9, .e (.c (.d (D.lit (.int .u64 (((((((((((((List.getD l (a + 7) 0) * 256) + (List.getD l (a + 6) 0)) * 256) + (List.getD l (a + 5) 0)) * 256) + (List.getD l (a + 4) 0)) * 256) + (List.getD l (a + 3) 0)) * 256) + (List.getD l (a + 2) 0)) * 256) + (List.getD l (a + 1) 0))))))), (10, iV 0), (28, bV true)]) (g' := []) (nx' := 0) (by kernel_rfl) (by omega) ?_
  refine AW.cond_t (.tmp (Look.of rfl)) ?_
  refine AW.skip ?_
  refine AW.seq ?_
  refine AW.block ?_
  have hx8 : 0 ≤ (List.getD l (a + 0) 0) ∧ (List.getD l (a + 0) 0) ≤ 255 := (show Byt l by with_reducible assumption).at _ (by first | omega | (simp <;> omega))
  refine AW.rg [.no, .n 8, .no, .no, .no, .w, .n (a + 0), .d (D.lit (.int .u8 (List.getD l (a + 0) 0))), .w, .i (((((((((((((((List.getD l (a + 7) 0) * 256) + (List.getD l (a + 6) 0)) * 256) + (List.getD l (a + 5) 0)) * 256) + (List.getD l (a + 4) 0)) * 256) + (List.getD l (a + 3) 0)) * 256) + (List.getD l (a + 2) 0)) * 256) + (List.getD l (a + 1) 0)) * 256) + (List.getD l (a + 0) 0)), .no] [0, 1, 2, 9, 10] [] (P := ((8 : Int) = 8) ∧ ((8 : Nat) ≤ 64) ∧ (0 ≤ ((((((((((((((List.getD l (a + 7) 0) * 256) + (List.getD l (a + 6) 0)) * 256) + (List.getD l (a + 5) 0)) * 256) + (List.getD l (a + 4) 0)) * 256) + (List.getD l (a + 3) 0)) * 256) + (List.getD l (a + 2) 0)) * 256) + (List.getD l (a + 1) 0)) * 256) ∧ ((((((((((((((List.getD l (a + 7) 0) * 256) + (List.getD l (a + 6) 0)) * 256) + (List.getD l (a + 5) 0)) * 256) + (List.getD l (a + 4) 0)) * 256) + (List.getD l (a + 3) 0)) * 256) + (List.getD l (a + 2) 0)) * 256) + (List.getD l (a + 1) 0)) * 256) ≤ 18446744073709551615) ∧ ((-9223372036854775808) ≤ (((a : Nat) : Int) + 0) ∧ (((a : Nat) : Int) + 0) ≤ 9223372036854775807) ∧ (((((a : Nat) : Int) + 0) : Int) = (((a + 0) : Nat) : Int)) ∧ ((a + 0) < m) ∧ ((List.drop (a + 0) (dI .u8 l))[0]? = some (D.lit (.int .u8 (List.getD l (a + 0) 0)))) ∧ (0 ≤ (List.getD l (a + 0) 0) ∧ (List.getD l (a + 0) 0) ≤ 18446744073709551615) ∧ (bitsI .or .u64 ((((((((((((((List.getD l (a + 7) 0) * 256) + (List.getD l (a + 6) 0)) * 256) + (List.getD l (a + 5) 0)) * 256) + (List.getD l (a + 4) 0)) * 256) + (List.getD l (a + 3) 0)) * 256) + (List.getD l (a + 2) 0)) * 256) + (List.getD l (a + 1) 0)) * 256) (List.getD l (a + 0) 0) = (((((((((((((((List.getD l (a + 7) 0) * 256) + (List.getD l (a + 6) 0)) * 256) + (List.getD l (a + 5) 0)) * 256) + (List.getD l (a + 4) 0)) * 256) + (List.getD l (a + 3) 0)) * 256) + (List.getD l (a + 2) 0)) * 256) + (List.getD l (a + 1) 0)) * 256) + (List.getD l (a + 0) 0)))) (l' := [(0, sV .u8 l m), (1, iV ↑a), (2, iV 8), (9, .e (.c (.d (D.lit (.int .u64 (((((((((((((((List.getD l (a + 7) 0) * 256) + (List.getD l (a + 6) 0)) * 256) + (List.getD l (a + 5) 0)) * 256) + (List.getD l (a + 4) 0)) * 256) + (List.getD l (a + 3) 0)) * 256) + (List.getD l (a + 2) 0)) * 256) + (List.getD l (a + 1) 0)) * 256) + (List.getD l (a + 0) 0))))))), (10, iV 0)]) (g' := []) (nx' := 0) (by kernel_rfl) ⟨rfl, (by omega), ⟨by omega, by omega⟩, ⟨by omega, by omega⟩, (by first | rfl | omega), (by omega), (dI_at _ _ _ (by first | omega | (simp only [bsD_len, dI_len, List.length_append, List.length_cons, List.length_nil, List.length_take, List.length_drop, List.length_replicate, List.length_set, List.length_map, List.length_reverse, Nat.mul_one] <;> omega) | rfl)), ⟨by omega, by omega⟩, (or_hiU (.inr ⟨rfl, rfl⟩) (i := 8) 256 (by decide) (by omega) (by omega) (by omega))⟩ ?_
  refine AW.rg [.no, .w, .no] [0, 1, 2, 9, 10] [] (P := ((-9223372036854775808) ≤ ((-1) : Int) ∧ ((-1) : Int) ≤ 9223372036854775807)) (l' := [(0, sV .u8 l m), (1, iV ↑a), (2, iV 8), (9, .e (.c (.d (D.lit (.int .u64 (((((((((((((((List.getD l (a + 7) 0) * 256) + (List.getD l (a + 6) 0)) * 256) + (List.getD l (a + 5) 0)) * 256) + (List.getD l (a + 4) 0)) * 256) + (List.getD l (a + 3) 0)) * 256) + (List.getD l (a + 2) 0)) * 256) + (List.getD l (a + 1) 0)) * 256) + (List.getD l (a + 0) 0))))))), (10, iV (-1))]) (g' := []) (nx' := 0) (by kernel_rfl) ⟨by omega, by omega⟩ ?_
  refine AWr.s ?_
  refine AW.seq ?_
  refine AW.rgs [.no, .b false] [0, 1, 2, 9, 10, 28] [] (P := (¬ ((0 : Int) ≤ (-1)))) (l' := [(0, sV .u8 l m), (1, iV ↑a), (2, iV 8), (9, .e (.c (.d (D.lit (.int .u64 (((((((((((((((List.getD l (a + 7) 0) * 256) + (List.getD l (a + 6) 0)) * 256) + (List.getD l (a + 5) 0)) * 256) + (List.getD l (a + 4) 0)) * 256) + (List.getD l (a + 3) 0)) * 256) + (List.getD l (a + 2) 0)) * 256) + (List.getD l (a + 1) 0)) * 256) + (List.getD l (a + 0) 0))))))), (10, iV (-1)), (28, bV false)]) (g' := []) (nx' := 0) (by kernel_rfl) (by omega) ?_
  refine AW.cond_f (.tmp (Look.of rfl)) ?_
  refine AW.exit ?_
  refine AW.rgs [.no, .no, .no, .w, .no, .no, .no] [6, 7, 8] [] (P := ((-9223372036854775808) ≤ (((a : Nat) : Int) + 8) ∧ (((a : Nat) : Int) + 8) ≤ 9223372036854775807)) (l' := [(6, .e (.c (.d (D.lit (.int .u64 (((((((((((((((List.getD l (a + 7) 0) * 256) + (List.getD l (a + 6) 0)) * 256) + (List.getD l (a + 5) 0)) * 256) + (List.getD l (a + 4) 0)) * 256) + (List.getD l (a + 3) 0)) * 256) + (List.getD l (a + 2) 0)) * 256) + (List.getD l (a + 1) 0)) * 256) + (List.getD l (a + 0) 0))))))), (7, iV (↑a + 8)), (8, iV 0)]) (g' := []) (nx' := 0) (by kernel_rfl) ⟨by omega, by omega⟩ ?_
  refine AW.ret ?_
  exact EndP.of (.inr rfl) [] (P := (((g64 l a) : Int) = (((((((((((((((List.getD l (a + 7) 0) * 256) + (List.getD l (a + 6) 0)) * 256) + (List.getD l (a + 5) 0)) * 256) + (List.getD l (a + 4) 0)) * 256) + (List.getD l (a + 3) 0)) * 256) + (List.getD l (a + 2) 0)) * 256) + (List.getD l (a + 1) 0)) * 256) + (List.getD l (a + 0) 0))) ∧ (((((a + 8) : Nat) : Int) : Int) = (((a : Nat) : Int) + 8)) ∧ ((0 : Int) = 0)) (by kernel_rfl) ⟨(by first | omega | rfl | (unfold g64; omega)), (by first | omega | rfl | (unfold g64; omega)), rfl⟩

set_option maxHeartbeats 4000000 in
set_option maxRecDepth 100000 in
theorem W_rget64_s (l : List Int) (m a : Nat) (hm : List.length l = m) (hb : m ≤ 1000000) (hy : Byt l) (ha2 : a ≤ m) (ha : m < a + 8) : Fun 40 [.c (.d (D.sl (dI .u8 l) m)), iE ((a : Nat) : Int), iE 8] (toG []) 0 (.tup [.c (.d (D.lit (.int .u64 0))), iE 0, iE 4]) (toG []) 0 := by
  refine Fun.mk (n := 45) Try.func40 rfl rfl (Nat.le_of_ble_eq_true rfl) ?_
  intro cx hcx
  refine AW.rgs [.no, .no, .no] [0, 1, 2] [] (P := True) (l' := [(0, sV .u8 l m), (1, iV ↑a), (2, iV 8)]) (g' := []) (nx' := 0) (by kernel_rfl) trivial ?_
  refine AW.seq ?_
  refine AW.rgs [.no, .b false, .no, .no, .no, .no, .b false, .no] [0, 1, 2, 18] [] (P := (¬ (((a : Nat) : Int) < 0)) ∧ (¬ (((m : Nat) : Int) < ((a : Nat) : Int)))) (l' := [(0, sV .u8 l m), (1, iV ↑a), (2, iV 8), (18, bV false)]) (g' := []) (nx' := 0) (by kernel_rfl) ⟨(by omega), (by omega)⟩ ?_
  refine AW.cond_f (.tmp (Look.of rfl)) ?_
  refine AW.skip ?_
  refine AW.seq ?_
  refine AW.rgs [.no, .no, .no, .w, .no, .b true] [0, 1, 2, 24] [] (P := ((-9223372036854775808) ≤ (((m : Nat) : Int) - ((a : Nat) : Int)) ∧ (((m : Nat) : Int) - ((a : Nat) : Int)) ≤ 9223372036854775807) ∧ (((((m : Nat) : Int) - ((a : Nat) : Int)) < 8))) (l' := [(0, sV .u8 l m), (1, iV ↑a), (2, iV 8), (24, bV true)]) (g' := []) (nx' := 0) (by kernel_rfl) ⟨⟨by omega, by omega⟩, (by omega)⟩ ?_
  refine AW.cond_t (.tmp (Look.of rfl)) ?_
  refine AW.rgs [.no, .no, .no] [6, 7, 8] [] (P := True) (l' := [(6, .e (.c (.d (D.lit (.int .u64 0))))), (7, iV 0), (8, iV 4)]) (g' := []) (nx' := 0) (by kernel_rfl) trivial ?_
  refine AW.ret ?_
  exact EndP.of (.inr rfl) [] (P := ((0 : Int) = 0) ∧ ((0 : Int) = 0) ∧ ((4 : Int) = 4)) (by kernel_rfl) ⟨rfl, rfl, rfl⟩

set_option maxHeartbeats 4000000 in
set_option maxRecDepth 100000 in
theorem W_rget64_r (l : List Int) (m a : Nat) (hm : List.length l = m) (hb : m ≤ 1000000) (hy : Byt l) (ha : m < a) : Fun 40 [.c (.d (D.sl (dI .u8 l) m)), iE ((a : Nat) : Int), iE 8] (toG []) 0 (.tup [.c (.d (D.lit (.int .u64 0))), iE 0, iE 2]) (toG []) 0 := by
  refine Fun.mk (n := 45) Try.func40 rfl rfl (Nat.le_of_ble_eq_true rfl) ?_
  intro cx hcx
  refine AW.rgs [.no, .no, .no] [0, 1, 2] [] (P := True) (l' := [(0, sV .u8 l m), (1, iV ↑a), (2, iV 8)]) (g' := []) (nx' := 0) (by kernel_rfl) trivial ?_
  refine AW.seq ?_
  refine AW.rgs [.no, .b false, .no, .no, .no, .no, .b true, .no] [0, 1, 2, 18] [] (P := (¬ (((a : Nat) : Int) < 0)) ∧ ((((m : Nat) : Int) < ((a : Nat) : Int)))) (l' := [(0, sV .u8 l m), (1, iV ↑a), (2, iV 8), (18, bV true)]) (g' := []) (nx' := 0) (by kernel_rfl) ⟨(by omega), (by omega)⟩ ?_
  refine AW.cond_t (.tmp (Look.of rfl)) ?_
  refine AW.rgs [.no, .no, .no] [6, 7, 8] [] (P := True) (l' := [(6, .e (.c (.d (D.lit (.int .u64 0))))), (7, iV 0), (8, iV 2)]) (g' := []) (nx' := 0) (by kernel_rfl) trivial ?_
  refine AW.ret ?_
  exact EndP.of (.inr rfl) [] (P := ((0 : Int) = 0) ∧ ((0 : Int) = 0) ∧ ((2 : Int) = 2)) (by kernel_rfl) ⟨rfl, rfl, rfl⟩

set_option maxHeartbeats 4000000 in
set_option maxRecDepth 100000 in
theorem W_Get64 (l : List Int) (m a : Nat) (hm : List.length l = m) (hb : m ≤ 1000000) (hy : Byt l) (ha : a + 8 ≤ m) : Fun 39 [.c (.d (D.sl (dI .u8 l) m)), iE ((a : Nat) : Int)] (toG []) 0 (.tup [.c (.d (D.lit (.int .u64 (g64 l a)))), iE (((a + 8) : Nat) : Int), iE 0]) (toG []) 0 := by
  refine Fun.mk (n := 13) Try.func39 rfl rfl (Nat.le_of_ble_eq_true rfl) ?_
  intro cx hcx
  refine AW.rgs [.no, .no, .no] [0, 1] [] (P := True) (l' := [(0, sV .u8 l m), (1, iV ↑a)]) (g' := []) (nx' := 0) (by kernel_rfl) trivial ?_
  have hx1 : (((0 : Int) ≤ (g64 l a)) ∧ ((g64 l a) ≤ 18446744073709551615)) := g64_rng hy (by omega)
  refine AW.rgs [.no, .no, .call [] (.tup [.c (.d (D.lit (.int .u64 (g64 l a)))), iE (((a + 8) : Nat) : Int), iE 0]) [] 0 [] none, .no, .no, .no, .no, .no, .no] [4, 5, 6] [] (P := (_)) (l' := [(4, .e (.c (.d (D.lit (.int .u64 (g64 l a)))))), (5, iV (((a + 8) : Nat) : Int)), (6, iV 0)]) (g' := []) (nx' := 0) (by kernel_rfl) (W_get64 l m a (by omega) (by omega) (show Byt l by with_reducible assumption) (by omega)) ?_
  refine AW.ret ?_
  exact EndP.of (.inr rfl) [] (P := (((g64 l a) : Int) = (g64 l a)) ∧ (((((a + 8) : Nat) : Int) : Int) = (((a + 8) : Nat) : Int)) ∧ ((0 : Int) = 0)) (by kernel_rfl) ⟨rfl, rfl, rfl⟩

set_option maxHeartbeats 4000000 in
set_option maxRecDepth 100000 in
theorem W_Get64_s (l : List Int) (m a : Nat) (hm : List.length l = m) (hb : m ≤ 1000000) (hy : Byt l) (ha2 : a ≤ m) (ha : m < a + 8) : Fun 39 [.c (.d (D.sl (dI .u8 l) m)), iE ((a : Nat) : Int)] (toG []) 0 (.tup [.c (.d (D.lit (.int .u64 0))), iE 0, iE 4]) (toG []) 0 := by
  refine Fun.mk (n := 13) Try.func39 rfl rfl (Nat.le_of_ble_eq_true rfl) ?_
  intro cx hcx
  refine AW.rgs [.no, .no, .no] [0, 1] [] (P := True) (l' := [(0, sV .u8 l m), (1, iV ↑a)]) (g' := []) (nx' := 0) (by kernel_rfl) trivial ?_
  refine AW.rgs [.no, .no, .call [] (.tup [.c (.d (D.lit (.int .u64 0))), iE 0, iE 4]) [] 0 [] none, .no, .no, .no, .no, .no, .no] [4, 5, 6] [] (P := (_)) (l' := [(4, .e (.c (.d (D.lit (.int .u64 0))))), (5, iV 0), (6, iV 4)]) (g' := []) (nx' := 0) (by kernel_rfl) (W_get64_s l m a (by omega) (by omega) (show Byt l by with_reducible assumption) (by omega) (by omega)) ?_
  refine AW.ret ?_
  exact EndP.of (.inr rfl) [] (P := ((0 : Int) = 0) ∧ ((0 : Int) = 0) ∧ ((4 : Int) = 4)) (by kernel_rfl) ⟨rfl, rfl, rfl⟩

set_option maxHeartbeats 4000000 in
set_option maxRecDepth 100000 in
theorem W_Get64_r (l : List Int) (m a : Nat) (hm : List.length l = m) (hb : m ≤ 1000000) (hy : Byt l) (ha : m < a) : Fun 39 [.c (.d (D.sl (dI .u8 l) m)), iE ((a : Nat) : Int)] (toG []) 0 (.tup [.c (.d (D.lit (.int .u64 0))), iE 0, iE 2]) (toG []) 0 := by
  refine Fun.mk (n := 13) Try.func39 rfl rfl (Nat.le_of_ble_eq_true rfl) ?_
  intro cx hcx
  refine AW.rgs [.no, .no, .no] [0, 1] [] (P := True) (l' := [(0, sV .u8 l m), (1, iV ↑a)]) (g' := []) (nx' := 0) (by kernel_rfl) trivial ?_
  refine AW.rgs [.no, .no, .call [] (.tup [.c (.d (D.lit (.int .u64 0))), iE 0, iE 2]) [] 0 [] none, .no, .no, .no, .no, .no, .no] [4, 5, 6] [] (P := (_)) (l' := [(4, .e (.c (.d (D.lit (.int .u64 0))))), (5, iV 0), (6, iV 2)]) (g' := []) (nx' := 0) (by kernel_rfl) (W_get64_r l m a (by omega) (by omega) (show Byt l by with_reducible assumption) (by omega)) ?_
  refine AW.ret ?_
  exact EndP.of (.inr rfl) [] (P := ((0 : Int) = 0) ∧ ((0 : Int) = 0) ∧ ((2 : Int) = 2)) (by kernel_rfl) ⟨rfl, rfl, rfl⟩

set_option maxHeartbeats 4000000 in
set_option maxRecDepth 100000 in
theorem W_rGet64 (l : List Int) (m a : Nat) (hm : List.length l = m) (hb : m ≤ 1000000) (hy : Byt l) (ha : a + 8 ≤ m) : Fun 31 [.c (.d (D.sl (dI .u8 l) m)), iE ((a : Nat) : Int)] (toG []) 0 (.tup [.c (.d (D.lit (.int .u64 (g64 l a)))), iE (((a + 8) : Nat) : Int), iE 0]) (toG []) 0 := by
  refine Fun.mk (n := 13) Try.func31 rfl rfl (Nat.le_of_ble_eq_true rfl) ?_
  intro cx hcx
  refine AW.rgs [.no, .no, .no] [0, 1] [] (P := True) (l' := [(0, sV .u8 l m), (1, iV ↑a)]) (g' := []) (nx' := 0) (by kernel_rfl) trivial ?_
  have hx1 : (((0 : Int) ≤ (g64 l a)) ∧ ((g64 l a) ≤ 18446744073709551615)) := g64_rng hy (by omega)
  refine AW.rgs [.no, .no, .call [] (.tup [.c (.d (D.lit (.int .u64 (g64 l a)))), iE (((a + 8) : Nat) : Int), iE 0]) [] 0 [] none, .no, .no, .no, .no, .no, .no] [4, 5, 6] [] (P := (_)) (l' := [(4, .e (.c (.d (D.lit (.int .u64 (g64 l a)))))), (5, iV (((a + 8) : Nat) : Int)), (6, iV 0)]) (g' := []) (nx' := 0) (by kernel_rfl) (W_rget64 l m a (by omega) (by omega) (show Byt l by with_reducible assumption) (by omega)) ?_
  refine AW.ret ?_
  exact EndP.of (.inr rfl) [] (P := (((g64 l a) : Int) = (g64 l a)) ∧ (((((a + 8) : Nat) : Int) : Int) = (((a + 8) : Nat) : Int)) ∧ ((0 : Int) = 0)) (by kernel_rfl) ⟨rfl, rfl, rfl⟩

set_option maxHeartbeats 4000000 in
set_option maxRecDepth 100000 in
theorem W_rGet64_s (l : List Int) (m a : Nat) (hm : List.length l = m) (hb : m ≤ 1000000) (hy : Byt l) (ha2 : a ≤ m) (ha : m < a + 8) : Fun 31 [.c (.d (D.sl (dI .u8 l) m)), iE ((a : Nat) : Int)] (toG []) 0 (.tup [.c (.d (D.lit (.int .u64 0))), iE 0, iE 4]) (toG []) 0 := by
  refine Fun.mk (n := 13) Try.func31 rfl rfl (Nat.le_of_ble_eq_true rfl) ?_
  intro cx hcx
  refine AW.rgs [.no, .no, .no] [0, 1] [] (P := True) (l' := [(0, sV .u8 l m), (1, iV ↑a)]) (g' := []) (nx' := 0) (by kernel_rfl) trivial ?_
  refine AW.rgs [.no, .no, .call [] (.tup [.c (.d (D.lit (.int .u64 0))), iE 0, iE 4]) [] 0 [] none, .no, .no, .no, .no, .no, .no] [4, 5, 6] [] (P := (_)) (l' := [(4, .e (.c (.d (D.lit (.int .u64 0))))), (5, iV 0), (6, iV 4)]) (g' := []) (nx' := 0) (by kernel_rfl) (W_rget64_s l m a (by omega) (by omega) (show Byt l by with_reducible assumption) (by omega) (by omega)) ?_
  refine AW.ret ?_
  exact EndP.of (.inr rfl) [] (P := ((0 : Int) = 0) ∧ ((0 : Int) = 0) ∧ ((4 : Int) = 4)) (by kernel_rfl) ⟨rfl, rfl, rfl⟩

set_option maxHeartbeats 4000000 in
set_option maxRecDepth 100000 in
theorem W_rGet64_r (l : List Int) (m a : Nat) (hm : List.length l = m) (hb : m ≤ 1000000) (hy : Byt l) (ha : m < a) : Fun 31 [.c (.d (D.sl (dI .u8 l) m)), iE ((a : Nat) : Int)] (toG []) 0 (.tup [.c (.d (D.lit (.int .u64 0))), iE 0, iE 2]) (toG []) 0 := by
  refine Fun.mk (n := 13) Try.func31 rfl rfl (Nat.le_of_ble_eq_true rfl) ?_
  intro cx hcx
  refine AW.rgs [.no, .no, .no] [0, 1] [] (P := True) (l' := [(0, sV .u8 l m), (1, iV ↑a)]) (g' := []) (nx' := 0) (by kernel_rfl) trivial ?_
  refine AW.rgs [.no, .no, .call [] (.tup [.c (.d (D.lit (.int .u64 0))), iE 0, iE 2]) [] 0 [] none, .no, .no, .no, .no, .no, .no] [4, 5, 6] [] (P := (_)) (l' := [(4, .e (.c (.d (D.lit (.int .u64 0))))), (5, iV 0), (6, iV 2)]) (g' := []) (nx' := 0) (by kernel_rfl) (W_rget64_r l m a (by omega) (by omega) (show Byt l by with_reducible assumption) (by omega)) ?_
  refine AW.ret ?_
  exact EndP.of (.inr rfl) [] (P := ((0 : Int) = 0) ∧ ((0 : Int) = 0) ∧ ((2 : Int) = 2)) (by kernel_rfl) ⟨rfl, rfl, rfl⟩

set_option maxHeartbeats 4000000 in
set_option maxRecDepth 100000 in
theorem W_Hash (l : List Int) (m : Nat) (hm : List.length l = m) (hb : m ≤ 1000000) (hy : Byt l) : Fun 35 [.c (.d (D.sl (dI .u8 l) m))] (toG []) 0 (.e (.c (.d (D.lit (.int .u64 (hvF l)))))) (toG []) 0 := by
  refine Fun.mk (n := 19) Try.func35 rfl rfl (Nat.le_of_ble_eq_true rfl) ?_
  intro cx hcx
  refine AW.rgs [.no] [0] [] (P := True) (l' := [(0, sV .u8 l m)]) (g' := []) (nx' := 0) (by kernel_rfl) trivial ?_
  refine AW.rgs [.no] [0, 3] [] (P := True) (l' := [(0, sV .u8 l m), (3, .e (.c (.d (D.lit (.int .u64 14695981039346656037)))))]) (g' := []) (nx' := 0) (by kernel_rfl) trivial ?_
  refine AW.seq ?_
  refine AW.rgs [.no, .no, .no] [3, 6, 7, 8] [] (P := True) (l' := [(3, .e (.c (.d (D.lit (.int .u64 14695981039346656037))))), (6, sV .u8 l m), (7, iV ↑m), (8, iV 0)]) (g' := []) (nx' := 0) (by kernel_rfl) trivial ?_
  refine AW.block ?_
  refine AW.loopE 0 hcx (fun (x : {x : Nat // match x with | k => (k ≤ m)}) => match x with | ⟨k, _⟩ => (⟨[(3, .e (.c (.d (D.lit (.int .u64 (hvK l k)))))), (6, sV .u8 l m), (7, iV ((m : Nat) : Int)), (8, iV ((k : Nat) : Int))], [], 0⟩ : ES)) (fun (x : {x : Nat // match x with | k => (k ≤ m)}) => match x with | ⟨k, _⟩ => m - k) ⟨(0 : Nat), (show ((0 : Nat) ≤ m) from (by first | omega | assumption | simp))⟩ [] (P := (((hvK l 0) : Int) = 14695981039346656037) ∧ (((dI .u8 l) : List D) = (dI .u8 l)) ∧ ((m : Nat) = m) ∧ ((((m : Nat) : Int) : Int) = ((m : Nat) : Int)) ∧ ((0 : Int) = 0)) (by kernel_rfl) ⟨(by first | rfl | omega | assumption | (simp; done) | (simp; omega)), rfl, rfl, rfl, rfl⟩ ?_
  rintro ⟨k, hinv0⟩
  have hk : (k ≤ m) := hinv0
  refine AW.es (l := [(3, .e (.c (.d (D.lit (.int .u64 (hvK l k)))))), (6, sV .u8 l m), (7, iV ((m : Nat) : Int)), (8, iV ((k : Nat) : Int))]) (g := []) (nx := 0) rfl rfl rfl ?_
  by_cases hx1 : (((k : Nat) : Int) < ((m : Nat) : Int))
  · refine AW.rgs [.b true] [3, 6, 7, 8, 9] [] (P := ((((k : Nat) : Int) < ((m : Nat) : Int)))) (l' := [(3, .e (.c (.d (D.lit (.int .u64 (hvK l k)))))), (6, sV .u8 l m), (7, iV ↑m), (8, iV ↑k), (9, bV true)]) (g' := []) (nx' := 0) (by kernel_rfl) (by omega) ?_
    refine AW.seq ?_
    refine AW.cond_t (.tmp (Look.of rfl)) ?_
    refine AW.skip ?_
    refine AW.seq ?_
    refine AW.block ?_
    have hx2 : 0 ≤ (List.getD l k 0) ∧ (List.getD l k 0) ≤ 255 := (show Byt l by with_reducible assumption).at _ (by first | omega | (simp <;> omega))
    refine AW.rgs [.n k, .d (D.lit (.int .u8 (List.getD l k 0))), .no] [3, 5, 6, 7, 8] [] (P := ((((k : Nat) : Int) : Int) = ((k : Nat) : Int)) ∧ (k < m) ∧ ((List.drop k (dI .u8 l))[0]? = some (D.lit (.int .u8 (List.getD l k 0))))) (l' := [(3, .e (.c (.d (D.lit (.int .u64 (hvK l k)))))), (5, .e (.c (.d (D.lit (.int .u8 (List.getD l k 0)))))), (6, sV .u8 l m), (7, iV ↑m), (8, iV ↑k)]) (g' := []) (nx' := 0) (by kernel_rfl) ⟨rfl, (by omega), (dI_at _ _ _ (by first | omega | (simp only [bsD_len, dI_len, List.length_append, List.length_cons, List.length_nil, List.length_take, List.length_drop, List.length_replicate, List.length_set, List.length_map, List.length_reverse, Nat.mul_one] <;> omega) | rfl))⟩ ?_
    refine AW.rg [.no, .no, .w, .i (bitsI .xor .u64 (hvK l k) (List.getD l k 0)), .i (hvK l (k + 1)), .no] [3, 6, 7, 8] [] (P := (0 ≤ (List.getD l k 0) ∧ (List.getD l k 0) ≤ 18446744073709551615) ∧ (bitsI .xor .u64 (hvK l k) (List.getD l k 0) = (bitsI .xor .u64 (hvK l k) (List.getD l k 0))) ∧ (IntKind.u64.wrap (((bitsI .xor .u64 (hvK l k) (List.getD l k 0)) * 1099511628211) : Int) = (hvK l (k + 1)))) (l' := [(3, .e (.c (.d (D.lit (.int .u64 (hvK l (k + 1))))))), (6, sV .u8 l m), (7, iV ↑m), (8, iV ↑k)]) (g' := []) (nx' := 0) (by kernel_rfl) ⟨⟨by omega, by omega⟩, rfl, (hvK_s (by omega))⟩ ?_
    refine AW.rg [.w, .no] [3, 6, 7, 8] [] (P := ((-9223372036854775808) ≤ (((k : Nat) : Int) + 1) ∧ (((k : Nat) : Int) + 1) ≤ 9223372036854775807)) (l' := [(3, .e (.c (.d (D.lit (.int .u64 (hvK l (k + 1))))))), (6, sV .u8 l m), (7, iV ↑m), (8, iV (↑k + 1))]) (g' := []) (nx' := 0) (by kernel_rfl) ⟨by omega, by omega⟩ ?_
    exact Rd.of ⟨((k + 1) : Nat), (show ((k + 1) ≤ m) from (by first | omega | assumption | simp))⟩ [] (P := (((hvK l (k + 1)) : Int) = (hvK l (k + 1))) ∧ (((dI .u8 l) : List D) = (dI .u8 l)) ∧ ((m : Nat) = m) ∧ ((((m : Nat) : Int) : Int) = ((m : Nat) : Int)) ∧ (((((k + 1) : Nat) : Int) : Int) = (((k : Nat) : Int) + 1))) (by kernel_rfl) ⟨rfl, rfl, rfl, rfl, (by first | rfl | omega | assumption | (simp; done) | (simp; omega))⟩ (show m - (k + 1) < m - k from (by first | omega | (show _ < _; simp; omega)))
  · refine AW.rgs [.b false] [3, 6, 7, 8, 9] [] (P := (¬ (((k : Nat) : Int) < ((m : Nat) : Int)))) (l' := [(3, .e (.c (.d (D.lit (.int .u64 (hvK l k)))))), (6, sV .u8 l m), (7, iV ↑m), (8, iV ↑k), (9, bV false)]) (g' := []) (nx' := 0) (by kernel_rfl) (by omega) ?_
    refine AW.seq ?_
    refine AW.cond_f (.tmp (Look.of rfl)) ?_
    refine AW.exit ?_
    refine AW.rgs [.no, .no] [2] [] (P := True) (l' := [(2, .e (.c (.d (D.lit (.int .u64 (hvK l k))))))]) (g' := []) (nx' := 0) (by kernel_rfl) trivial ?_
    refine AW.ret ?_
    obtain rfl : m = k := by omega
    exact EndP.of (.inr rfl) [] (P := (((hvF l) : Int) = (hvK l m))) (by kernel_rfl) (by first | rfl | (unfold hvF; rw [hm]))

set_option maxHeartbeats 4000000 in
set_option maxRecDepth 100000 in
theorem W_rHash (l : List Int) (m : Nat) (hm : List.length l = m) (hb : m ≤ 1000000) (hy : Byt l) : Fun 37 [.c (.d (D.sl (dI .u8 l) m))] (toG []) 0 (.e (.c (.d (D.lit (.int .u64 (hvF l)))))) (toG []) 0 := by
  refine Fun.mk (n := 19) Try.func37 rfl rfl (Nat.le_of_ble_eq_true rfl) ?_
  intro cx hcx
  refine AW.rgs [.no] [0] [] (P := True) (l' := [(0, sV .u8 l m)]) (g' := []) (nx' := 0) (by kernel_rfl) trivial ?_
  refine AW.rgs [.no] [0, 3] [] (P := True) (l' := [(0, sV .u8 l m), (3, .e (.c (.d (D.lit (.int .u64 14695981039346656037)))))]) (g' := []) (nx' := 0) (by kernel_rfl) trivial ?_
  refine AW.seq ?_
  refine AW.rgs [.no, .no, .no] [3, 6, 7, 8] [] (P := True) (l' := [(3, .e (.c (.d (D.lit (.int .u64 14695981039346656037))))), (6, sV .u8 l m), (7, iV ↑m), (8, iV 0)]) (g' := []) (nx' := 0) (by kernel_rfl) trivial ?_
  refine AW.block ?_
  refine AW.loopE 0 hcx (fun (x : {x : Nat // match x with | k => (k ≤ m)}) => match x with | ⟨k, _⟩ => (⟨[(3, .e (.c (.d (D.lit (.int .u64 (hvK l k)))))), (6, sV .u8 l m), (7, iV ((m : Nat) : Int)), (8, iV ((k : Nat) : Int))], [], 0⟩ : ES)) (fun (x : {x : Nat // match x with | k => (k ≤ m)}) => match x with | ⟨k, _⟩ => m - k) ⟨(0 : Nat), (show ((0 : Nat) ≤ m) from (by first | omega | assumption | simp))⟩ [] (P := (((hvK l 0) : Int) = 14695981039346656037) ∧ (((dI .u8 l) : List D) = (dI .u8 l)) ∧ ((m : Nat) = m) ∧ ((((m : Nat) : Int) : Int) = ((m : Nat) : Int)) ∧ ((0 : Int) = 0)) (by kernel_rfl) ⟨(by first | rfl | omega | assumption | (simp; done) | (simp; omega)), rfl, rfl, rfl, rfl⟩ ?_
  rintro ⟨k, hinv0⟩
  have hk : (k ≤ m) := hinv0
  refine AW.es (l := [(3, .e (.c (.d (D.lit (.int .u64 (hvK l k)))))), (6, sV .u8 l m), (7, iV ((m : Nat) : Int)), (8, iV ((k : Nat) : Int))]) (g := []) (nx := 0) rfl rfl rfl ?_
  by_cases hx1 : (((k : Nat) : Int) < ((m : Nat) : Int))
  · refine AW.rgs [.b true] [3, 6, 7, 8, 9] [] (P := ((((k : Nat) : Int) < ((m : Nat) : Int)))) (l' := [(3, .e (.c (.d (D.lit (.int .u64 (hvK l k)))))), (6, sV .u8 l m), (7, iV ↑m), (8, iV ↑k), (9, bV true)]) (g' := []) (nx' := 0) (by kernel_rfl) (by omega) ?_
    refine AW.seq ?_
    refine AW.cond_t (.tmp (Look.of rfl)) ?_
    refine AW.skip ?_
    refine AW.seq ?_
    refine AW.block ?_
    have hx2 : 0 ≤ (List.getD l k 0) ∧ (List.getD l k 0) ≤ 255 := (show Byt l by with_reducible assumption).at _ (by first | omega | (simp <;> omega))
    refine AW.rgs [.n k, .d (D.lit (.int .u8 (List.getD l k 0))), .no] [3, 5, 6, 7, 8] [] (P := ((((k : Nat) : Int) : Int) = ((k : Nat) : Int)) ∧ (k < m) ∧ ((List.drop k (dI .u8 l))[0]? = some (D.lit (.int .u8 (List.getD l k 0))))) (l' := [(3, .e (.c (.d (D.lit (.int .u64 (hvK l k)))))), (5, .e (.c (.d (D.lit (.int .u8 (List.getD l k 0)))))), (6, sV .u8 l m), (7, iV ↑m), (8, iV ↑k)]) (g' := []) (nx' := 0) (by kernel_rfl) ⟨rfl, (by omega), (dI_at _ _ _ (by first | omega | (simp only [bsD_len, dI_len, List.length_append, List.length_cons, List.length_nil, List.length_take, List.length_drop, List.length_replicate, List.length_set, List.length_map, List.length_reverse, Nat.mul_one] <;> omega) | rfl))⟩ ?_
    refine AW.rg [.no, .no, .w, .i (bitsI .xor .u64 (hvK l k) (List.getD l k 0)), .i (hvK l (k + 1)), .no] [3, 6, 7, 8] [] (P := (0 ≤ (List.getD l k 0) ∧ (List.getD l k 0) ≤ 18446744073709551615) ∧ (bitsI .xor .u64 (hvK l k) (List.getD l k 0) = (bitsI .xor .u64 (hvK l k) (List.getD l k 0))) ∧ (IntKind.u64.wrap (((bitsI .xor .u64 (hvK l k) (List.getD l k 0)) * 1099511628211) : Int) = (hvK l (k + 1)))) (l' := [(3, .e (.c (.d (D.lit (.int .u64 (hvK l (k + 1))))))), (6, sV .u8 l m), (7, iV ↑m), (8, iV ↑k)]) (g' := []) (nx' := 0) (by kernel_rfl) ⟨⟨by omega, by omega⟩, rfl, (hvK_s (by omega))⟩ ?_
    refine AW.rg [.w, .no] [3, 6, 7, 8] [] (P := ((-9223372036854775808) ≤ (((k : Nat) : Int) + 1) ∧ (((k : Nat) : Int) + 1) ≤ 9223372036854775807)) (l' := [(3, .e (.c (.d (D.lit (.int .u64 (hvK l (k + 1))))))), (6, sV .u8 l m), (7, iV ↑m), (8, iV (↑k + 1))]) (g' := []) (nx' := 0) (by kernel_rfl) ⟨by omega, by omega⟩ ?_
    exact Rd.of ⟨((k + 1) : Nat), (show ((k + 1) ≤ m) from (by first | omega | assumption | simp))⟩ [] (P := (((hvK l (k + 1)) : Int) = (hvK l (k + 1))) ∧ (((dI .u8 l) : List D) = (dI .u8 l)) ∧ ((m : Nat) = m) ∧ ((((m : Nat) : Int) : Int) = ((m : Nat) : Int)) ∧ (((((k + 1) : Nat) : Int) : Int) = (((k : Nat) : Int) + 1))) (by kernel_rfl) ⟨rfl, rfl, rfl, rfl, (by first | rfl | omega | assumption | (simp; done) | (simp; omega))⟩ (show m - (k + 1) < m - k from (by first | omega | (show _ < _; simp; omega)))
  · refine AW.rgs [.b false] [3, 6, 7, 8, 9] [] (P := (¬ (((k : Nat) : Int) < ((m : Nat) : Int)))) (l' := [(3, .e (.c (.d (D.lit (.int .u64 (hvK l k)))))), (6, sV .u8 l m), (7, iV ↑m), (8, iV ↑k), (9, bV false)]) (g' := []) (nx' := 0) (by kernel_rfl) (by omega) ?_
    refine AW.seq ?_
    refine AW.cond_f (.tmp (Look.of rfl)) ?_
    refine AW.exit ?_
    refine AW.rgs [.no, .no] [2] [] (P := True) (l' := [(2, .e (.c (.d (D.lit (.int .u64 (hvK l k))))))]) (g' := []) (nx' := 0) (by kernel_rfl) trivial ?_
    refine AW.ret ?_
    obtain rfl : m = k := by omega
    exact EndP.of (.inr rfl) [] (P := (((hvF l) : Int) = (hvK l m))) (by kernel_rfl) (by first | rfl | (unfold hvF; rw [hm]))

end Go.Proofs.Ytfhfehpbelelkaa
