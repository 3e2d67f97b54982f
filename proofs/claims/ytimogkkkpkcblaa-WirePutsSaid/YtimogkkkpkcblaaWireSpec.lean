/- What the bytes, sums and hashes of layer 1 are, as functions on lists of numbers: no statement is proved here. -/
import Derived.Test.YtimogkkkpkcblaaBase
namespace Go.Proofs.Ytimogkkkpkcblaa
open Go.ChangeShapes Go.WideShapes Go.ChangeAt Go.RowKit
set_option linter.unusedVariables false

/-- the first k bytes of a number, the least significant one first -/
def le (n : Nat) : Nat → List Int
  | 0 => []
  | k + 1 => le n k ++ [((n / 2 ^ (8 * k) % 256 : Nat) : Int)]
theorem le_length (n k : Nat) : (le n k).length = k := by
  induction k with
  | zero => rfl
  | succ k ih => simp [le, ih]
theorem le_byte (n k : Nat) : Byte (le n k) := by
  induction k with
  | zero => intro x hx; simp [le] at hx
  | succ k ih =>
    intro x hx
    simp only [le, List.mem_append, List.mem_singleton] at hx
    rcases hx with hx | hx
    · exact ih x hx
    · have : n / 2 ^ (8 * k) % 256 < 256 := Nat.mod_lt _ (by omega)
      omega

theorem le_map_succ (l : List Int) (n k : Nat) : (l ++ le n (k + 1)).map (Value.int .u8) = (l ++ le n k).map (Value.int .u8) ++ [.int .u8 ((n : Int) / 2 ^ (8 * k) % 256)] := by
  have e : ((n / 2 ^ (8 * k) % 256 : Nat) : Int) = (n : Int) / 2 ^ (8 * k) % 256 := by simp
  rw [le, ← List.append_assoc, List.map_append, e]; rfl
theorem wf_byte {n : Int} (h : 0 ≤ n ∧ n ≤ 255) : (Lit.int .u8 n).wf = true := by
  simp [Lit.wf, IntKind.min, IntKind.max, IntKind.bits, IntKind.signed]; omega
theorem wf_append {l m : List Int} (hl : ∀ n ∈ l, (Lit.int .u8 n).wf = true) (hm : Byte m) : ∀ n ∈ l ++ m, (Lit.int .u8 n).wf = true := by
  intro n hn
  rcases List.mem_append.1 hn with h | h
  · exact hl n h
  · exact wf_byte (hm n h)

def bit1 (r : Nat) : Nat := if r % 2 = 1 then (r / 2) ^^^ 3988292384 else r / 2
def iter8 : Nat → Nat → Nat
  | 0, r => r
  | n + 1, r => bit1 (iter8 n r)
theorem iter8_succ (n r : Nat) : iter8 (n + 1) r = bit1 (iter8 n r) := rfl
def crcStep (r c : Nat) : Nat := iter8 8 (r ^^^ c)
def crcReg (l : List Int) : Nat := l.foldl (fun r c => crcStep r c.toNat) 4294967295
def crc (l : List Int) : Nat := 4294967295 ^^^ crcReg l

theorem bit1_lt (r : Nat) (h : r < 4294967296) : bit1 r < 4294967296 := by
  unfold bit1; split
  · exact Nat.xor_lt_two_pow (n := 32) (by omega) (by omega)
  · omega
theorem iter8_lt (n r : Nat) (h : r < 4294967296) : iter8 n r < 4294967296 := by
  induction n with
  | zero => exact h
  | succ n ih => exact bit1_lt _ ih
theorem crcStep_lt (r c : Nat) (h : r < 4294967296) (hc : c < 256) : crcStep r c < 4294967296 :=
  iter8_lt _ _ (Nat.xor_lt_two_pow (n := 32) (by omega) (by omega))
theorem crcReg_lt (l : List Int) (h : Byte l) : crcReg l < 4294967296 := by
  have : ∀ (m : List Int) (r : Nat), Byte m → r < 4294967296 → m.foldl (fun r c => crcStep r c.toNat) r < 4294967296 := by
    intro m; induction m with
    | nil => intro r _ hr; simpa only [List.foldl_nil] using hr
    | cons x m ih =>
      intro r hm hr
      have hx := hm x (by simp)
      rw [List.foldl_cons]
      exact ih _ (fun n hn => hm n (by simp [hn])) (crcStep_lt _ _ hr (by omega))
  unfold crcReg
  exact this l _ h (by omega)
theorem crcReg_snoc (l : List Int) (c : Int) : crcReg (l ++ [c]) = crcStep (crcReg l) c.toNat := by
  unfold crcReg; simp only [List.foldl_append, List.foldl_cons, List.foldl_nil]
theorem crc_lt (l : List Int) (h : Byte l) : crc l < 4294967296 :=
  Nat.xor_lt_two_pow (n := 32) (by omega) (crcReg_lt l h)

theorem bit_odd (m : Nat) (hm : m < 4294967296) (h : (bits BinOp.and IntKind.u32 (↑m) 1 == 1) = true) : bits BinOp.xor IntKind.u32 (↑m / 2) 3988292384 = (bit1 m : Nat) := by
  have e := u32_and_nat m 1 hm (by omega)
  simp only [beq_iff_eq] at h
  have e' : bits BinOp.and IntKind.u32 (↑m) 1 = ((m &&& 1 : Nat) : Int) := e
  rw [e', nat_mask1] at h
  have := u32_xor_nat (m / 2) 3988292384 (by omega) (by omega)
  unfold bit1; rw [if_pos (by omega)]; simpa using this
theorem bit_even (m : Nat) (hm : m < 4294967296) (h : (bits BinOp.and IntKind.u32 (↑m) 1 == 1) = false) : ((m : Int) / 2) = (bit1 m : Nat) := by
  have e := u32_and_nat m 1 hm (by omega)
  have e' : bits BinOp.and IntKind.u32 (↑m) 1 = ((m &&& 1 : Nat) : Int) := e
  rw [e', nat_mask1] at h
  unfold bit1; rw [if_neg (by simp at h; omega)]; omega
theorem flip32 (n : Nat) (h : n < 4294967296) : bits BinOp.xor IntKind.u32 IntKind.u32.max (n : Int) = ((4294967295 ^^^ n : Nat) : Int) := u32_xor_nat 4294967295 n (by omega) h

def fnvStep (h c : Nat) : Nat := (h ^^^ c) * 1099511628211 % 18446744073709551616
def fnvFrom (i : Nat) : List Int → Nat
  | [] => i
  | c :: l => fnvFrom (fnvStep i c.toNat) l
def fnv (l : List Int) : Nat := fnvFrom 14695981039346656037 l
theorem fnvFrom_snoc (l : List Int) (c : Int) : ∀ i, fnvFrom i (l ++ [c]) = fnvStep (fnvFrom i l) c.toNat := by
  induction l with
  | nil => intro i; rw [List.nil_append, fnvFrom, fnvFrom, fnvFrom]
  | cons x l ih => intro i; rw [List.cons_append, fnvFrom, fnvFrom, ih]
theorem fnv_snoc (l : List Int) (c : Int) : fnv (l ++ [c]) = fnvStep (fnv l) c.toNat := fnvFrom_snoc l c _
theorem fnvStep_lt (h c : Nat) : fnvStep h c < 18446744073709551616 := by
  unfold fnvStep
  exact Nat.mod_lt _ (by omega)
theorem fnvFrom_lt (m : List Int) : ∀ r : Nat, r < 18446744073709551616 → fnvFrom r m < 18446744073709551616 := by
  induction m with
  | nil => intro r hr; exact hr
  | cons x m ih => intro r hr; rw [fnvFrom]; exact ih _ (fnvStep_lt _ _)
theorem fnv_lt (l : List Int) : fnv l < 18446744073709551616 := fnvFrom_lt l _ (by omega)

theorem fnv_step (n x : Nat) (h : n < 18446744073709551616) (hx : x < 18446744073709551616) : IntKind.u64.wrap (bits BinOp.xor IntKind.u64 (n : Int) (x : Int) * 1099511628211) = (fnvStep n x : Nat) := by
  have e : bits BinOp.xor IntKind.u64 (n : Int) (x : Int) = ((n ^^^ x : Nat) : Int) := u64_xor_nat n x h hx
  rw [e]
  have e2 : ∀ z : Int, IntKind.u64.wrap z = z % 18446744073709551616 := fun z => by simp [IntKind.wrap, IntKind.bits, IntKind.signed]
  rw [e2]
  unfold fnvStep
  omega

end Go.Proofs.Ytimogkkkpkcblaa
