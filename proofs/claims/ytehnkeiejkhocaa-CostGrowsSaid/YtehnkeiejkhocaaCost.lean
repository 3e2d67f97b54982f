/- What costs are: no statement is proved here. -/
import Derived.Test.YtehnkeiejkhocaaBase
namespace Go.Proofs.Ytehnkeiejkhocaa
open Go.ChangeShapes Go.WideShapes Go.ChangeAt Go.RowKit
set_option linter.unusedVariables false

theorem ret_b {a b : Bool} (h : a = b) : Ending.returned (.bool a) = .returned (.bool b) := by rw [h]
theorem ret_2 {k : IntKind} {a b : Int} {y : Value} (h : a = b) : Ending.returned (.tuple #[.int k a, y]) = .returned (.tuple #[.int k b, y]) := by rw [h]
def inB (lo hi x : Int) : Bool := decide (lo ≤ x ∧ x ≤ hi)
theorem inB_iff {lo hi x : Int} : inB lo hi x = true ↔ lo ≤ x ∧ x ≤ hi := by unfold inB; simp
theorem inB_false {lo hi x : Int} : inB lo hi x = false ↔ ¬ (lo ≤ x ∧ x ≤ hi) := by unfold inB; simp

theorem mod_eq {n b : Int} (hb : 0 < b) : (n.tmod b < 0 → n.tmod b + b = n % b) ∧ (¬ n.tmod b < 0 → n.tmod b = n % b) := by
  have hm := Int.emod_nonneg n (show b ≠ 0 by omega)
  have hm2 := Int.emod_lt_of_pos n hb
  rw [Int.tmod_eq_emod]
  split
  · exact ⟨fun h => by omega, fun _ => by omega⟩
  · exact ⟨fun _ => by omega, fun h => by omega⟩
theorem w64 {n : Int} (h1 : -9223372036854775808 ≤ n) (h2 : n ≤ 9223372036854775807) : wrap64 n = n := by unfold wrap64; omega

theorem mod_any (v n : Int) (hn : 0 < n) (hn2 : n ≤ 1099511627776) (w : World) :
    Calls Try.prog 7 #[.int .i64 v, .int .i64 n] w fun e w' => e = .returned (.int .i64 (v % n)) ∧ w = w' := by
  have hf := hid (mod_eq (n := v) hn)
  have hm := hid (Int.emod_nonneg v (show n ≠ 0 by omega))
  have hm2 := hid (Int.emod_lt_of_pos v hn)
  go_enter Try.func7, Try.ntmps7
  go_wp2
  · have ht : v.tmod n < 0 := by assumption
    go_ret
    exact ⟨ret_int (by rw [hf.out.1 ht, w64 (by have := hm.out; omega) (by have := hm2.out; omega)]), rfl⟩
  · have ht : 0 ≤ v.tmod n := by assumption
    go_ret
    exact ⟨ret_int (by rw [hf.out.2 (by omega)]), rfl⟩

def allIn (lo hi : Int) (l : List Int) : Bool := l.all (inB lo hi)
theorem allIn_take {lo hi : Int} {l : List Int} {k : Nat} (h : k < l.length) (h0 : allIn lo hi (l.take k) = true) (x : Int) (hx : l.getD k 0 = x) : (inB lo hi x = true → allIn lo hi (l.take (k + 1)) = true) ∧ (inB lo hi x = false → allIn lo hi l = false) := by
  have hm : x ∈ l := by
    rw [List.getD_eq_getElem?_getD, List.getElem?_eq_getElem h] at hx
    simp at hx; rw [← hx]; exact List.getElem_mem h
  constructor
  · intro hb
    rw [take_snoc' l k h, hx]
    unfold allIn at *
    rw [List.all_append, h0]
    simp [hb]
  · intro hb
    unfold allIn
    rw [List.all_eq_false]
    exact ⟨x, hm, by rw [hb]; simp⟩
set_option maxHeartbeats 400000 in
theorem inR_any (lo hi : Int) (b len cap : Nat) (l : List Int) (hz : l.length = len) (hm : len ≤ 1000) (w : World) (hcell : Hid (∀ i, i < len → w.cell? ⟨b, i, none⟩ = some (.int .i64 (l.getD i 0)))) :
    Calls Try.prog 16 #[.int .i64 lo, .int .i64 hi, .slice (some ⟨b, 0, none⟩) len cap] w fun e w' => e = .returned (.bool (allIn lo hi l)) ∧ w = w' := by
  have HZ := hid hz
  clear hz
  go_enter Try.func16, Try.ntmps16
  go_wp2
  go_loop [11] (fun i => ∃ k : Nat, k ≤ len ∧ i = .int .i64 k ∧ Hid (allIn lo hi (l.take k) = true)) (fun i => len - (intOf i).toNat)
  case atStart => exact ⟨0, Nat.zero_le _, rfl, rfl⟩
  case round =>
    obtain ⟨k, hk, rfl, hall⟩ := hrel
    by_cases hlt : k < len
    · obtain ⟨x, hx⟩ : ∃ x, l.getD k 0 = x := ⟨_, rfl⟩
      have hc := hcell.out k hlt
      rw [hx] at hc
      have hst := hid (allIn_take (by have := HZ.out; omega) hall.out x hx)
      clear hx
      by_cases h1 : x < lo
      · go_wp2
        go_ret
        exact ⟨ret_b (by rw [hst.out.2 (by rw [inB_false]; omega)]), rfl⟩
      · by_cases h2 : hi < x
        · go_wp2
          go_ret
          exact ⟨ret_b (by rw [hst.out.2 (by rw [inB_false]; omega)]), rfl⟩
        · go_wp2
          go_round
          case rel => exact ⟨k + 1, by omega, by go_num, hst.out.1 (by rw [inB_iff]; omega)⟩
          case measure => simp [intOf]; omega
    · go_wp2
      go_ret
      exact ⟨ret_b (by have h := hall.out; rw [List.take_of_length_le (by have := HZ.out; omega)] at h; rw [h]), rfl⟩

theorem inR1 (lo hi x : Int) (w : World) :
    Calls Try.prog 16 #[.int .i64 lo, .int .i64 hi, .slice (some ⟨w.heap.size, 0, none⟩) 1 1] (w.alloc (.cells #[.int .i64 x] 3)) fun e w' => e = .returned (.bool (inB lo hi x)) ∧ w.alloc (.cells #[.int .i64 x] 3) = w' := by
  refine (inR_any lo hi w.heap.size 1 1 [x] rfl (by omega) _ (fun i hi => ?_)).mono fun e w' ⟨h, k⟩ => ⟨h.trans (ret_b (by simp [allIn])), k⟩
  rw [cell_of_row _ w.heap.size i _ 3 (0, 0) (heap_alloc_new w _)]
  match i, hi with
  | 0, _ => rfl
theorem inR1_at (lo hi x : Int) (g : Nat) (w : World) (hg : g = w.heap.size) :
    Calls Try.prog 16 #[.int .i64 lo, .int .i64 hi, .slice (some ⟨g, 0, none⟩) 1 1] (w.alloc (.cells #[.int .i64 x] 3)) fun e w' => e = .returned (.bool (inB lo hi x)) ∧ w.alloc (.cells #[.int .i64 x] 3) = w' := by
  subst hg; exact inR1 lo hi x w
theorem inR2 (lo hi x y : Int) (w : World) :
    Calls Try.prog 16 #[.int .i64 lo, .int .i64 hi, .slice (some ⟨w.heap.size, 0, none⟩) 2 2] (w.alloc (.cells #[.int .i64 x, .int .i64 y] 3)) fun e w' => e = .returned (.bool (inB lo hi x && inB lo hi y)) ∧ w.alloc (.cells #[.int .i64 x, .int .i64 y] 3) = w' := by
  refine (inR_any lo hi w.heap.size 2 2 [x, y] rfl (by omega) _ (fun i hi => ?_)).mono fun e w' ⟨h, k⟩ => ⟨h.trans (ret_b (by simp [allIn])), k⟩
  rw [cell_of_row _ w.heap.size i _ 3 (0, 0) (heap_alloc_new w _)]
  match i, hi with
  | 0, _ => rfl
  | 1, _ => rfl

/-- the cost of a stream, and the error -/
def streamV (a b p : Int) : Int × Int := if (inB 1 8 a && inB 1 8 b && inB 16 8192 p) = true then (300 + (4 * a + a * b + 2 * b) * p, 0) else (0, 2)
def deviceV (a p : Int) : Int × Int := if (inB 1 8 a && inB 16 8192 p) = true then (400 + 8 * a * p, 0) else (0, 2)
theorem streamV_ok {a b p : Int} (ha : inB 1 8 a = true) (hb : inB 1 8 b = true) (hp : inB 16 8192 p = true) : streamV a b p = (300 + (4 * a + a * b + 2 * b) * p, 0) := by unfold streamV; rw [if_pos (by rw [ha, hb, hp]; rfl)]
theorem prod_in {a p A P c : Int} (h1 : 0 ≤ a) (h2 : a ≤ A) (h3 : 0 ≤ p) (h4 : p ≤ P) (hc : A * P = c) : 0 ≤ a * p ∧ a * p ≤ c := by
  have e1 : a * p ≤ A * p := Int.mul_le_mul_of_nonneg_right h2 h3
  have e2 : A * p ≤ A * P := Int.mul_le_mul_of_nonneg_left h4 (by omega)
  have e3 := Int.mul_nonneg h1 h3
  omega

theorem cost_bd {a b p : Int} (ha : inB 1 8 a = true) (hb : inB 1 8 b = true) (hp : inB 16 8192 p = true) :
    0 ≤ a * b ∧ a * b ≤ 64 ∧ 0 ≤ (4 * a + a * b + 2 * b) * p ∧ (4 * a + a * b + 2 * b) * p ≤ 917504 := by
  rw [inB_iff] at *
  have e := prod_in (a := a) (p := b) (A := 8) (P := 8) (c := 64) (by omega) (by omega) (by omega) (by omega) (by omega)
  have e2 := prod_in (a := 4 * a + a * b + 2 * b) (p := p) (A := 112) (P := 8192) (c := 917504) (by omega) (by omega) (by omega) (by omega) (by omega)
  omega
theorem dev_bd {a p : Int} (ha : inB 1 8 a = true) (hp : inB 16 8192 p = true) : 0 ≤ 8 * a * p ∧ 8 * a * p ≤ 524288 := by
  rw [inB_iff] at *
  exact prod_in (a := 8 * a) (p := p) (A := 64) (P := 8192) (c := 524288) (by omega) (by omega) (by omega) (by omega) (by omega)

set_option maxHeartbeats 1000000 in
theorem stream_any (a b p : Int) (w : World) :
    Calls Try.prog 8 #[.int .i64 a, .int .i64 b, .int .i64 p] w fun e w' => e = .returned (.tuple #[.int .i64 (streamV a b p).1, .int .i64 (streamV a b p).2]) ∧ Below w.heap.size w w' := by
  cases h1 : (inB 1 8 a && inB 1 8 b)
  · have e : streamV a b p = (0, 2) := by unfold streamV; rw [h1]; rfl
    rw [e]
    clear e
    go_enter Try.func8, Try.ntmps8
    go_wp2_with (go_at_call 16; ((with_reducible refine (inR2 _ _ _ _ _).mono ?_); rintro e w1 ⟨rfl, rfl⟩))
    go_ret2
    exact ⟨rfl, (Below.refl _ _).alloc (Nat.le_refl _) _⟩
  · cases h2 : inB 16 8192 p
    · have e : streamV a b p = (0, 2) := by unfold streamV; rw [h1, h2]; rfl
      rw [e]
      clear e
      go_enter Try.func8, Try.ntmps8
      go_wp2_with (first
        | (go_at_call 16; ((with_reducible refine (inR2 _ _ _ _ _).mono ?_); rintro e w1 ⟨rfl, rfl⟩))
        | (go_at_call 16; ((with_reducible refine (inR1_at _ _ _ _ _ (by simp)).mono ?_); rintro e w1 ⟨rfl, rfl⟩)))
      go_ret2
      exact ⟨rfl, ((Below.refl _ _).alloc (Nat.le_refl _) _).alloc (by simp) _⟩
    · have h1' := h1
      rw [Bool.and_eq_true] at h1'
      rw [streamV_ok h1'.1 h1'.2 h2]
      obtain ⟨c1, c2, c3, c4⟩ := cost_bd h1'.1 h1'.2 h2
      have ha := inB_iff.1 h1'.1
      have hb := inB_iff.1 h1'.2
      obtain ⟨a1, a2⟩ := ha
      obtain ⟨b1, b2⟩ := hb
      clear h1'
      go_enter Try.func8, Try.ntmps8
      go_wp2_with (first
        | (go_at_call 16; ((with_reducible refine (inR2 _ _ _ _ _).mono ?_); rintro e w1 ⟨rfl, rfl⟩))
        | (go_at_call 16; ((with_reducible refine (inR1_at _ _ _ _ _ (by simp)).mono ?_); rintro e w1 ⟨rfl, rfl⟩)))
      go_ret2
      exact ⟨rfl, ((Below.refl _ _).alloc (Nat.le_refl _) _).alloc (by simp) _⟩

def sizesB (a b p : Int) : Bool := inB 1 8 a && inB 1 8 b && inB 16 8192 p
theorem sizesB_iff {a b p : Int} : sizesB a b p = true ↔ (1 ≤ a ∧ a ≤ 8) ∧ (1 ≤ b ∧ b ≤ 8) ∧ 16 ≤ p ∧ p ≤ 8192 := by
  unfold sizesB; simp [inB_iff, and_assoc]
theorem sizes_any (a b p : Int) (w : World) :
    Calls Try.prog 17 #[.int .i64 a, .int .i64 b, .int .i64 p] w fun e w' => e = .returned (.bool (sizesB a b p)) ∧ w = w' := by
  go_enter Try.func17, Try.ntmps17
  go_wp2
  all_goals (go_ret; exact ⟨ret_b (by rw [Bool.eq_iff_iff, sizesB_iff]; simp; try omega), rfl⟩)

set_option maxHeartbeats 1000000 in
theorem rstream_any (a b p : Int) (w : World) :
    Calls Try.prog 9 #[.int .i64 a, .int .i64 b, .int .i64 p] w fun e w' => e = .returned (.tuple #[.int .i64 (streamV a b p).1, .int .i64 (streamV a b p).2]) ∧ w = w' := by
  cases h : sizesB a b p
  · have e : streamV a b p = (0, 2) := by unfold streamV; unfold sizesB at h; rw [h]; rfl
    rw [e]
    clear e
    go_enter Try.func9, Try.ntmps9
    go_wp2_with (go_at_call 17; ((with_reducible refine (sizes_any _ _ _ _).mono ?_); rintro e w1 ⟨rfl, rfl⟩))
    go_ret2
    exact ⟨rfl, rfl⟩
  · obtain ⟨⟨a1, a2⟩, ⟨b1, b2⟩, p1, p2⟩ := sizesB_iff.1 h
    have ha := inB_iff.2 ⟨a1, a2⟩
    have hb := inB_iff.2 ⟨b1, b2⟩
    have hp := inB_iff.2 ⟨p1, p2⟩
    rw [streamV_ok ha hb hp]
    obtain ⟨c1, c2, c3, c4⟩ := cost_bd ha hb hp
    clear ha hb hp
    go_enter Try.func9, Try.ntmps9
    go_wp2_with (go_at_call 17; ((with_reducible refine (sizes_any _ _ _ _).mono ?_); rintro e w1 ⟨rfl, rfl⟩))
    go_ret2
    exact ⟨rfl, rfl⟩

set_option maxHeartbeats 1000000 in
theorem device_any (a p : Int) (w : World) :
    Calls Try.prog 10 #[.int .i64 a, .int .i64 p] w fun e w' => e = .returned (.tuple #[.int .i64 (deviceV a p).1, .int .i64 (deviceV a p).2]) ∧ Below w.heap.size w w' := by
  cases h1 : inB 1 8 a
  · have e : deviceV a p = (0, 2) := by unfold deviceV; rw [h1]; rfl
    rw [e]
    clear e
    go_enter Try.func10, Try.ntmps10
    go_wp2_with (go_at_call 16; ((with_reducible refine (inR1_at _ _ _ _ _ (by simp)).mono ?_); rintro e w1 ⟨rfl, rfl⟩))
    go_ret2
    exact ⟨rfl, (Below.refl _ _).alloc (Nat.le_refl _) _⟩
  · cases h2 : inB 16 8192 p
    · have e : deviceV a p = (0, 2) := by unfold deviceV; rw [h1, h2]; rfl
      rw [e]
      clear e
      go_enter Try.func10, Try.ntmps10
      go_wp2_with (go_at_call 16; ((with_reducible refine (inR1_at _ _ _ _ _ (by simp)).mono ?_); rintro e w1 ⟨rfl, rfl⟩))
      go_ret2
      exact ⟨rfl, ((Below.refl _ _).alloc (Nat.le_refl _) _).alloc (by simp) _⟩
    · have e : deviceV a p = (400 + 8 * a * p, 0) := by unfold deviceV; rw [h1, h2]; rfl
      rw [e]
      obtain ⟨c1, c2⟩ := dev_bd h1 h2
      obtain ⟨a1, a2⟩ := inB_iff.1 h1
      clear e
      go_enter Try.func10, Try.ntmps10
      go_wp2_with (go_at_call 16; ((with_reducible refine (inR1_at _ _ _ _ _ (by simp)).mono ?_); rintro e w1 ⟨rfl, rfl⟩))
      go_ret2
      exact ⟨rfl, ((Below.refl _ _).alloc (Nat.le_refl _) _).alloc (by simp) _⟩

set_option maxHeartbeats 1000000 in
theorem rdevice_any (a p : Int) (w : World) :
    Calls Try.prog 11 #[.int .i64 a, .int .i64 p] w fun e w' => e = .returned (.tuple #[.int .i64 (deviceV a p).1, .int .i64 (deviceV a p).2]) ∧ w = w' := by
  have hs : sizesB a 1 p = (inB 1 8 a && inB 16 8192 p) := by
    rw [Bool.eq_iff_iff, sizesB_iff]; simp [inB_iff]
  cases h : sizesB a 1 p
  · have e : deviceV a p = (0, 2) := by unfold deviceV; rw [← hs, h]; rfl
    rw [e]
    clear e hs
    go_enter Try.func11, Try.ntmps11
    go_wp2_with (go_at_call 17; ((with_reducible refine (sizes_any _ _ _ _).mono ?_); rintro e w1 ⟨rfl, rfl⟩))
    go_ret2
    exact ⟨rfl, rfl⟩
  · have e : deviceV a p = (400 + 8 * a * p, 0) := by unfold deviceV; rw [← hs, h]; rfl
    rw [e]
    obtain ⟨⟨a1, a2⟩, _, p1, p2⟩ := sizesB_iff.1 h
    obtain ⟨c1, c2⟩ := dev_bd (inB_iff.2 ⟨a1, a2⟩) (inB_iff.2 ⟨p1, p2⟩)
    clear e hs
    go_enter Try.func11, Try.ntmps11
    go_wp2_with (go_at_call 17; ((with_reducible refine (sizes_any _ _ _ _).mono ?_); rintro e w1 ⟨rfl, rfl⟩))
    go_ret2
    exact ⟨rfl, rfl⟩

/-- the share of a capacity -/
def shareV (c k : Int) : Int := if (inB 0 1099511627776 c && inB 1 1099511627776 k) = true then (c * 100 + k - 1) / k else 0
set_option maxHeartbeats 1000000 in
theorem share_any (c k : Int) (w : World) :
    Calls Try.prog 14 #[.int .i64 c, .int .i64 k] w fun e w' => e = .returned (.int .i64 (shareV c k)) ∧ Below w.heap.size w w' := by
  cases h1 : inB 0 1099511627776 c
  · have e : shareV c k = 0 := by unfold shareV; rw [h1]; rfl
    rw [e]
    clear e
    go_enter Try.func14, Try.ntmps14
    go_wp2_with (go_at_call 16; ((with_reducible refine (inR1_at _ _ _ _ _ (by simp)).mono ?_); rintro e w1 ⟨rfl, rfl⟩))
    go_ret
    exact ⟨rfl, (Below.refl _ _).alloc (Nat.le_refl _) _⟩
  · cases h2 : inB 1 1099511627776 k
    · have e : shareV c k = 0 := by unfold shareV; rw [h1, h2]; rfl
      rw [e]
      clear e
      go_enter Try.func14, Try.ntmps14
      go_wp2_with (go_at_call 16; ((with_reducible refine (inR1_at _ _ _ _ _ (by simp)).mono ?_); rintro e w1 ⟨rfl, rfl⟩))
      go_ret
      exact ⟨rfl, ((Below.refl _ _).alloc (Nat.le_refl _) _).alloc (by simp) _⟩
    · have e : shareV c k = (c * 100 + k - 1) / k := by unfold shareV; rw [h1, h2]; rfl
      rw [e]
      obtain ⟨a1, a2⟩ := inB_iff.1 h1
      obtain ⟨b1, b2⟩ := inB_iff.1 h2
      have hk : (k == 0) = false := by simp; omega
      clear e
      go_enter Try.func14, Try.ntmps14
      go_wp2_with (go_at_call 16; ((with_reducible refine (inR1_at _ _ _ _ _ (by simp)).mono ?_); rintro e w1 ⟨rfl, rfl⟩))
      go_ret
      exact ⟨rfl, ((Below.refl _ _).alloc (Nat.le_refl _) _).alloc (by simp) _⟩
set_option maxHeartbeats 1000000 in
theorem rshare_any (c k : Int) (w : World) :
    Calls Try.prog 15 #[.int .i64 c, .int .i64 k] w fun e w' => e = .returned (.int .i64 (shareV c k)) ∧ w = w' := by
  unfold shareV
  by_cases h : 0 ≤ c ∧ c ≤ 1099511627776 ∧ 1 ≤ k ∧ k ≤ 1099511627776
  · rw [if_pos (by rw [Bool.and_eq_true, inB_iff, inB_iff]; omega)]
    obtain ⟨a1, a2, b1, b2⟩ := h
    have hk : (k == 0) = false := by simp; omega
    go_enter Try.func15, Try.ntmps15
    go_wp2
    go_ret
    exact ⟨rfl, rfl⟩
  · rw [if_neg (by rw [Bool.and_eq_true, inB_iff, inB_iff]; omega)]
    have h' : c < 0 ∨ (0 ≤ c ∧ 1099511627776 < c) ∨ (0 ≤ c ∧ c ≤ 1099511627776 ∧ k < 1) ∨ (0 ≤ c ∧ c ≤ 1099511627776 ∧ 1 ≤ k ∧ 1099511627776 < k) := by omega
    clear h
    rcases h' with h | ⟨h, h2⟩ | ⟨h, h2, h3⟩ | ⟨h, h2, h3, h4⟩
    all_goals
      go_enter Try.func15, Try.ntmps15
      go_wp2
      go_ret
      exact ⟨rfl, rfl⟩

/-- one cost in a sum, the sum -/
def capC (x : Int) : Int := max 0 (min x 1099511627776)
def totalV (l : List Int) : Int := l.foldl (fun n x => min (n + capC x) 1099511627776) 0
theorem totalV_snoc (l : List Int) (x : Int) : totalV (l ++ [x]) = min (totalV l + capC x) 1099511627776 := by unfold totalV; rw [List.foldl_append]; rfl
theorem capC_bd (x : Int) : 0 ≤ capC x ∧ capC x ≤ 1099511627776 := by unfold capC; omega
theorem totalV_bd (l : List Int) : 0 ≤ totalV l ∧ totalV l ≤ 1099511627776 := by
  have : ∀ (m : List Int) (n : Int), 0 ≤ n → n ≤ 1099511627776 → 0 ≤ m.foldl (fun n x => min (n + capC x) 1099511627776) n ∧ m.foldl (fun n x => min (n + capC x) 1099511627776) n ≤ 1099511627776 := by
    intro m; induction m with
    | nil => intro n h1 h2; exact ⟨h1, h2⟩
    | cons x m ih => intro n h1 h2; rw [List.foldl_cons]; have := capC_bd x; exact ih _ (by omega) (by omega)
  exact this l 0 (by omega) (by omega)
set_option maxHeartbeats 1000000 in
theorem total_any (a : Option Addr) (len cap : Nat) (l : List Int) (w : World) (hs : Sl .i64 w a len cap l) :
    Calls Try.prog 12 #[.slice a len cap] w fun e w' => e = .returned (.int .i64 (totalV l)) ∧ w = w' := by
  obtain ⟨hz, hl, hm, hw, hn, h0⟩ := hs
  clear hw
  unfold maxLen at hm
  rcases h0 with h0 | ⟨b, off, rfl, hlt, hcell⟩
  · subst h0
    obtain rfl : l = [] := List.eq_nil_of_length_eq_zero hz
    go_enter Try.func12, Try.ntmps12
    go_wp2
    refine wp_loop_rounds 1 ?_
    rw [rounds_succ]
    go_wp2
    go_ret
    exact ⟨rfl, rfl⟩
  · have HC := hid hcell
    have HZ := hid hz
    clear hcell hn hlt hz
    go_enter Try.func12, Try.ntmps12
    go_wp2
    go_loop [3, 8] (fun r i => ∃ (k : Nat) (n : Int), k ≤ len ∧ Hid (n = totalV (l.take k)) ∧ i = .int .i64 k ∧ r = .int .i64 n) (fun _ i => len - (intOf i).toNat)
    case atStart => exact ⟨0, 0, Nat.zero_le _, rfl, rfl, rfl⟩
    case round =>
      obtain ⟨k, n, hk, hn, rfl, rfl⟩ := hrel
      have hb : 0 ≤ n ∧ n ≤ 1099511627776 := by rw [hn.out]; exact totalV_bd _
      obtain ⟨n1, n2⟩ := hb
      by_cases hlt : k < len
      · obtain ⟨x, hc, hx⟩ := row_at HC.out k hlt
        have hst : Hid (totalV (l.take (k + 1)) = min (n + capC x) 1099511627776) := by
          show _ = _
          rw [take_snoc' l k (by have := HZ.out; omega), totalV_snoc, ← hn.out, hx.out]
        have key : x ≤ 0 ∨ (0 < x ∧ x < 1099511627776 ∧ n + x < 1099511627776) ∨ (0 < x ∧ x < 1099511627776 ∧ 1099511627776 ≤ n + x) ∨ 1099511627776 ≤ x := by omega
        clear hn hx
        rcases key with h | ⟨h, h2, h3⟩ | ⟨h, h2, h3⟩ | h
        all_goals
          go_wp2
          all_goals
            go_round
            case rel => exact ⟨k + 1, _, by omega, rfl, by go_num, by rw [hst.out]; unfold capC; first | rfl | (congr 1; omega)⟩
            case measure => simp [intOf]; omega
      · go_wp2
        go_ret
        exact ⟨ret_int (by rw [hn.out, List.take_of_length_le (by have := HZ.out; omega)]), rfl⟩
set_option maxHeartbeats 1000000 in
theorem rtotal_any (a : Option Addr) (len cap : Nat) (l : List Int) (w : World) (hs : Sl .i64 w a len cap l) :
    Calls Try.prog 13 #[.slice a len cap] w fun e w' => e = .returned (.int .i64 (totalV l)) ∧ w = w' := by
  obtain ⟨hz, hl, hm, hw, hn, h0⟩ := hs
  clear hw
  unfold maxLen at hm
  rcases h0 with h0 | ⟨b, off, rfl, hlt, hcell⟩
  · subst h0
    obtain rfl : l = [] := List.eq_nil_of_length_eq_zero hz
    go_enter Try.func13, Try.ntmps13
    go_wp2
    refine wp_loop_rounds 1 ?_
    rw [rounds_succ]
    go_wp2
    go_ret
    exact ⟨rfl, rfl⟩
  · have HC := hid hcell
    have HZ := hid hz
    clear hcell hn hlt hz
    go_enter Try.func13, Try.ntmps13
    go_wp2
    go_loop [3, 4] (fun r i => ∃ (k : Nat) (n : Int), k ≤ len ∧ Hid (n = totalV (l.take k)) ∧ i = .int .i64 k ∧ r = .int .i64 n) (fun _ i => len - (intOf i).toNat)
    case atStart => exact ⟨0, 0, Nat.zero_le _, rfl, rfl, rfl⟩
    case round =>
      obtain ⟨k, n, hk, hn, rfl, rfl⟩ := hrel
      have hb : 0 ≤ n ∧ n ≤ 1099511627776 := by rw [hn.out]; exact totalV_bd _
      obtain ⟨n1, n2⟩ := hb
      by_cases hlt : k < len
      · obtain ⟨x, hc, hx⟩ := row_at HC.out k hlt
        have hst : Hid (totalV (l.take (k + 1)) = min (n + capC x) 1099511627776) := by
          show _ = _
          rw [take_snoc' l k (by have := HZ.out; omega), totalV_snoc, ← hn.out, hx.out]
        have key : x ≤ 0 ∨ (0 < x ∧ x < 1099511627776 ∧ n + x < 1099511627776) ∨ (0 < x ∧ x < 1099511627776 ∧ 1099511627776 ≤ n + x) ∨ 1099511627776 ≤ x := by omega
        clear hn hx
        rcases key with h | ⟨h, h2, h3⟩ | ⟨h, h2, h3⟩ | h
        all_goals
          go_wp2
          all_goals
            go_round
            case rel => exact ⟨k + 1, _, by omega, rfl, by go_num, by rw [hst.out]; unfold capC; first | rfl | (congr 1; omega)⟩
            case measure => simp [intOf]; omega
      · go_wp2
        go_ret
        exact ⟨ret_int (by rw [hn.out, List.take_of_length_le (by have := HZ.out; omega)]), rfl⟩
end Go.Proofs.Ytehnkeiejkhocaa
