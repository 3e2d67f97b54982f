/- Rings of one channel that hold the numbers from o + 1 on; the sanity of the laws of rings. No statement is proved here. -/
import Derived.Test.YtlelnhapcfjhfaaRing4
import Derived.Deep.DeepCutAuto
namespace Go.Proofs.Ytlelnhapcfjhfaa
open Go.ChangeShapes Go.WideShapes Go.ChangeAt Go.RowKit
set_option linter.unusedVariables false
set_option linter.unusedSimpArgs false

/-- the frames after o -/
def frm (o f : Nat) : List Int := (List.range f).map (fun j => ((o + j + 1 : Nat) : Int))
theorem frm_len (o f : Nat) : (frm o f).length = f := by simp [frm]
theorem frm_get (o f j : Nat) : (frm o f)[j]? = if j < f then some ((o + j + 1 : Nat) : Int) else none := by
  unfold frm
  rw [List.getElem?_map]
  by_cases h : j < f
  · rw [List.getElem?_range h, if_pos h]; rfl
  · rw [List.getElem?_eq_none (by simp; omega), if_neg h]; rfl
theorem frm_app (o f k i : Nat) (hi : i = o + f) : frm o f ++ frm i k = frm o (f + k) := by
  subst hi
  apply List.ext_getElem?
  intro j
  rw [frm_get]
  by_cases h : j < f
  · rw [List.getElem?_append_left (by rw [frm_len]; exact h), frm_get, if_pos h, if_pos (by omega)]
  · rw [List.getElem?_append_right (by rw [frm_len]; omega), frm_len, frm_get]
    by_cases h2 : j < f + k
    · rw [if_pos (by omega), if_pos h2]; congr 2; omega
    · rw [if_neg (by omega), if_neg h2]
theorem frm_take (o f k : Nat) (hk : k ≤ f) : (frm o f).take k = frm o k := by
  apply List.ext_getElem?
  intro j
  rw [List.getElem?_take, frm_get, frm_get]
  by_cases h : j < k
  · rw [if_pos h, if_pos h, if_pos (by omega)]
  · rw [if_neg h, if_neg h]
theorem frm_drop (o f k : Nat) (hk : k ≤ f) : (frm o f).drop k = frm (o + k) (f - k) := by
  apply List.ext_getElem?
  intro j
  rw [List.getElem?_drop, frm_get, frm_get]
  by_cases h : k + j < f
  · rw [if_pos h, if_pos (by omega)]; congr 2; omega
  · rw [if_neg h, if_neg (by omega)]
theorem frm_smp (o f : Nat) (h : o + f ≤ 100000) : Smp (frm o f) := by
  intro s hs
  obtain ⟨j, hj⟩ := List.mem_iff_getElem?.1 hs
  rw [frm_get] at hj
  by_cases h2 : j < f
  · rw [if_pos h2] at hj; cases hj; omega
  · rw [if_neg h2] at hj; cases hj
/-- what a reading gives: frames, then silence -/
def fro (o k n : Nat) : List Int := frm o k ++ List.replicate (n - k) (0 : Int)
theorem fro_get (o k n j : Nat) (hk : k ≤ n) (hj : j < n) : (fro o k n)[j]? = some (if j < k then ((o + j + 1 : Nat) : Int) else 0) := by
  unfold fro
  by_cases h : j < k
  · rw [List.getElem?_append_left (by rw [frm_len]; exact h), frm_get, if_pos h, if_pos h]
  · rw [List.getElem?_append_right (by rw [frm_len]; omega), frm_len, List.getElem?_replicate, if_pos (by omega), if_neg h]
theorem ord_write (cap i o f n k cb c : Nat) (a p : Option Addr) (w : World) (hcap : 1 ≤ cap ∧ cap ≤ 20) (hi : i = o + f) (hb : i ≤ 1000) (hf : f ≤ cap) (hn : n ≤ 15) (hs : Sl .i32 w a f c (frm o f)) (hp : Sl .i32 w p n cb (frm i n)) (hk : k = min n (cap - f)) :
    Calls Try.prog 13 #[.agg #[.int .i64 1, .int .i64 (cap : Int), .int .i64 (i : Int), .int .i64 (o : Int), .slice a f c], .agg #[.int .i64 1, .slice p n cb]] w fun e w' => ∃ (G : Nat) (i' : Int) (lost : Int), i' = (i : Int) + k ∧ lost = (n : Int) - k ∧ e = .returned (.tuple #[.agg #[.int .i64 1, .int .i64 (cap : Int), .int .i64 i', .int .i64 (o : Int), .slice (some ⟨G, 0, none⟩) (f + k) (f + k)], .int .i64 lost, .int .i64 0]) ∧ Blk w' G ((frm o (f + k)).map (Value.int .i32)) 21 ∧ w.heap.size ≤ G ∧ Below w.heap.size w w' := by
  have hkn : k ≤ n := by omega
  have h := rwrite_ok 1 cap f f (o : Int) a c (frm o f) n n p cb (frm i n) k w (by omega) (by omega) (by omega) hf (by omega) (by omega) hs (frm_smp o f (by omega)) (by omega) (by omega) hp (frm_smp i n (by omega)) hk (by omega)
  rw [Nat.mul_one, frm_take i n k hkn, frm_app o f k i hi, show (o : Int) + (f : Int) = (i : Int) by omega] at h
  refine h.mono ?_
  rintro e w' ⟨G, e1, e2, e3, e4⟩
  exact ⟨G, _, _, rfl, rfl, e1, e2, e3, e4⟩
theorem ord_read (cap i o f n k c : Nat) (a : Option Addr) (w : World) (hcap : 1 ≤ cap ∧ cap ≤ 20) (hi : i = o + f) (hb : i ≤ 1000) (hf : f ≤ cap) (hn : n ≤ 15) (hs : Sl .i32 w a f c (frm o f)) (hk : k = min n f) :
    Calls Try.prog 16 #[.agg #[.int .i64 1, .int .i64 (cap : Int), .int .i64 (i : Int), .int .i64 (o : Int), .slice a f c], .int .i64 (n : Int)] w fun e w' => ∃ (O G : Nat) (o' : Int) (miss : Int), o' = (o : Int) + k ∧ miss = (n : Int) - k ∧ e = .returned (.tuple #[.agg #[.int .i64 1, .slice (some ⟨O, 0, none⟩) n n], .int .i64 miss, .agg #[.int .i64 1, .int .i64 (cap : Int), .int .i64 (i : Int), .int .i64 o', .slice (some ⟨G, 0, none⟩) (f - k) (f - k)], .int .i64 0]) ∧ Blk w' O ((fro o k n).map (Value.int .i32)) 21 ∧ Blk w' G ((frm (o + k) (f - k)).map (Value.int .i32)) 21 ∧ w.heap.size ≤ O ∧ w.heap.size ≤ G ∧ O ≠ G ∧ Below w.heap.size w w' := by
  have hkn : k ≤ n := by omega
  have hkf : k ≤ f := by omega
  have h := rread_ok 1 cap f f (o : Int) a c (frm o f) n k n w (by omega) (by omega) (by omega) hf (by omega) (by omega) hs (frm_smp o f (by omega)) (by omega) hk (by omega)
  rw [Nat.mul_one, frm_take o f k hkf, frm_drop o f k hkf, show (o : Int) + (f : Int) = (i : Int) by omega] at h
  refine h.mono ?_
  rintro e w' ⟨O, G, e1, e2, e3, e4, e5, e6, e7⟩
  exact ⟨O, G, _, _, rfl, rfl, e1, e2, e3, e4, e5, e6, e7⟩
theorem ord_fill (cap i o f c : Nat) (a : Option Addr) (w : World) (hcap : 1 ≤ cap ∧ cap ≤ 20) (hi : i = o + f) (hb : i ≤ 1000) (hf : f ≤ cap) (hs : Sl .i32 w a f c (frm o f)) :
    Calls Try.prog 23 #[.agg #[.int .i64 1, .int .i64 (cap : Int), .int .i64 (i : Int), .int .i64 (o : Int), .slice a f c]] w fun e w' => e = .returned (.int .i64 (f : Int)) ∧ Below w.heap.size w w' := by
  have h := rFill_ok 1 cap f f (o : Int) a c (frm o f) w (by omega) (by omega) (by omega) hf (by omega) (by omega) hs (frm_smp o f (by omega))
  rw [show (o : Int) + (f : Int) = (i : Int) by omega] at h
  exact h
theorem ord_valid (cap i o f c : Nat) (a : Option Addr) (w : World) (hcap : 1 ≤ cap ∧ cap ≤ 20) (hi : i = o + f) (hb : i ≤ 1000) (hf : f ≤ cap) (hs : Sl .i32 w a f c (frm o f)) :
    Calls Try.prog 21 #[.agg #[.int .i64 1, .int .i64 (cap : Int), .int .i64 (i : Int), .int .i64 (o : Int), .slice a f c]] w fun e w' => e = .returned (.bool true) ∧ Below w.heap.size w w' := by
  have h := rvalid_ok 1 cap f f (o : Int) a c (frm o f) w (by omega) (by omega) (by omega) hf (by omega) (by omega) hs (frm_smp o f (by omega))
  rw [show (o : Int) + (f : Int) = (i : Int) by omega] at h
  exact h
theorem ord_new (cap : Nat) (hcap : 1 ≤ cap ∧ cap ≤ 20) (w : World) : Calls Try.prog 25 #[.int .i64 1, .int .i64 (cap : Int)] w fun e w' => e = .returned (.tuple #[.agg #[.int .i64 1, .int .i64 (cap : Int), .int .i64 0, .int .i64 0, .slice none 0 0], .int .i64 0]) ∧ Below w.heap.size w w' := by
  have h := rnew_ok 1 cap (by omega) (by omega) w
  exact h
theorem san_new (w : World) : Calls Try.prog 25 #[.int .i64 1, .int .i64 2] w fun e w' => e = .returned (.tuple #[.agg #[.int .i64 1, .int .i64 2, .int .i64 0, .int .i64 0, .slice none 0 0], .int .i64 0]) ∧ Below w.heap.size w w' := ord_new 2 (by omega) w
theorem san_write (p : Option Addr) (w : World) (hp : Sl .i32 w p 3 3 [1, 2, 3]) :
    Calls Try.prog 13 #[.agg #[.int .i64 1, .int .i64 2, .int .i64 0, .int .i64 0, .slice none 0 0], .agg #[.int .i64 1, .slice p 3 3]] w fun e w' => ∃ (G : Nat), e = .returned (.tuple #[.agg #[.int .i64 1, .int .i64 2, .int .i64 2, .int .i64 0, .slice (some ⟨G, 0, none⟩) 2 2], .int .i64 1, .int .i64 0]) ∧ Blk w' G ([1, 2].map (Value.int .i32)) 21 ∧ w.heap.size ≤ G ∧ Below w.heap.size w w' := by
  have h := ord_write 2 0 0 0 3 2 3 0 none p w (by omega) rfl (by omega) (by omega) (by omega) (sl_nil _ _) hp (by omega)
  refine h.mono ?_
  rintro e w' ⟨G, i', lost, rfl, rfl, e1, e2, e3, e4⟩
  exact ⟨G, e1, e2, e3, e4⟩
theorem san_read (p : Option Addr) (w : World) (hp : Sl .i32 w p 2 2 [1, 2]) :
    Calls Try.prog 16 #[.agg #[.int .i64 1, .int .i64 2, .int .i64 2, .int .i64 0, .slice p 2 2], .int .i64 3] w fun e w' => ∃ (O : Nat) (v : Value), e = .returned (.tuple #[.agg #[.int .i64 1, .slice (some ⟨O, 0, none⟩) 3 3], .int .i64 1, v, .int .i64 0]) ∧ (∃ G : Nat, v = .agg #[.int .i64 1, .int .i64 2, .int .i64 2, .int .i64 2, .slice (some ⟨G, 0, none⟩) 0 0]) ∧ Blk w' O ([1, 2, 0].map (Value.int .i32)) 21 ∧ w.heap.size ≤ O ∧ Below w.heap.size w w' := by
  have h := ord_read 2 2 0 2 3 2 2 p w (by omega) rfl (by omega) (by omega) (by omega) hp (by omega)
  refine h.mono ?_
  rintro e w' ⟨O, G, i', lost, rfl, rfl, e1, e2, e3, e4, e5, e6, e7⟩
  exact ⟨O, _, e1, ⟨G, rfl⟩, e2, e4, e7⟩
theorem san_fill (p : Option Addr) (w : World) (hp : Sl .i32 w p 2 2 [1, 2]) :
    Calls Try.prog 23 #[.agg #[.int .i64 1, .int .i64 2, .int .i64 2, .int .i64 0, .slice p 2 2]] w fun e w' => e = .returned (.int .i64 2) ∧ Below w.heap.size w w' :=
  ord_fill 2 2 0 2 2 p w (by omega) rfl (by omega) (by omega) hp
theorem san_valid (p : Option Addr) (w : World) (hp : Sl .i32 w p 2 2 [1, 2]) :
    Calls Try.prog 21 #[.agg #[.int .i64 1, .int .i64 2, .int .i64 2, .int .i64 0, .slice p 2 2]] w fun e w' => e = .returned (.bool true) ∧ Below w.heap.size w w' :=
  ord_valid 2 2 0 2 2 p w (by omega) rfl (by omega) (by omega) hp
theorem frm_snoc (i k : Nat) : frm i (k + 1) = frm i k ++ [(i : Int) + (k : Int) + 1] := by
  rw [← frm_app i k 1 (i + k) rfl]
  simp [frm]
theorem la_box {W w : World} {D : Option Nat} {L : List (Nat × List Value × TypeId)} {b : Nat} {u V V' : Value} {T e : TypeId} {sz n : Nat} {xs : List Value} (h : La W w D ((b, [u, V], T) :: L) e sz V' n xs) : La W (w.setCell ⟨b, 1, none⟩ V') D ((b, [u, V'], T) :: L) e sz V' n xs :=
  h.onlySet 0 rfl (only_set w b 1 V') ((h.lx.set 0 1 V' rfl).blk 0 rfl)
theorem ord_arith (i o f q k cap x len : Nat) (hi : i = o + f) (hf : f ≤ cap) (hix : i ≤ 15 * x) (hk : k ≤ 15) (hq : q = min k (cap - f)) (hlt : x < len) (hlen : len ≤ 40) : i + q = o + (f + q) ∧ f + q ≤ cap ∧ i + q ≤ 15 * (x + 1) ∧ x + 1 ≤ len ∧ o + (f + q) ≤ 100000 ∧ f + q ≤ maxLen := by
  have h1 : q ≤ k := by rw [hq]; exact Nat.min_le_left _ _
  have h2 : q ≤ cap - f := by rw [hq]; exact Nat.min_le_right _ _
  clear hq
  unfold maxLen
  refine ⟨?_, ?_, ?_, ?_, ?_, ?_⟩ <;> omega
theorem far1 {G B : Nat} (h : G ≠ B) : ∀ ad : Addr, some (⟨G, 0, none⟩ : Addr) = some ad → ad.block ∉ [B] := by
  intro ad e; cases e; simpa using h
/-- five cells stored -/
theorem Lx.set5 {W w : World} {D : Option Nat} {L : List (Nat × List Value × TypeId)} (h : Lx W w D L) (i : Nat) {b : Nat} {u0 u1 u2 u3 u4 : Value} (v0 v1 v2 v3 v4 : Value) {T : TypeId} (hi : L[i]? = some (b, [u0, u1, u2, u3, u4], T)) : Lx W (((((w.setCell ⟨b, 0, none⟩ v0).setCell ⟨b, 1, none⟩ v1).setCell ⟨b, 2, none⟩ v2).setCell ⟨b, 3, none⟩ v3).setCell ⟨b, 4, none⟩ v4) D (L.set i (b, [v0, v1, v2, v3, v4], T)) := by
  have hl : i < L.length := (List.getElem?_eq_some_iff.1 hi).1
  have h0 := h.set i 0 v0 hi
  have h1 := h0.set i 1 v1 (List.getElem?_set_self hl)
  rw [List.set_set] at h1
  have h2 := h1.set i 2 v2 (List.getElem?_set_self hl)
  rw [List.set_set] at h2
  have h3 := h2.set i 3 v3 (List.getElem?_set_self hl)
  rw [List.set_set] at h3
  have h4 := h3.set i 4 v4 (List.getElem?_set_self hl)
  rw [List.set_set] at h4
  exact h4
theorem only_set5 (w : World) (b : Nat) (v0 v1 v2 v3 v4 : Value) : Only b w (((((w.setCell ⟨b, 0, none⟩ v0).setCell ⟨b, 1, none⟩ v1).setCell ⟨b, 2, none⟩ v2).setCell ⟨b, 3, none⟩ v3).setCell ⟨b, 4, none⟩ v4) :=
  ((((only_set _ _ _ _).trans (only_set _ _ _ _)).trans (only_set _ _ _ _)).trans (only_set _ _ _ _)).trans (only_set _ _ _ _)
end Go.Proofs.Ytlelnhapcfjhfaa
