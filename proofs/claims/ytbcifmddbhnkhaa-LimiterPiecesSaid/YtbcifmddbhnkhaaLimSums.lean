/- The sums that the laws of limiters make. No statement is proved here. -/
import Derived.Test.YtbcifmddbhnkhaaDiceSample
import Derived.Test.YtbcifmddbhnkhaaLimRun
namespace Go.Proofs.Ytbcifmddbhnkhaa
open Go.ChangeShapes Go.WideShapes Go.ChangeAt Go.RowKit
set_option linter.unusedVariables false
set_option linter.unusedSimpArgs false

theorem sample_any (w : World) (d : Nat) (h : DiceAt w d) :
    Calls Try.prog 23 #[.pointer (some ⟨d, 0, none⟩)] w fun e w' => (∃ r : Int, e = .returned (.int .i32 r) ∧ -8388608 ≤ r ∧ r ≤ 8388607) ∧ DiceAt w' d ∧ But d w w' :=
  (sample_dl w d [] w (DL.start h)).mono fun e w' ⟨h1, h2⟩ => ⟨h1, h2.st.dice, h2.st.but⟩
def LSum (l : List Int) : Prop := ∀ s ∈ l, -268435456 ≤ s ∧ s ≤ 268435456
theorem LSum.snoc {l : List Int} {x : Int} (h : LSum l) (h0 : -268435456 ≤ x) (h1 : x ≤ 268435456) : LSum (l ++ [x]) := by
  intro s hs
  rcases List.mem_append.1 hs with hs | hs
  · exact h s hs
  · simp at hs; omega
theorem LSum.wf {l : List Int} (h : LSum l) : ∀ x ∈ l, (Lit.int .i64 x).wf = true := by
  intro x hx
  have := h x hx
  have e : wrap64 x = x := by unfold wrap64; omega
  have h2 := wrap64_wf x
  rw [e] at h2
  exact h2
theorem lit6 {w : World} {G : Nat} {T : TypeId} (h : Blk w G [.int .i64 0, .int .i64 1, .int .i64 1, .int .i64 2, .int .i64 32, .int .i64 (-1)] T) (k : Nat) (hk : k < 6) : ∃ y : Int, w.cell? ⟨G, k, none⟩ = some (.int .i64 y) ∧ (y = 0 ∨ y = 1 ∨ y = 2 ∨ y = 32 ∨ y = -1) := by
  match k, hk with
  | 0, _ => exact ⟨_, h.cell 0 rfl, by omega⟩
  | 1, _ => exact ⟨_, h.cell 1 rfl, by omega⟩
  | 2, _ => exact ⟨_, h.cell 2 rfl, by omega⟩
  | 3, _ => exact ⟨_, h.cell 3 rfl, by omega⟩
  | 4, _ => exact ⟨_, h.cell 4 rfl, by omega⟩
  | 5, _ => exact ⟨_, h.cell 5 rfl, by omega⟩
set_option maxHeartbeats 8000000 in
theorem sums_any (d n : Nat) (w : World) (h : DiceAt w d) (hn : n ≤ 1000) :
    Calls Try.prog 11 #[.pointer (some ⟨d, 0, none⟩), .int .i64 (n : Int)] w fun e w' => ∃ v l, e = .returned v ∧ La w w' (some d) [] 2 1 v n (l.map (Value.int .i64)) ∧ l.length = n ∧ LSum l := by
  have H0 := hid (Lx.startD h)
  clear h
  go_enter Try.func11, Try.ntmps11
  go_wp2
  go_loopw [5, 6] (fun v i wr => ∃ (k : Nat) (l : List Int), k ≤ n ∧ i = .int .i64 k ∧ Hid (La w wr (some d) [] 2 1 v k (l.map (Value.int .i64))) ∧ l.length = k ∧ LSum l) (fun _ i _ => n - (intOf i).toNat)
  case atStart => exact ⟨0, [], by omega, rfl, hid (La.nil H0.out), rfl, fun s hs => (by cases hs)⟩
  case round =>
    obtain ⟨k, l, hk, rfl, hla, hll, hls⟩ := hrel
    clear H0
    have HLS := hid hls
    have HLL := hid hll
    clear hls hll
    by_cases hlt : k < n
    · have hkb : decide ((k : Int) < (n : Int)) = true := by simp; omega
      have hkz : (k : Int) < (n : Int) := by omega
      go_wp2_with fail
      (with_reducible refine (sample_any _ d hla.out.lx.diceAt).mono ?_); rintro e w1 ⟨⟨r, rfl, r0, r1⟩, hk1, hb1⟩; have H1 := hid (hla.out.next hk1 hb1); clear hk1 hb1 hla
      go_wp2_with fail
      have hA : Below w1.heap.size w1 (w1.alloc (Obj.cells #[Value.int IntKind.i64 0, Value.int IntKind.i64 1, Value.int IntKind.i64 1, Value.int IntKind.i64 2, Value.int IntKind.i64 32, Value.int IntKind.i64 (-1)] 3)) := by go_grown
      have H2 := hid (H1.out.kept hA)
      have hB := Blk.alloc_new w1 [Value.int IntKind.i64 0, Value.int IntKind.i64 1, Value.int IntKind.i64 1, Value.int IntKind.i64 2, Value.int IntKind.i64 32, Value.int IntKind.i64 (-1)] 3
      have hdl := H1.out.lx.diceAt.lt
      (with_reducible refine (next_any d 6 (by omega) (by omega) _ H2.out.lx.diceAt).mono ?_); rintro e w2 ⟨⟨j, rfl, j0, j1⟩, hk2, hb2⟩
      have H3 := hid (H2.out.next hk2 hb2)
      have hB2 := hB.only (d := d) ⟨hb2.os, hb2.tape, hb2.output, hb2.size, hb2.block⟩ (by omega)
      clear hk2 hb2 H2 hA hB H1
      generalize w1.heap.size = G at *
      obtain ⟨y, hc, hy⟩ := lit6 hB2 j.toNat (by omega)
      have hc2 : w2.cell? ⟨G, 0 + j.toNat, none⟩ = some (.int .i64 y) := by rw [Nat.zero_add]; exact hc
      have q : -268435456 ≤ r * y ∧ r * y ≤ 268435456 := by rcases hy with rfl | rfl | rfl | rfl | rfl <;> omega
      have u1 : IntKind.i64.wrap (r * y) = r * y := IntWalk.i64_in _ (by omega)
      obtain ⟨q0, q1⟩ := q
      clear hB2 hy
      go_wp2_with (first | (refine wpList_append_la1 rfl _ _ _ rfl .i64 2 (.int .i64 0) 8 Try.underlying24 (by kernel_rfl) rfl _ _ _ H3.out rfl (r * y) rfl (by unfold maxLen; omega) (by omega) ?_; intro v' w' h4))
      go_roundw
      case rel => exact ⟨k + 1, l ++ [r * y], by omega, by go_num, by rw [List.map_append]; exact h4, by rw [List.length_append, HLL.out]; rfl, HLS.out.snoc q0 q1⟩
      case measure => simp [intOf] <;> omega
    · obtain rfl : k = n := by omega
      have hkb : decide ((k : Int) < (k : Int)) = false := by simp
      go_wp2
      go_ret
      exact ⟨_, l, rfl, hla.out, HLL.out, HLS.out⟩
theorem sums_w (d n : Nat) (ni : Int) (w : World) (hni : ni = (n : Int)) (h : DiceAt w d) (hn : n ≤ 1000) :
    Calls Try.prog 11 #[.pointer (some ⟨d, 0, none⟩), .int .i64 ni] w fun e w' => ∃ v l, e = .returned v ∧ La w w' (some d) [] 2 1 v n (l.map (Value.int .i64)) ∧ l.length = n ∧ LSum l := by
  subst hni; exact sums_any d n w h hn
end Go.Proofs.Ytbcifmddbhnkhaa
