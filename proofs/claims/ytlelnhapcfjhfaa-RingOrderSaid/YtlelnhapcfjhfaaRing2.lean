/- Rings: which are valid, their fill, new ones. No statement is proved here. -/
import Derived.Test.YtlelnhapcfjhfaaRing1
namespace Go.Proofs.Ytlelnhapcfjhfaa
open Go.ChangeShapes Go.WideShapes Go.ChangeAt Go.RowKit
set_option linter.unusedVariables false
set_option linter.unusedSimpArgs false

set_option maxHeartbeats 8000000 in
theorem rvalid_ok (C cap f n : Nat) (rd : Int) (a : Option Addr) (c : Nat) (l : List Int) (w : World) (hC : 1 ≤ C ∧ C ≤ 8) (hcap : 1 ≤ cap ∧ cap ≤ 65536) (hrd : 0 ≤ rd) (hf : f ≤ cap) (hwr : rd + f ≤ 1125899906842624) (hn : n = f * C) (hs : Sl .i32 w a n c l) (hl : Smp l) :
    Calls Try.prog 21 #[.agg #[.int .i64 (C : Int), .int .i64 (cap : Int), .int .i64 (rd + f), .int .i64 rd, .slice a n c]] w fun e w' => e = .returned (.bool true) ∧ Below w.heap.size w w' := by
  have cs := hid (fun (w' : World) (hb : Below w.heap.size w w') => svalid_ok C f n hC (by omega) hn a c l w' (hs.below hb) hl)
  have hnC : n = f * C := hn
  obtain ⟨c1, c8⟩ := hC
  obtain ⟨p1, p2⟩ := hcap
  have hqo : ((n : Nat) : Int) / (C : Int) = f := by rw [hn, Int.natCast_mul, Int.mul_ediv_cancel _ (by omega)]
  have hqo2 : ((n : Nat) : Int).tdiv (C : Int) = f := by rw [Int.tdiv_eq_ediv_of_nonneg (by omega), hqo]
  have hlen : n ≤ 524288 := by rw [hn]; exact Nat.le_trans (Nat.mul_le_mul (show f ≤ 65536 by omega) c8) (by omega)
  have c0 : ((C : Int) == 0) = false := by simp; omega
  have c9 : ¬ (C : Int) = 0 := by omega
  have u1 : wrap64 (f : Int) = f := by unfold wrap64; omega
  have d0 : decide ((cap : Int) < 1) = false := decide_eq_false (by omega)
  have d1 : decide (65536 < (cap : Int)) = false := decide_eq_false (by omega)
  have d2 : decide (rd < 0) = false := decide_eq_false (by omega)
  have d3 : decide (rd + (f : Int) < rd) = false := decide_eq_false (by omega)
  have d4 : decide (1125899906842624 < rd + (f : Int)) = false := decide_eq_false (by omega)
  have d5 : decide ((f : Int) ≤ (cap : Int)) = true := decide_eq_true (by omega)
  have u2 : rd + (f : Int) - rd = f := by omega
  have HL0 := hid (Lx.alloc (vs := [.int .i64 (C : Int), .int .i64 (cap : Int), .int .i64 (rd + f), .int .i64 rd, .slice a n c]) (T := 24) (Lx.start w))
  clear hs hl hn hnC
  go_enter Try.func21, Try.ntmps21
  go_wp2_with fail
  (with_reducible refine (cs.out _ HL0.out.below).mono ?_); rintro e w1 ⟨rfl, hb⟩; have HL1 := hid (HL0.out.kept hb); clear hb HL0 cs
  have hL := HL1.out.facts
  simp only [liveAt, cellsAt, and_true, Nat.zero_add, Nat.reduceAdd] at hL
  go_wp2_with fail
  go_ret
  exact ⟨ret_lb (by simp [*]), HL1.out.below⟩
set_option maxHeartbeats 4000000 in
theorem rfill_any (C cap : Int) (f : Nat) (rd : Int) (v : Value) (hv : v.oneCell' = true) (w : World) (hrd : 0 ≤ rd) (hf : f ≤ 65536) (hwr : rd + f ≤ 1125899906842624) : Calls Try.prog 30 #[.agg #[.int .i64 C, .int .i64 cap, .int .i64 (rd + f), .int .i64 rd, v]] w fun e w' => e = .returned (.int .i64 (f : Int)) ∧ Below w.heap.size w w' := by
  have u2 : rd + (f : Int) - rd = f := by omega
  have HL0 := hid (Lx.alloc (vs := [.int .i64 C, .int .i64 cap, .int .i64 (rd + f), .int .i64 rd, v]) (T := 24) (Lx.start w))
  go_enter Try.func30, Try.ntmps30
  go_wp2_with fail
  go_ret
  exact ⟨ret_int (by first | rfl | omega | (simp; omega)), HL0.out.below⟩
set_option maxHeartbeats 4000000 in
theorem rFill_ok (C cap f n : Nat) (rd : Int) (a : Option Addr) (c : Nat) (l : List Int) (w : World) (hC : 1 ≤ C ∧ C ≤ 8) (hcap : 1 ≤ cap ∧ cap ≤ 65536) (hrd : 0 ≤ rd) (hf : f ≤ cap) (hwr : rd + f ≤ 1125899906842624) (hn : n = f * C) (hs : Sl .i32 w a n c l) (hl : Smp l) : Calls Try.prog 23 #[.agg #[.int .i64 (C : Int), .int .i64 (cap : Int), .int .i64 (rd + f), .int .i64 rd, .slice a n c]] w fun e w' => e = .returned (.int .i64 (f : Int)) ∧ Below w.heap.size w w' := by
  have cv := hid (fun (w' : World) (hb : Below w.heap.size w w') => rvalid_ok C cap f n rd a c l w' hC hcap hrd hf hwr hn (hs.below hb) hl)
  have cf := hid (fun (w' : World) => rfill_any C cap f rd (.slice a n c) rfl w' hrd (by omega) hwr)
  have HL0 := hid (Lx.alloc (vs := [.int .i64 (C : Int), .int .i64 (cap : Int), .int .i64 (rd + f), .int .i64 rd, .slice a n c]) (T := 24) (Lx.start w))
  clear hs hl hn
  go_enter Try.func23, Try.ntmps23
  go_wp2_with fail
  (with_reducible refine (cv.out _ HL0.out.below).mono ?_); rintro e w1 ⟨rfl, hb⟩; have HL1 := hid (HL0.out.kept hb); clear hb HL0 cv
  have hL := HL1.out.facts
  simp only [liveAt, cellsAt, and_true, Nat.zero_add, Nat.reduceAdd] at hL
  go_wp2_with fail
  (with_reducible refine (cf.out _).mono ?_); rintro e w2 ⟨rfl, hb⟩; have HL2 := hid (HL1.out.kept hb); clear hb HL1 cf hL
  go_wp2_with fail
  go_ret
  exact ⟨rfl, HL2.out.below⟩
set_option maxHeartbeats 4000000 in
theorem rnew_ok (C cap : Nat) (hC : 1 ≤ C ∧ C ≤ 8) (hcap : 1 ≤ cap ∧ cap ≤ 65536) (w : World) : Calls Try.prog 25 #[.int .i64 (C : Int), .int .i64 (cap : Int)] w fun e w' => e = .returned (.tuple #[.agg #[.int .i64 (C : Int), .int .i64 (cap : Int), .int .i64 0, .int .i64 0, .slice none 0 0], .int .i64 0]) ∧ Below w.heap.size w w' := by
  have cv := hid (fun (w' : World) => rvalid_ok C cap 0 0 0 none 0 [] w' hC hcap (by omega) (by omega) (by omega) (by simp) (sl_nil _ _) (fun s hs => (by cases hs)))
  simp only [Int.natCast_zero, Int.add_zero] at cv
  have HL0 := hid (Lx.alloc (vs := [.int .i64 (C : Int), .int .i64 (cap : Int), .int .i64 0, .int .i64 0, .slice none 0 0]) (T := 24) (Lx.alloc (vs := [.int .i64 0, .int .i64 0, .int .i64 0, .int .i64 0, .slice none 0 0]) (T := 24) (Lx.start w)))
  go_enter Try.func25, Try.ntmps25
  go_wp2_with fail
  (with_reducible refine (cv.out _).mono ?_); rintro e w1 ⟨rfl, hb⟩; have HL1 := hid (HL0.out.kept hb); clear hb HL0 cv
  have hL := HL1.out.facts
  simp only [liveAt, cellsAt, and_true, Nat.zero_add, Nat.reduceAdd, World.size_alloc] at hL
  have hf := ((((HL1.out.set 1 0 (.int .i64 (C : Int)) rfl).set 1 1 (.int .i64 (cap : Int)) rfl).set 1 2 (.int .i64 0) rfl).set 1 3 (.int .i64 0) rfl).set 1 4 (.slice none 0 0) rfl
  have HF := hid hf.below
  clear hf
  go_wp2_with fail
  refine bodyPost_ret (by simp [results, Try.results25, go_sem, *]; rfl) rfl ?_
  exact ⟨rfl, HF.out⟩
end Go.Proofs.Ytlelnhapcfjhfaa
