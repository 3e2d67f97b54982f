/- What the product of two ratios is. -/
import Derived.Test.YtkdlpbpaoemcaaaRatioLaws
import Derived.Outline
namespace Go.Proofs.Ytkdlpbpaoemcaaa
open Go.ChangeShapes Go.WideShapes Go.ChangeAt Go.RowKit
set_option linter.unusedVariables false
set_option linter.unusedSimpArgs false

def termP (x y : Int) : Int × Bool := if x * y ≤ 68719476736 then (x * y, true) else (0, false)
theorem hi_lo {P : Int} (h : 0 ≤ P) : (P / 18446744073709551616 = 0 ∧ P % 18446744073709551616 ≤ 68719476736) ↔ P ≤ 68719476736 := by omega
set_option maxHeartbeats 1000000 in
theorem term_any (x y : Int) (hx : 0 ≤ x) (hx2 : x < 9223372036854775808) (hy : 0 ≤ y) (hy2 : y < 9223372036854775808) (w : World) :
    Calls Try.prog 32 #[.int .i64 x, .int .i64 y] w fun e w' => e = .returned (.tuple #[.int .i64 (termP x y).1, .bool (termP x y).2]) ∧ w = w' := by
  have m := hid (fun w => product_any x y hx hx2 hy hy2 w)
  have p0 : 0 ≤ x * y := Int.mul_nonneg hx hy
  unfold termP
  generalize x * y = P at *
  by_cases h : P ≤ 68719476736
  · rw [if_pos h]
    have e1 : P / 18446744073709551616 = 0 := by omega
    have e2 : P % 18446744073709551616 = P := by omega
    rw [e1, e2] at m
    go_enter Try.func32, Try.ntmps32
    go_wp2_with (go_at_call 33; (with_reducible refine (m.out _).mono ?_); rintro e w3 ⟨rfl, rfl⟩)
    all_goals go_ret2
    all_goals first
      | exact ⟨rfl, rfl⟩
      | (exfalso; (try simp only [decide_eq_true_eq, decide_eq_false_iff_not] at *); omega)
      | trace_state
  · rw [if_neg h]
    have hh := hid (hi_lo p0)
    have hn : ¬ (P / 18446744073709551616 = 0 ∧ P % 18446744073709551616 ≤ 68719476736) := fun q => h (hh.out.1 q)
    generalize P / 18446744073709551616 = PH at *
    generalize P % 18446744073709551616 = PL at *
    clear h
    go_enter Try.func32, Try.ntmps32
    go_wp2_with (go_at_call 33; (with_reducible refine (m.out _).mono ?_); rintro e w3 ⟨rfl, rfl⟩)
    all_goals go_ret2
    all_goals first
      | exact ⟨rfl, rfl⟩
      | (exfalso; (try simp only [decide_eq_true_eq, decide_eq_false_iff_not, bne_iff_ne, ne_eq, bne_eq_false_iff_eq] at *); omega)
      | trace_state
def mulV (an ad bn bd : Int) : (Int × Int) × Int :=
  if (termP (an / Int.gcd an bd) (bn / Int.gcd bn ad)).2 = true ∧ (termP (ad / Int.gcd bn ad) (bd / Int.gcd an bd)).2 = true then (((termP (an / Int.gcd an bd) (bn / Int.gcd bn ad)).1, (termP (ad / Int.gcd bn ad) (bd / Int.gcd an bd)).1), 0) else ((0, 0), 2)
theorem termP_comm (x y : Int) : termP x y = termP y x := by unfold termP; rw [Int.mul_comm]
theorem mulV_comm (an ad bn bd : Int) : mulV an ad bn bd = mulV bn bd an ad := by
  unfold mulV
  rw [termP_comm (an / Int.gcd an bd), termP_comm (ad / Int.gcd bn ad)]
theorem mulV_inv (n d : Int) (hn : 1 ≤ n) (hd : 1 ≤ d) : mulV n d d n = ((1, 1), 0) := by
  unfold mulV
  have e1 : ((Int.gcd n n : Nat) : Int) = n := by rw [Int.gcd_self]; omega
  have e2 : ((Int.gcd d d : Nat) : Int) = d := by rw [Int.gcd_self]; omega
  rw [e1, e2, Int.ediv_self (by omega), Int.ediv_self (by omega)]
  rfl
theorem quot2 {a b g : Int} (ha : 1 ≤ a) (hg : g = Int.gcd a b) : 1 ≤ g ∧ 0 ≤ a / g ∧ a / g ≤ a ∧ a.tdiv g = a / g := by
  have h := gcd_pos (b := b) ha
  subst hg
  exact ⟨h, Int.ediv_nonneg (by omega) (by omega), Int.ediv_le_self _ (by omega), Int.tdiv_eq_ediv_of_nonneg (by omega)⟩
theorem s4_of {w w' : World} {B : Nat} {an ad bn bd : Int} (h : Lv w w' [(B + 1 + 1, [.int .i64 0, .int .i64 0], 23), (B + 1, [.int .i64 bn, .int .i64 bd], 23), (B, [.int .i64 an, .int .i64 ad], 23)]) : w'.cell? ⟨B, 0, none⟩ = some (.int .i64 an) ∧ w'.cell? ⟨B, 1, none⟩ = some (.int .i64 ad) ∧ w'.cell? ⟨B + 1, 0, none⟩ = some (.int .i64 bn) ∧ w'.cell? ⟨B + 1, 1, none⟩ = some (.int .i64 bd) ∧ Lv w w' [(B + 1 + 1, [.int .i64 0, .int .i64 0], 23), (B + 1, [.int .i64 bn, .int .i64 bd], 23), (B, [.int .i64 an, .int .i64 ad], 23)] := by
  have b2 := h.live.2.1
  have b3 := h.live.2.2.1
  have f : ∀ {b : Nat} {vs : List Value} {T : TypeId} (hb : w'.heap[b]? = some (.cells vs.toArray T (0, 0))) (i : Nat) {v : Value}, vs[i]? = some v → w'.cell? ⟨b, i, none⟩ = some v := by intro b vs T hb i v hv; exact (cell_of_row w' b i _ T (0, 0) hb).trans (by simpa using hv)
  exact ⟨f b3 0 rfl, f b3 1 rfl, f b2 0 rfl, f b2 1 rfl, h⟩
theorem keep4 {P : Program} {f : FuncId} {args : Array Value} {w W : World} {v : Value} {B : Nat} {an ad bn bd : Int}
    (hc : Calls P f args w fun e w' => e = .returned v ∧ Below w.heap.size w w') (hS : w.cell? ⟨B, 0, none⟩ = some (.int .i64 an) ∧ w.cell? ⟨B, 1, none⟩ = some (.int .i64 ad) ∧ w.cell? ⟨B + 1, 0, none⟩ = some (.int .i64 bn) ∧ w.cell? ⟨B + 1, 1, none⟩ = some (.int .i64 bd) ∧ Lv W w [(B + 1 + 1, [.int .i64 0, .int .i64 0], 23), (B + 1, [.int .i64 bn, .int .i64 bd], 23), (B, [.int .i64 an, .int .i64 ad], 23)]) :
    Calls P f args w fun e w' => e = .returned v ∧ w'.cell? ⟨B, 0, none⟩ = some (.int .i64 an) ∧ w'.cell? ⟨B, 1, none⟩ = some (.int .i64 ad) ∧ w'.cell? ⟨B + 1, 0, none⟩ = some (.int .i64 bn) ∧ w'.cell? ⟨B + 1, 1, none⟩ = some (.int .i64 bd) ∧ Lv W w' [(B + 1 + 1, [.int .i64 0, .int .i64 0], 23), (B + 1, [.int .i64 bn, .int .i64 bd], 23), (B, [.int .i64 an, .int .i64 ad], 23)] :=
  hc.mono fun e w' ⟨h1, h2⟩ => ⟨h1, s4_of (hS.2.2.2.2.kept h2)⟩
theorem keep4s {P : Program} {f : FuncId} {args : Array Value} {w W : World} {v : Value} {B : Nat} {an ad bn bd : Int}
    (hc : Calls P f args w fun e w' => e = .returned v ∧ w = w') (hS : w.cell? ⟨B, 0, none⟩ = some (.int .i64 an) ∧ w.cell? ⟨B, 1, none⟩ = some (.int .i64 ad) ∧ w.cell? ⟨B + 1, 0, none⟩ = some (.int .i64 bn) ∧ w.cell? ⟨B + 1, 1, none⟩ = some (.int .i64 bd) ∧ Lv W w [(B + 1 + 1, [.int .i64 0, .int .i64 0], 23), (B + 1, [.int .i64 bn, .int .i64 bd], 23), (B, [.int .i64 an, .int .i64 ad], 23)]) :
    Calls P f args w fun e w' => e = .returned v ∧ w'.cell? ⟨B, 0, none⟩ = some (.int .i64 an) ∧ w'.cell? ⟨B, 1, none⟩ = some (.int .i64 ad) ∧ w'.cell? ⟨B + 1, 0, none⟩ = some (.int .i64 bn) ∧ w'.cell? ⟨B + 1, 1, none⟩ = some (.int .i64 bd) ∧ Lv W w' [(B + 1 + 1, [.int .i64 0, .int .i64 0], 23), (B + 1, [.int .i64 bn, .int .i64 bd], 23), (B, [.int .i64 an, .int .i64 ad], 23)] :=
  hc.mono fun e w' ⟨h1, h2⟩ => ⟨h1, h2 ▸ hS⟩
set_option maxRecDepth 100000 in
set_option maxHeartbeats 8000000 in
theorem mul_any (an ad bn bd : Int) (h1 : ratV an ad = true) (h2 : ratV bn bd = true) (w : World) :
    Calls Try.prog 16 #[.agg #[.int .i64 an, .int .i64 ad], .agg #[.int .i64 bn, .int .i64 bd]] w fun e w' => e = .returned (.tuple #[.agg #[.int .i64 (mulV an ad bn bd).1.1, .int .i64 (mulV an ad bn bd).1.2], .int .i64 (mulV an ad bn bd).2]) ∧ Below w.heap.size w w' := by
  obtain ⟨⟨n1, n2⟩, ⟨d1, d2⟩, _⟩ := ratV_true.1 h1
  obtain ⟨⟨n3, n4⟩, ⟨d3, d4⟩, _⟩ := ratV_true.1 h2
  have c1 := hid (fun w => ratv_any an ad w)
  rw [h1] at c1
  have c2 := hid (fun w => ratv_any bn bd w)
  rw [h2] at c2
  have c3 := hid (fun w => divisor_any an bd (by omega) (by omega) (by omega) (by omega) w)
  have c4 := hid (fun w => divisor_any bn ad (by omega) (by omega) (by omega) (by omega) w)
  obtain ⟨g1, x1, x2, x3⟩ := quot2 (a := an) (b := bd) n1 rfl
  obtain ⟨g2, x4, x5, x6⟩ := quot2 (a := bn) (b := ad) n3 rfl
  obtain ⟨_, x7, x8, x9⟩ := quot2 (a := ad) (b := bn) d1 rfl
  obtain ⟨_, y1, y2, y3⟩ := quot2 (a := bd) (b := an) d3 rfl
  rw [Int.gcd_comm ad bn] at x7 x8 x9
  rw [Int.gcd_comm bd an] at y1 y2 y3
  have c5 := hid (fun w => term_any (an / Int.gcd an bd) (bn / Int.gcd bn ad) (by omega) (by omega) (by omega) (by omega) w)
  have c6 := hid (fun w => term_any (ad / Int.gcd bn ad) (bd / Int.gcd an bd) (by omega) (by omega) (by omega) (by omega) w)
  unfold mulV
  generalize (termP (an / Int.gcd an bd) (bn / Int.gcd bn ad)).1 = P at *
  generalize (termP (ad / Int.gcd bn ad) (bd / Int.gcd an bd)).1 = Q at *
  generalize (termP (an / Int.gcd an bd) (bn / Int.gcd bn ad)).2 = p at *
  generalize (termP (ad / Int.gcd bn ad) (bd / Int.gcd an bd)).2 = q at *
  generalize hM : (if p = true ∧ q = true then ((P, Q), (0 : Int)) else ((0, 0), 2)) = M
  have HM := hid hM
  clear hM
  generalize ((Int.gcd an bd : Nat) : Int) = G at *
  generalize ((Int.gcd bn ad : Nat) : Int) = H at *
  generalize an / G = X1 at *
  generalize bn / H = X2 at *
  generalize ad / H = X3 at *
  generalize bd / G = X4 at *
  have z1 : (G == 0) = false := by simp; omega
  have z2 : ¬ G = 0 := by omega
  have z3 : (H == 0) = false := by simp; omega
  have z4 : ¬ H = 0 := by omega
  have u1 : IntKind.i64.wrap X1 = X1 := IntWalk.i64_in _ (by omega)
  have u2 : IntKind.i64.wrap X2 = X2 := IntWalk.i64_in _ (by omega)
  have u3 : IntKind.i64.wrap X3 = X3 := IntWalk.i64_in _ (by omega)
  have u4 : IntKind.i64.wrap X4 = X4 := IntWalk.i64_in _ (by omega)
  have v1 : wrap64 X1 = X1 := by simp only [wrap64]; omega
  have v2 : wrap64 X2 = X2 := by simp only [wrap64]; omega
  have v3 : wrap64 X3 = X3 := by simp only [wrap64]; omega
  have v4 : wrap64 X4 = X4 := by simp only [wrap64]; omega
  clear h1 h2 n1 n2 n3 n4 d1 d2 d3 d4 g1 g2 x1 x2 x4 x5 x7 x8 y1 y2
  go_enter Try.func16, Try.ntmps16
  go_wp2_with fail
  (with_reducible refine (c1.out _).mono ?_); rintro e w1 ⟨rfl, hb⟩; have HL := hid (Lv.kept (Lv.alloc (vs := [.int .i64 0, .int .i64 0]) (T := 23) (Lv.alloc (vs := [.int .i64 bn, .int .i64 bd]) (T := 23) (Lv.alloc (vs := [.int .i64 an, .int .i64 ad]) (T := 23) (Lv.start w)))) hb); clear hb
  have hL := HL.out.facts
  simp only [liveAt, cellsAt, and_true, Nat.zero_add, Nat.reduceAdd, World.size_alloc] at hL
  go_wp2_with fail
  (with_reducible refine (c2.out _).mono ?_); rintro e w2 ⟨rfl, hb⟩; have HL2 := hid (HL.out.kept hb); clear hb hL HL
  have hL := HL2.out.facts
  simp only [liveAt, cellsAt, and_true, Nat.zero_add, Nat.reduceAdd, World.size_alloc] at hL
  have hl := HL2.out
  simp only [World.size_alloc] at hl
  clear HL2
  have hz := hl.drop.drop.lt
  generalize hB : w.heap.size = B at hl hL
  go_wp2_with fail
  have hS := s4_of hl.drew
  clear hl hL
  go_region_held3 (fun w' => w'.cell? ⟨B, 0, none⟩ = some (.int .i64 an) ∧ w'.cell? ⟨B, 1, none⟩ = some (.int .i64 ad) ∧ w'.cell? ⟨B + 1, 0, none⟩ = some (.int .i64 bn) ∧ w'.cell? ⟨B + 1, 1, none⟩ = some (.int .i64 bd) ∧ Lv w w' [(B + 1 + 1, [.int .i64 0, .int .i64 0], 23), (B + 1, [.int .i64 bn, .int .i64 bd], 23), (B, [.int .i64 an, .int .i64 ad], 23)]) (assumption) (first
    | (go_at_call 28; (with_reducible refine (keep4 (c3.out _) (by assumption)).mono ?_); rintro e w' ⟨rfl, hS⟩)
    | (go_at_call 28; (with_reducible refine (keep4 (c4.out _) (by assumption)).mono ?_); rintro e w' ⟨rfl, hS⟩))
  obtain ⟨s0, s1, s2, s3, hl⟩ := hS
  have HL3 := hid hl
  clear hl c3 c4
  have hL := HL3.out.facts
  simp only [liveAt, cellsAt, and_true, Nat.zero_add, Nat.reduceAdd, World.size_alloc] at hL
  go_wp2_with fail
  have hS := s4_of HL3.out.drew
  clear hL s0 s1 s2 s3 HL3
  go_region_held3 (fun w' => w'.cell? ⟨B, 0, none⟩ = some (.int .i64 an) ∧ w'.cell? ⟨B, 1, none⟩ = some (.int .i64 ad) ∧ w'.cell? ⟨B + 1, 0, none⟩ = some (.int .i64 bn) ∧ w'.cell? ⟨B + 1, 1, none⟩ = some (.int .i64 bd) ∧ Lv w w' [(B + 1 + 1, [.int .i64 0, .int .i64 0], 23), (B + 1, [.int .i64 bn, .int .i64 bd], 23), (B, [.int .i64 an, .int .i64 ad], 23)]) (assumption) (first
    | (go_at_call 32; (with_reducible refine (keep4s (c5.out _) (by assumption)).mono ?_); rintro e w' ⟨rfl, hS⟩))
  obtain ⟨s0, s1, s2, s3, hl⟩ := hS
  have HL3 := hid hl
  clear hl c5 c1 c2
  have hL := HL3.out.facts
  simp only [liveAt, cellsAt, and_true, Nat.zero_add, Nat.reduceAdd, World.size_alloc] at hL
  go_wp2_with fail
  have hS := s4_of HL3.out.drew
  clear hL s0 s1 s2 s3 HL3
  go_region_held3 (fun w' => w'.cell? ⟨B, 0, none⟩ = some (.int .i64 an) ∧ w'.cell? ⟨B, 1, none⟩ = some (.int .i64 ad) ∧ w'.cell? ⟨B + 1, 0, none⟩ = some (.int .i64 bn) ∧ w'.cell? ⟨B + 1, 1, none⟩ = some (.int .i64 bd) ∧ Lv w w' [(B + 1 + 1, [.int .i64 0, .int .i64 0], 23), (B + 1, [.int .i64 bn, .int .i64 bd], 23), (B, [.int .i64 an, .int .i64 ad], 23)]) (assumption) (first
    | (go_at_call 32; (with_reducible refine (keep4s (c6.out _) (by assumption)).mono ?_); rintro e w' ⟨rfl, hS⟩))
  obtain ⟨s0, s1, s2, s3, hl⟩ := hS
  have HL3 := hid hl
  clear hl c6 s0 s1 s2 s3 u1 u2 u3 u4 v1 v2 v3 v4 z1 z2 z3 z4 x3 x6 x9 y3
  have hL := HL3.out.facts
  simp only [liveAt, cellsAt, and_true, Nat.zero_add, Nat.reduceAdd, World.size_alloc] at hL
  have hbl := HL3.out.below
  rw [hB] at hbl
  have hz := HL3.out.drop.drop.lt
  have hz2 := HL3.out.lt
  cases p
  · have hM : (((0, 0), 2) : (Int × Int) × Int) = M := by have := HM.out; simpa using this
    subst hM
    clear HM
    go_wp2
    all_goals first
      | (refine bodyPost_ret (by simp [results, Try.results16, go_sem, *]; try rfl) rfl ?_; exact ⟨rfl, by go_grown⟩)
      | trace_state
  · cases q
    · have hM : (((0, 0), 2) : (Int × Int) × Int) = M := by have := HM.out; simpa using this
      subst hM
      clear HM
      go_wp2
      all_goals first
        | (refine bodyPost_ret (by simp [results, Try.results16, go_sem, *]; try rfl) rfl ?_; exact ⟨rfl, by go_grown⟩)
        | trace_state
    · have hM : (((P, Q), 0) : (Int × Int) × Int) = M := by have := HM.out; simpa using this
      subst hM
      clear HM
      go_wp2
      all_goals first
        | (refine bodyPost_ret (by simp [results, Try.results16, go_sem, *]; try rfl) rfl ?_; exact ⟨rfl, by go_grown⟩)
        | trace_state
end Go.Proofs.Ytkdlpbpaoemcaaa
