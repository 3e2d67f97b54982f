/- The law of Make: a draft. -/
import Derived.Test.YtkdlpbpaoemcaaaRatioLaws
import Derived.Outline
namespace Go.Proofs.Ytkdlpbpaoemcaaa
open Go.ChangeShapes Go.WideShapes Go.ChangeAt Go.RowKit
set_option linter.unusedVariables false
set_option linter.unusedSimpArgs false
theorem s3_of {w w' : World} {B1 B2 B3 : Nat} {n d P Q : Int} (h : Lv w w' [(B3, [.int .i64 P, .int .i64 Q], 23), (B2, [.int .i64 P, .int .i64 Q], 23), (B1, [.int .i64 n, .int .i64 d], 23)]) : w'.cell? ⟨B1, 0, none⟩ = some (.int .i64 n) ∧ w'.cell? ⟨B1, 1, none⟩ = some (.int .i64 d) ∧ w'.cell? ⟨B2, 0, none⟩ = some (.int .i64 P) ∧ w'.cell? ⟨B2, 1, none⟩ = some (.int .i64 Q) ∧ w'.cell? ⟨B3, 0, none⟩ = some (.int .i64 P) ∧ w'.cell? ⟨B3, 1, none⟩ = some (.int .i64 Q) ∧ Lv w w' [(B3, [.int .i64 P, .int .i64 Q], 23), (B2, [.int .i64 P, .int .i64 Q], 23), (B1, [.int .i64 n, .int .i64 d], 23)] := by
  have b1 := h.live.1
  have b2 := h.live.2.1
  have b3 := h.live.2.2.1
  have f : ∀ {b : Nat} {vs : List Value} {T : TypeId} (hb : w'.heap[b]? = some (.cells vs.toArray T (0, 0))) (i : Nat) {v : Value}, vs[i]? = some v → w'.cell? ⟨b, i, none⟩ = some v := by intro b vs T hb i v hv; exact (cell_of_row w' b i _ T (0, 0) hb).trans (by simpa using hv)
  exact ⟨f b3 0 rfl, f b3 1 rfl, f b2 0 rfl, f b2 1 rfl, f b1 0 rfl, f b1 1 rfl, h⟩
theorem keepS {P : Program} {f : FuncId} {args : Array Value} {w W : World} {v : Value} {B1 B2 B3 : Nat} {n d p q : Int}
    (hc : Calls P f args w fun e w' => e = .returned v ∧ Below w.heap.size w w') (hS : w.cell? ⟨B1, 0, none⟩ = some (.int .i64 n) ∧ w.cell? ⟨B1, 1, none⟩ = some (.int .i64 d) ∧ w.cell? ⟨B2, 0, none⟩ = some (.int .i64 p) ∧ w.cell? ⟨B2, 1, none⟩ = some (.int .i64 q) ∧ w.cell? ⟨B3, 0, none⟩ = some (.int .i64 p) ∧ w.cell? ⟨B3, 1, none⟩ = some (.int .i64 q) ∧ Lv W w [(B3, [.int .i64 p, .int .i64 q], 23), (B2, [.int .i64 p, .int .i64 q], 23), (B1, [.int .i64 n, .int .i64 d], 23)]) :
    Calls P f args w fun e w' => e = .returned v ∧ w'.cell? ⟨B1, 0, none⟩ = some (.int .i64 n) ∧ w'.cell? ⟨B1, 1, none⟩ = some (.int .i64 d) ∧ w'.cell? ⟨B2, 0, none⟩ = some (.int .i64 p) ∧ w'.cell? ⟨B2, 1, none⟩ = some (.int .i64 q) ∧ w'.cell? ⟨B3, 0, none⟩ = some (.int .i64 p) ∧ w'.cell? ⟨B3, 1, none⟩ = some (.int .i64 q) ∧ Lv W w' [(B3, [.int .i64 p, .int .i64 q], 23), (B2, [.int .i64 p, .int .i64 q], 23), (B1, [.int .i64 n, .int .i64 d], 23)] :=
  hc.mono fun e w' ⟨h1, h2⟩ => ⟨h1, s3_of (hS.2.2.2.2.2.2.kept h2)⟩
set_option maxRecDepth 100000 in
set_option maxHeartbeats 8000000 in
theorem ratioMakes_walk (n d a b : Int) (w : World) (ha : -9223372036854775808 ≤ a ∧ a ≤ 9223372036854775807) (hb : -9223372036854775808 ≤ b ∧ b ≤ 9223372036854775807) :
    Calls Try.prog 3 #[.agg #[.int .i64 n, .int .i64 d], .int .i64 a, .int .i64 b] w fun e w' => e = .returned (.bool true) ∧ Below w.heap.size w w' := by
  have c1 := hid (fun w => make_any a b ha.2 hb.2 w)
  have c2 := hid (fun w => rmake_any a b ha.2 hb.2 w)
  have c3 := hid (fun w => ratv_any n d w)
  have c4 := hid (fun w => rratv_any n d w)
  have c5 := hid (fun w => made03_any a b w)
  have hr := made_ok a b
  have c6 := hid (fun w => ratv_any (mkV (termV a) (termV b)).1.1 (mkV (termV a) (termV b)).1.2 w)
  rw [hr] at c6
  clear hr ha hb
  generalize (mkV (termV a) (termV b)).1.1 = X at *
  generalize (mkV (termV a) (termV b)).1.2 = Y at *
  generalize (mkV a b).1.1 = P at *
  generalize (mkV a b).1.2 = Q at *
  generalize (mkV a b).2 = Z at *
  generalize ratV n d = V at *
  go_enter Try.func3, Try.ntmps3
  go_wp2_with fail
  (with_reducible refine (sane03_any _).mono ?_); rintro e w1 ⟨rfl, hb⟩; have HL := hid (Lv.kept (Lv.alloc (vs := [.int .i64 n, .int .i64 d]) (T := 23) (Lv.start w)) hb); clear hb
  have hL := HL.out.facts
  simp only [liveAt, cellsAt, and_true, Nat.zero_add, Nat.reduceAdd, World.size_alloc] at hL
  have hz := HL.out.lt
  go_wp2_with fail
  clear hL
  (with_reducible refine (c1.out _).mono ?_); rintro e w2 ⟨rfl, hb⟩; have HL2 := hid (Lv.alloc (vs := [.int .i64 P, .int .i64 Q]) (T := 23) (HL.out.kept hb)); clear hb HL
  have hL := HL2.out.facts
  simp only [liveAt, cellsAt, and_true, Nat.zero_add, Nat.reduceAdd, World.size_alloc] at hL
  go_wp2_with fail
  clear hL
  (with_reducible refine (c2.out _).mono ?_); rintro e w3 ⟨rfl, hb⟩; have HL3 := hid (Lv.alloc (vs := [.int .i64 P, .int .i64 Q]) (T := 23) (HL2.out.kept hb)); clear hb HL2
  have hL := HL3.out.facts
  simp only [liveAt, cellsAt, and_true, Nat.zero_add, Nat.reduceAdd, World.size_alloc] at hL
  go_wp2_with fail
  have hz3 := HL3.out.size

  clear hL
  have hS := s3_of HL3.out.drew
  have vv : (V == V) = true := by simp
  have zz : (Z == Z) = true := by simp
  go_region_held3 (fun w' => w'.cell? ⟨w.heap.size, 0, none⟩ = some (.int .i64 n) ∧ w'.cell? ⟨w.heap.size, 1, none⟩ = some (.int .i64 d) ∧ w'.cell? ⟨w2.heap.size, 0, none⟩ = some (.int .i64 P) ∧ w'.cell? ⟨w2.heap.size, 1, none⟩ = some (.int .i64 Q) ∧ w'.cell? ⟨w3.heap.size, 0, none⟩ = some (.int .i64 P) ∧ w'.cell? ⟨w3.heap.size, 1, none⟩ = some (.int .i64 Q) ∧ Lv w w' [(w3.heap.size, [.int .i64 P, .int .i64 Q], 23), (w2.heap.size, [.int .i64 P, .int .i64 Q], 23), (w.heap.size, [.int .i64 n, .int .i64 d], 23)]) (assumption) (first
    | (go_at_call 13; (with_reducible refine (keepS (c3.out _) (by assumption)).mono ?_); rintro e w' ⟨rfl, hS⟩)
    | (go_at_call 13; (with_reducible refine (keepS (c6.out _) (by assumption)).mono ?_); rintro e w' ⟨rfl, hS⟩)
    | (go_at_call 14; (with_reducible refine (keepS (c4.out _) (by assumption)).mono ?_); rintro e w' ⟨rfl, hS⟩)
    | (go_at_call 15; (with_reducible refine (keepS (c5.out _) (by assumption)).mono ?_); rintro e w' ⟨rfl, hS⟩))
  obtain ⟨s0, s1, s2, s3, s4, s5, hl5⟩ := hS
  have HL5 := hid hl5
  clear hl5
  go_wp2
  all_goals go_ret
  all_goals first
    | exact ⟨rfl, HL5.out.below⟩
    | trace_state
end Go.Proofs.Ytkdlpbpaoemcaaa
