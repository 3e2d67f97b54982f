/- What the laws of envelopes begin with: no statement is proved here. -/
import Derived.Test.YthmkkanjjlechaaDuckStep
namespace Go.Proofs.Ythmkkanjjlechaa
open Go.ChangeShapes Go.WideShapes Go.ChangeAt Go.RowKit
set_option linter.unusedVariables false
set_option linter.unusedSimpArgs false

def EnvOk (e : Ending) : Prop := ∃ g q a r h : Int, e = .returned (.tuple #[.agg #[.int .i64 g, .int .i64 q], .agg #[.int .i64 a, .int .i64 r, .int .i64 h]]) ∧ duV g q a r h = true ∧ r ≤ 90000 ∧ h ≤ 5
theorem cells3 {W w : World} {d C : Nat} {a r h : Int} {T : TypeId} {L : List (Nat × List Value × TypeId)} (hs : DSt W w d ((C, [.int .i64 a, .int .i64 r, .int .i64 h], T) :: L)) : w.cell? ⟨C, 0, none⟩ = some (.int .i64 a) ∧ w.cell? ⟨C, 1, none⟩ = some (.int .i64 r) ∧ w.cell? ⟨C, 2, none⟩ = some (.int .i64 h) := by
  have hL := hs.lv.facts
  simp only [liveAt, cellsAt, and_true, Nat.zero_add, Nat.reduceAdd] at hL
  exact ⟨hL.1.1, hL.1.2.2.1, hL.1.2.2.2.2.1⟩
def made_tail : Unit := ()
set_option maxRecDepth 100000 in
set_option maxHeartbeats 8000000 in
theorem made32_any (a : Option Addr) (len cap : Nat) (l : List Int) (w : World) (hs : Sl .i64 w a len cap l) :
    Calls Try.prog 30 #[.slice a len cap] w fun e w' => EnvOk e ∧ Below w.heap.size w w' := by
  have HS := hid hs
  clear hs
  have hR := Lv.alloc (vs := [.int .i64 0, .int .i64 0, .int .i64 0]) (T := 61) (Lv.alloc (vs := [.int .i64 0, .int .i64 0]) (T := 59) (Lv.start w))
  have HS2 := hid (HS.out.below hR.below)
  have HR := hid hR
  clear hR
  go_enter Try.func30, Try.ntmps30
  go_wp2_with fail
  (with_reducible refine (new_dst w a len cap l _ _ HS2.out HR.out).mono ?_); rintro e w1 ⟨rfl, hd⟩; simp only [World.size_alloc] at hd; have H1 := hid hd; clear hd HR HS2
  go_wp2_with fail
  (with_reducible refine (range_dst w _ _ 1 262144 (by omega) (by omega) (by omega) (by omega) _ H1.out).mono ?_); rintro e w2 ⟨⟨x, rfl, x0, x1⟩, hd⟩; have H2 := hid hd; clear hd H1
  go_wp2_with fail
  (with_reducible refine (range_dst w _ _ 1 90000 (by omega) (by omega) (by omega) (by omega) _ H2.out).mono ?_); rintro e w3 ⟨⟨r, rfl, r0, r1⟩, hd⟩; have H3 := hid hd; clear hd H2
  go_wp2_with fail
  (with_reducible refine (next_dst w _ _ 6 (by omega) (by omega) _ H3.out).mono ?_); rintro e w4 ⟨⟨h, rfl, h0, h1⟩, hd⟩; have H4 := hid (DSt.alloc (vs := [.int .i64 x, .int .i64 r, .int .i64 h]) (T := 61) hd); clear H3
  have hDC := hd.deck.lt
  clear hd
  go_wp2_with fail
  (with_reducible refine (next_dst w _ _ 3 (by omega) (by omega) _ H4.out).mono ?_); rintro e w5 ⟨⟨y, rfl, y0, y1⟩, hd⟩; have H5 := hid hd; clear hd H4
  by_cases hy : y = 0
  · subst hy
    go_wp2_with fail
    (with_reducible refine (range_dst w _ _ 1 3000 (by omega) (by omega) (by omega) (by omega) _ H5.out).mono ?_); rintro e w6 ⟨⟨z, rfl, z0, z1⟩, hd⟩
    have hc := cells3 hd
    have hL := hd.lv.facts
    simp only [liveAt, cellsAt, and_true, Nat.zero_add, Nat.reduceAdd, World.size_alloc] at hL
    have H6 := hid (DSt.set (i := 0) (v := .int .i64 z) hd (by simpa using hDC) (by simp; omega))
    clear hd H5 hc
    go_wp2_with fail
    have hd := DSt.drew H6.out
    simp only [List.set_cons_zero] at hd
    have hL := hd.lv.facts
    simp only [liveAt, cellsAt, and_true, Nat.zero_add, Nat.reduceAdd, World.size_alloc] at hL
    have hc := cells3 hd
    clear HS H6
    generalize w6.setCell ⟨w4.heap.size, 0, none⟩ (.int .i64 z) = W6 at *
    generalize w4.heap.size = C at *
    have n1 : C ≠ w.heap.size := by omega
    have n2 : C ≠ w.heap.size + 1 := by omega
    have n3 : w.heap.size ≠ C := by omega
    have n4 : w.heap.size + 1 ≠ C := by omega
    have n5 : w.heap.size ≠ w.heap.size + 1 := by omega
    have n6 : w.heap.size + 1 ≠ w.heap.size := by omega
    have q0 : IntKind.i64.wrap (h + 1) = h + 1 := IntWalk.i64_in _ (by omega)
    go_region_held3 (fun w' => w'.cell? ⟨C, 0, none⟩ = some (.int .i64 z) ∧ w'.cell? ⟨C, 1, none⟩ = some (.int .i64 r) ∧ w'.cell? ⟨C, 2, none⟩ = some (.int .i64 h)) (first | exact cells3 (by assumption) | go_keep) (first
      | (go_at_call 65; (with_reducible refine (next_dst w _ _ 262145 (by omega) (by omega) _ (by assumption)).mono ?_); rintro e w8 ⟨⟨g, rfl, g0, g1⟩, hd8⟩; have hL8 := hd8.lv.facts; simp only [liveAt, cellsAt, and_true, Nat.zero_add, Nat.reduceAdd, World.size_alloc] at hL8)
      | (go_at_call 65; (with_reducible refine (next_dst w _ _ (h + 1) (by omega) (by omega) _ (by assumption)).mono ?_); rintro e w8 ⟨⟨q, rfl, k0, k1⟩, hd8⟩; have hL8 := hd8.lv.facts; simp only [liveAt, cellsAt, and_true, Nat.zero_add, Nat.reduceAdd, World.size_alloc] at hL8))
    all_goals clear q0
    all_goals have hbel := hd8.lv.below
    all_goals go_wp2
    all_goals refine bodyPost_ret (by simp [results, Try.results30, go_sem, *]; try rfl) rfl ?_
    all_goals exact ⟨⟨_, _, _, _, _, rfl, duV_true.2 ⟨⟨by omega, by omega⟩, ⟨by omega, by omega⟩, ⟨by omega, by omega⟩, ⟨by omega, by omega⟩, by omega, by omega⟩, by omega, by omega⟩, by go_grown⟩
  · have hyb : (y == 0) = false := by simpa using hy
    go_wp2_with fail
    have hd := DSt.drew H5.out
    skip
    have hL := hd.lv.facts
    simp only [liveAt, cellsAt, and_true, Nat.zero_add, Nat.reduceAdd, World.size_alloc] at hL
    have hc := cells3 hd
    clear HS H5
    skip
    generalize w4.heap.size = C at *
    have n1 : C ≠ w.heap.size := by omega
    have n2 : C ≠ w.heap.size + 1 := by omega
    have n3 : w.heap.size ≠ C := by omega
    have n4 : w.heap.size + 1 ≠ C := by omega
    have n5 : w.heap.size ≠ w.heap.size + 1 := by omega
    have n6 : w.heap.size + 1 ≠ w.heap.size := by omega
    have q0 : IntKind.i64.wrap (h + 1) = h + 1 := IntWalk.i64_in _ (by omega)
    go_region_held3 (fun w' => w'.cell? ⟨C, 0, none⟩ = some (.int .i64 x) ∧ w'.cell? ⟨C, 1, none⟩ = some (.int .i64 r) ∧ w'.cell? ⟨C, 2, none⟩ = some (.int .i64 h)) (first | exact cells3 (by assumption) | go_keep) (first
      | (go_at_call 65; (with_reducible refine (next_dst w _ _ 262145 (by omega) (by omega) _ (by assumption)).mono ?_); rintro e w8 ⟨⟨g, rfl, g0, g1⟩, hd8⟩; have hL8 := hd8.lv.facts; simp only [liveAt, cellsAt, and_true, Nat.zero_add, Nat.reduceAdd, World.size_alloc] at hL8)
      | (go_at_call 65; (with_reducible refine (next_dst w _ _ (h + 1) (by omega) (by omega) _ (by assumption)).mono ?_); rintro e w8 ⟨⟨q, rfl, k0, k1⟩, hd8⟩; have hL8 := hd8.lv.facts; simp only [liveAt, cellsAt, and_true, Nat.zero_add, Nat.reduceAdd, World.size_alloc] at hL8))
    all_goals clear q0
    all_goals have hbel := hd8.lv.below
    all_goals go_wp2
    all_goals refine bodyPost_ret (by simp [results, Try.results30, go_sem, *]; try rfl) rfl ?_
    all_goals exact ⟨⟨_, _, _, _, _, rfl, duV_true.2 ⟨⟨by omega, by omega⟩, ⟨by omega, by omega⟩, ⟨by omega, by omega⟩, ⟨by omega, by omega⟩, by omega, by omega⟩, by omega, by omega⟩, by go_grown⟩
end Go.Proofs.Ythmkkanjjlechaa
