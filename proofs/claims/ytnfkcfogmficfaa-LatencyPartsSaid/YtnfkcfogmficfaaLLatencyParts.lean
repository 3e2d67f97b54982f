/- LatencyParts returns true for every input and leaves its arguments as they were. -/
import Derived.Test.YtnfkcfogmficfaaRows
import Derived.Test.YtnfkcfogmficfaaLatencyParts
import Derived.WalkKit
import Derived.ProofKit
import Derived.OpenShut
import Derived.ShutString
import Derived.ChangeOld
import Derived.Below
namespace Go.Proofs.Ytnfkcfogmficfaa.latencyParts
open Go.ChangeShapes Go.WideShapes Go.ChangeAt Go.RowKit
open Go.ChangeMaps (open_string shut_string)
set_option linter.unusedVariables false

theorem len_succ {α : Type} {n : Nat} : ∀ {l : List α}, l.length = n + 1 → ∃ a t, l = a :: t ∧ t.length = n
  | [], h => by cases h
  | a :: t, h => ⟨a, t, rfl, by simpa using h⟩

theorem walk (a0_0 : Int) (a0_1 : Int) (a0_2 : Int) (a0_3 : Int) (a0_4 : Int) (a0_5 : Int) (a0_6 : Int) (a1_0 : Int) (a1_1 : Int) (a1_2 : Int) (a1_3 : Int) (a1_4 : Int) (a2 : Int) (w : World) (w0_0 : (Lit.int .i64 a0_0).wf = true) (w0_1 : (Lit.int .i64 a0_1).wf = true) (w0_2 : (Lit.int .i64 a0_2).wf = true) (w0_3 : (Lit.int .i64 a0_3).wf = true) (w0_4 : (Lit.int .i64 a0_4).wf = true) (w0_5 : (Lit.int .i64 a0_5).wf = true) (w0_6 : (Lit.int .i64 a0_6).wf = true) (w1_0 : (Lit.int .i64 a1_0).wf = true) (w1_1 : (Lit.int .i64 a1_1).wf = true) (w1_2 : (Lit.int .i64 a1_2).wf = true) (w1_3 : (Lit.int .i64 a1_3).wf = true) (w1_4 : (Lit.int .i64 a1_4).wf = true) (w2 : (Lit.int .i64 a2).wf = true) :
    Calls Try.prog 4 #[.agg #[.int .i64 a0_0, .int .i64 a0_1, .int .i64 a0_2, .int .i64 a0_3, .int .i64 a0_4, .int .i64 a0_5, .int .i64 a0_6], .agg #[.int .i64 a1_0, .int .i64 a1_1, .int .i64 a1_2, .int .i64 a1_3, .int .i64 a1_4], .int .i64 a2] w fun e w' => e = .returned (.bool true) ∧ Below w.heap.size w w' := by
  exact latencyParts_walk a0_0 a0_1 a0_2 a0_3 a0_4 a0_5 a0_6 a1_0 a1_1 a1_2 a1_3 a1_4 a2 w

set_option maxRecDepth 100000 in
theorem lifted (os : Os) (started : os.Started) (H : Type) (enc : TypeId × Value → H) :
    ReturnsInHanded {} Try.checked os 4 .any (Rows.latencyPartsSpec.pre6 enc Try.prog Try.f4 Rows.latencyPartsRow.domain false) (Rows.latencyPartsSpec.post enc Try.prog Try.f4 false true false false) := by
  refine returnsInHanded_of_change (C := Try.checked) own started (by kernel_rfl) Try.func4
    (ChangeSpec.witness6 (enc := enc) (C := Try.checked) false ⟨#[], #[.agg #[.int .i64 0, .int .i64 0, .int .i64 0, .int .i64 0, .int .i64 0, .int .i64 0, .int .i64 0], .agg #[.int .i64 0, .int .i64 0, .int .i64 0, .int .i64 0, .int .i64 0], .int .i64 0], []⟩ 8 (by kernel_rfl) (by kernel_rfl) (by kernel_rfl) (by kernel_rfl)) ?_
  intro W base args ds gs before hval0 hW hcnd _
  have hval : ∀ (j : Nat) t v, Try.f4.params[j]? = some t → args[j]? = some v → Value.okWide Try.prog W .any base t v := hval0
  have hW' := hW
  obtain ⟨p, q, hA0, hV, rfl, hfz, hnd⟩ := hW
  have hA : DataW.TrodAll enc Try.prog W 0 (fun _ => true) true Try.f4.params.toList args.toList ds p := hA0
  rw [Try.params4] at hA hval
  obtain ⟨v0, vs0, d0, ds0, p0, q0, hargs, rfl, rfl, h0, r0⟩ := trodAll_cons hA
  obtain ⟨v1, vs1, d1, ds1, p1, q1, rfl, rfl, rfl, h1, r1⟩ := trodAll_cons r0
  obtain ⟨v2, vs2, d2, ds2, p2, q2, rfl, rfl, rfl, h2, r2⟩ := trodAll_cons r1
  obtain ⟨rfl, rfl, rfl⟩ := trodAll_nil r2
  obtain rfl : args = #[v0, v1, v2] := by cases args; simp_all
  obtain ⟨rfl, rfl⟩ := trodVars_none hV
  have k0 := h0
  have lt0 : ∀ x ∈ p0, x.block < W.heap.size := by obtain ⟨m, hm⟩ := k0; exact DataW.trod_lt m _ _ _ hm
  obtain ⟨a0_0, a0_1, a0_2, a0_3, a0_4, a0_5, a0_6, rfl, w0_0, w0_1, w0_2, w0_3, w0_4, w0_5, w0_6⟩ : ∃ (a0_0 : Int) (a0_1 : Int) (a0_2 : Int) (a0_3 : Int) (a0_4 : Int) (a0_5 : Int) (a0_6 : Int), v0 = .agg #[.int .i64 a0_0, .int .i64 a0_1, .int .i64 a0_2, .int .i64 a0_3, .int .i64 a0_4, .int .i64 a0_5, .int .i64 a0_6] ∧ (Lit.int .i64 a0_0).wf = true ∧ (Lit.int .i64 a0_1).wf = true ∧ (Lit.int .i64 a0_2).wf = true ∧ (Lit.int .i64 a0_3).wf = true ∧ (Lit.int .i64 a0_4).wf = true ∧ (Lit.int .i64 a0_5).wf = true ∧ (Lit.int .i64 a0_6).wf = true := by
    obtain ⟨cs, e, hsz⟩ := okWide_struct Try.underlying27 (hval 0 27 v0 rfl rfl)
    subst e
    obtain ⟨l⟩ := cs
    have hl0 : l.length = 7 := hsz.trans (show Try.prog.cellsOf 27 = 7 by kernel_rfl)
    obtain ⟨c0, l0, el0, hl1⟩ := len_succ hl0
    obtain ⟨c1, l1, el1, hl2⟩ := len_succ hl1
    obtain ⟨c2, l2, el2, hl3⟩ := len_succ hl2
    obtain ⟨c3, l3, el3, hl4⟩ := len_succ hl3
    obtain ⟨c4, l4, el4, hl5⟩ := len_succ hl4
    obtain ⟨c5, l5, el5, hl6⟩ := len_succ hl5
    obtain ⟨c6, l6, el6, hl7⟩ := len_succ hl6
    have el7 := List.eq_nil_of_length_eq_zero hl7
    subst el7 el6 el5 el4 el3 el2 el1 el0
    obtain ⟨fuel, hf⟩ := h0
    obtain ⟨xs, nn, _, hx, _, hlen, hg⟩ := DataW.trod_struct Try.underlying27 hf
    clear hf
    have hx0 : xs.length = 7 := hlen
    obtain ⟨y0, xs0, ex0, hx1⟩ := len_succ hx0
    obtain ⟨y1, xs1, ex1, hx2⟩ := len_succ hx1
    obtain ⟨y2, xs2, ex2, hx3⟩ := len_succ hx2
    obtain ⟨y3, xs3, ex3, hx4⟩ := len_succ hx3
    obtain ⟨y4, xs4, ex4, hx5⟩ := len_succ hx4
    obtain ⟨y5, xs5, ex5, hx6⟩ := len_succ hx5
    obtain ⟨y6, xs6, ex6, hx7⟩ := len_succ hx6
    have ex7 := List.eq_nil_of_length_eq_zero hx7
    subst ex7 ex6 ex5 ex4 ex3 ex2 ex1 ex0
    obtain ⟨n0, e0, _, u0⟩ := DataW.trod_int Try.underlying3 (by simpa [Value.cells, show Try.prog.cellsOf 3 = 1 from by kernel_rfl] using hg 0 _ rfl)
    obtain ⟨n1, e1, _, u1⟩ := DataW.trod_int Try.underlying3 (by simpa [Value.cells, show Try.prog.cellsOf 3 = 1 from by kernel_rfl] using hg 1 _ rfl)
    obtain ⟨n2, e2, _, u2⟩ := DataW.trod_int Try.underlying3 (by simpa [Value.cells, show Try.prog.cellsOf 3 = 1 from by kernel_rfl] using hg 2 _ rfl)
    obtain ⟨n3, e3, _, u3⟩ := DataW.trod_int Try.underlying3 (by simpa [Value.cells, show Try.prog.cellsOf 3 = 1 from by kernel_rfl] using hg 3 _ rfl)
    obtain ⟨n4, e4, _, u4⟩ := DataW.trod_int Try.underlying3 (by simpa [Value.cells, show Try.prog.cellsOf 3 = 1 from by kernel_rfl] using hg 4 _ rfl)
    obtain ⟨n5, e5, _, u5⟩ := DataW.trod_int Try.underlying3 (by simpa [Value.cells, show Try.prog.cellsOf 3 = 1 from by kernel_rfl] using hg 5 _ rfl)
    obtain ⟨n6, e6, _, u6⟩ := DataW.trod_int Try.underlying3 (by simpa [Value.cells, show Try.prog.cellsOf 3 = 1 from by kernel_rfl] using hg 6 _ rfl)
    cases e0; cases e1; cases e2; cases e3; cases e4; cases e5; cases e6
    exact ⟨_, _, _, _, _, _, _, rfl, u0, u1, u2, u3, u4, u5, u6⟩
  have k1 := h1
  have lt1 : ∀ x ∈ p1, x.block < W.heap.size := by obtain ⟨m, hm⟩ := k1; exact DataW.trod_lt m _ _ _ hm
  obtain ⟨a1_0, a1_1, a1_2, a1_3, a1_4, rfl, w1_0, w1_1, w1_2, w1_3, w1_4⟩ : ∃ (a1_0 : Int) (a1_1 : Int) (a1_2 : Int) (a1_3 : Int) (a1_4 : Int), v1 = .agg #[.int .i64 a1_0, .int .i64 a1_1, .int .i64 a1_2, .int .i64 a1_3, .int .i64 a1_4] ∧ (Lit.int .i64 a1_0).wf = true ∧ (Lit.int .i64 a1_1).wf = true ∧ (Lit.int .i64 a1_2).wf = true ∧ (Lit.int .i64 a1_3).wf = true ∧ (Lit.int .i64 a1_4).wf = true := by
    obtain ⟨cs, e, hsz⟩ := okWide_struct Try.underlying29 (hval 1 29 v1 rfl rfl)
    subst e
    obtain ⟨l⟩ := cs
    have hl0 : l.length = 5 := hsz.trans (show Try.prog.cellsOf 29 = 5 by kernel_rfl)
    obtain ⟨c0, l0, el0, hl1⟩ := len_succ hl0
    obtain ⟨c1, l1, el1, hl2⟩ := len_succ hl1
    obtain ⟨c2, l2, el2, hl3⟩ := len_succ hl2
    obtain ⟨c3, l3, el3, hl4⟩ := len_succ hl3
    obtain ⟨c4, l4, el4, hl5⟩ := len_succ hl4
    have el5 := List.eq_nil_of_length_eq_zero hl5
    subst el5 el4 el3 el2 el1 el0
    obtain ⟨fuel, hf⟩ := h1
    obtain ⟨xs, nn, _, hx, _, hlen, hg⟩ := DataW.trod_struct Try.underlying29 hf
    clear hf
    have hx0 : xs.length = 5 := hlen
    obtain ⟨y0, xs0, ex0, hx1⟩ := len_succ hx0
    obtain ⟨y1, xs1, ex1, hx2⟩ := len_succ hx1
    obtain ⟨y2, xs2, ex2, hx3⟩ := len_succ hx2
    obtain ⟨y3, xs3, ex3, hx4⟩ := len_succ hx3
    obtain ⟨y4, xs4, ex4, hx5⟩ := len_succ hx4
    have ex5 := List.eq_nil_of_length_eq_zero hx5
    subst ex5 ex4 ex3 ex2 ex1 ex0
    obtain ⟨n0, e0, _, u0⟩ := DataW.trod_int Try.underlying3 (by simpa [Value.cells, show Try.prog.cellsOf 3 = 1 from by kernel_rfl] using hg 0 _ rfl)
    obtain ⟨n1, e1, _, u1⟩ := DataW.trod_int Try.underlying3 (by simpa [Value.cells, show Try.prog.cellsOf 3 = 1 from by kernel_rfl] using hg 1 _ rfl)
    obtain ⟨n2, e2, _, u2⟩ := DataW.trod_int Try.underlying3 (by simpa [Value.cells, show Try.prog.cellsOf 3 = 1 from by kernel_rfl] using hg 2 _ rfl)
    obtain ⟨n3, e3, _, u3⟩ := DataW.trod_int Try.underlying3 (by simpa [Value.cells, show Try.prog.cellsOf 3 = 1 from by kernel_rfl] using hg 3 _ rfl)
    obtain ⟨n4, e4, _, u4⟩ := DataW.trod_int Try.underlying3 (by simpa [Value.cells, show Try.prog.cellsOf 3 = 1 from by kernel_rfl] using hg 4 _ rfl)
    cases e0; cases e1; cases e2; cases e3; cases e4
    exact ⟨_, _, _, _, _, rfl, u0, u1, u2, u3, u4⟩
  obtain ⟨a2, rfl, rfl, rfl, w2⟩ := open_int Try.underlying3 (hval 2 3 v2 rfl rfl) h2
  clear hA0 hval0
  refine (walk a0_0 a0_1 a0_2 a0_3 a0_4 a0_5 a0_6 a1_0 a1_1 a1_2 a1_3 a1_4 a2 W w0_0 w0_1 w0_2 w0_3 w0_4 w0_5 w0_6 w1_0 w1_1 w1_2 w1_3 w1_4 w2).mono fun e W' ⟨he, bel⟩ => ?_
  subst he
  exact ⟨_, rfl, _, _, _, [], _, [], hW', trodAll_mk1 (shut_bool Try.underlying4 _), (trodAll_cons_mk (Below.trod laidOut (by kernel_rfl) (of_decide_eq_true (by kernel_rfl)) k0 bel lt0) (trodAll_cons_mk (Below.trod laidOut (by kernel_rfl) (of_decide_eq_true (by kernel_rfl)) k1 bel lt1) (trodAll_cons_mk (shut_int Try.underlying3 w2) trodAll_mk0))), rfl, bel.frame _, fun h => by cases h⟩

theorem over : Rows.latencyPartsRow.holds Try.pinned (OpenSpec.ofChange Rows.latencyPartsSpec) :=
  OpenClaim.holds_of_wide 4 Try.f4 rfl rfl rfl rfl rfl rfl rfl ⟨rfl, rfl, rfl, rfl, rfl⟩ rfl rfl rfl rfl rfl (by kernel_rfl) Try.func4 (by kernel_rfl)
    (of_decide_eq_true (by kernel_rfl)) (by unfold Func.isWrapper; first | (rw [if_pos (by decide +kernel)]; kernel_rfl) | (rw [if_neg (by decide +kernel)]; exact ⟨rfl, rfl⟩))
    (fun os started H enc _ => lifted os started H enc)

theorem proved : Rows.LatencyPartsSaid := over
#print axioms proved
end Go.Proofs.Ytnfkcfogmficfaa.latencyParts
