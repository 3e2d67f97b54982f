/- ControlDeclares returns true for every input and leaves its arguments as they were. -/
import Derived.Test.YtfcdndlnjdelmaaRows
import Derived.Test.YtfcdndlnjdelmaaQCD
import Derived.Test.YtfcdndlnjdelmaaPF
import Derived.WalkKit
import Derived.ProofKit
import Derived.OpenShut
import Derived.ShutString
import Derived.Deep.Strs
import Derived.ChangeOld
import Derived.Below
namespace Go.Proofs.Ytfcdndlnjdelmaa.controlDeclares
open Go.ChangeShapes Go.WideShapes Go.ChangeAt Go.RowKit
open Go.ChangeMaps (open_string shut_string)
set_option linter.unusedVariables false
set_option linter.unusedSimpArgs false

def IsRow (k : IntKind) (w : World) (a : Option Addr) (len cap : Nat) (zs : List Int) : Prop :=
  (a = none ∧ len = 0 ∧ cap = 0 ∧ zs = []) ∨
  ∃ x, a = some x ∧ len ≤ cap ∧ cap ≤ maxLen ∧ zs.length = cap ∧ (∀ i, i < zs.length → w.cell? (x.add i) = some (.int k (zs.getD i 0))) ∧ ∀ n ∈ zs, (Lit.int k n).wf = true

theorem len_succ {α : Type} {n : Nat} : ∀ {l : List α}, l.length = n + 1 → ∃ a t, l = a :: t ∧ t.length = n
  | [], h => by cases h
  | a :: t, h => ⟨a, t, rfl, by simpa using h⟩

theorem walk (a0_0 : Int) (a0_1 : Int) (a1_0 : Int) (a1_1 : Int) (a2 : Option Addr) (len2 cap2 : Nat) (z2 : List Int) (a3 : Option Addr) (len3 cap3 : Nat) (z3 : List Int) (a4 : Int) (a5 : Int) (w : World) (w0_0 : (Lit.int .i64 a0_0).wf = true) (w0_1 : (Lit.int .i64 a0_1).wf = true) (w1_0 : (Lit.int .i64 a1_0).wf = true) (w1_1 : (Lit.int .i64 a1_1).wf = true) (w2 : SlP .i64 w a2 len2 cap2 z2) (w3 : IsRow .u8 w a3 len3 cap3 z3) (w4 : (Lit.int .i64 a4).wf = true) (w5 : (Lit.int .i64 a5).wf = true) :
    Calls Try.prog 3 #[.agg #[.int .i64 a0_0, .int .i64 a0_1], .agg #[.int .i64 a1_0, .int .i64 a1_1], .slice a2 len2 cap2, .slice a3 len3 cap3, .int .i64 a4, .int .i64 a5] w fun e w' => e = .returned (.bool true) ∧ Below w.heap.size w w' := by
  exact controlDeclares_walk w2 (sl_of_row w3) (bounds_i64 w4) (bounds_i64 w5)

set_option maxRecDepth 100000 in
theorem lifted (os : Os) (started : os.Started) (H : Type) (enc : TypeId × Value → H) :
    ReturnsInHanded {} Try.checked os 3 .any (Rows.controlDeclaresSpec.pre6 enc Try.prog Try.f3 Rows.controlDeclaresRow.domain false) (Rows.controlDeclaresSpec.post enc Try.prog Try.f3 false true false false) := by
  refine returnsInHanded_of_change (C := Try.checked) own started (by kernel_rfl) Try.func3
    (ChangeSpec.witness6 (enc := enc) (C := Try.checked) false ⟨#[], #[.agg #[.int .i64 0, .int .i64 0], .agg #[.int .i64 0, .int .i64 0], .slice none 0 0, .slice none 0 0, .int .i64 0, .int .i64 0], []⟩ 8 (by kernel_rfl) (by kernel_rfl) (by kernel_rfl) (by kernel_rfl)) ?_
  intro W base args ds gs before hval0 hW hcnd _
  have hval : ∀ (j : Nat) t v, Try.f3.params[j]? = some t → args[j]? = some v → Value.okWide Try.prog W .any base t v := hval0
  have hW' := hW
  obtain ⟨p, q, hA0, hV, rfl, hfz, hnd⟩ := hW
  have hA : DataW.TrodAll enc Try.prog W 0 (fun _ => true) true Try.f3.params.toList args.toList ds p := hA0
  rw [Try.params3] at hA hval
  obtain ⟨v0, vs0, d0, ds0, p0, q0, hargs, rfl, rfl, h0, r0⟩ := trodAll_cons hA
  obtain ⟨v1, vs1, d1, ds1, p1, q1, rfl, rfl, rfl, h1, r1⟩ := trodAll_cons r0
  obtain ⟨v2, vs2, d2, ds2, p2, q2, rfl, rfl, rfl, h2, r2⟩ := trodAll_cons r1
  obtain ⟨v3, vs3, d3, ds3, p3, q3, rfl, rfl, rfl, h3, r3⟩ := trodAll_cons r2
  obtain ⟨v4, vs4, d4, ds4, p4, q4, rfl, rfl, rfl, h4, r4⟩ := trodAll_cons r3
  obtain ⟨v5, vs5, d5, ds5, p5, q5, rfl, rfl, rfl, h5, r5⟩ := trodAll_cons r4
  obtain ⟨rfl, rfl, rfl⟩ := trodAll_nil r5
  obtain rfl : args = #[v0, v1, v2, v3, v4, v5] := by cases args; simp_all
  obtain ⟨rfl, rfl⟩ := trodVars_none hV
  have k0 := h0
  have lt0 : ∀ x ∈ p0, x.block < W.heap.size := by obtain ⟨m, hm⟩ := k0; exact DataW.trod_lt m _ _ _ hm
  obtain ⟨a0_0, a0_1, rfl, w0_0, w0_1⟩ : ∃ (a0_0 : Int) (a0_1 : Int), v0 = .agg #[.int .i64 a0_0, .int .i64 a0_1] ∧ (Lit.int .i64 a0_0).wf = true ∧ (Lit.int .i64 a0_1).wf = true := by
    obtain ⟨cs, e, hsz⟩ := okWide_struct Try.underlying23 (hval 0 23 v0 rfl rfl)
    subst e
    obtain ⟨l⟩ := cs
    have hl0 : l.length = 2 := hsz.trans (show Try.prog.cellsOf 23 = 2 by kernel_rfl)
    obtain ⟨c0, l0, el0, hl1⟩ := len_succ hl0
    obtain ⟨c1, l1, el1, hl2⟩ := len_succ hl1
    have el2 := List.eq_nil_of_length_eq_zero hl2
    subst el2 el1 el0
    obtain ⟨fuel, hf⟩ := h0
    obtain ⟨xs, nn, _, hx, _, hlen, hg⟩ := DataW.trod_struct Try.underlying23 hf
    clear hf
    have hx0 : xs.length = 2 := hlen
    obtain ⟨y0, xs0, ex0, hx1⟩ := len_succ hx0
    obtain ⟨y1, xs1, ex1, hx2⟩ := len_succ hx1
    have ex2 := List.eq_nil_of_length_eq_zero hx2
    subst ex2 ex1 ex0
    obtain ⟨n0, e0, _, u0⟩ := DataW.trod_int Try.underlying2 (by simpa [Value.cells, show Try.prog.cellsOf 2 = 1 from by kernel_rfl] using hg 0 _ rfl)
    obtain ⟨n1, e1, _, u1⟩ := DataW.trod_int Try.underlying2 (by simpa [Value.cells, show Try.prog.cellsOf 2 = 1 from by kernel_rfl] using hg 1 _ rfl)
    cases e0; cases e1
    exact ⟨_, _, rfl, u0, u1⟩
  have k1 := h1
  have lt1 : ∀ x ∈ p1, x.block < W.heap.size := by obtain ⟨m, hm⟩ := k1; exact DataW.trod_lt m _ _ _ hm
  obtain ⟨a1_0, a1_1, rfl, w1_0, w1_1⟩ : ∃ (a1_0 : Int) (a1_1 : Int), v1 = .agg #[.int .i64 a1_0, .int .i64 a1_1] ∧ (Lit.int .i64 a1_0).wf = true ∧ (Lit.int .i64 a1_1).wf = true := by
    obtain ⟨cs, e, hsz⟩ := okWide_struct Try.underlying23 (hval 1 23 v1 rfl rfl)
    subst e
    obtain ⟨l⟩ := cs
    have hl0 : l.length = 2 := hsz.trans (show Try.prog.cellsOf 23 = 2 by kernel_rfl)
    obtain ⟨c0, l0, el0, hl1⟩ := len_succ hl0
    obtain ⟨c1, l1, el1, hl2⟩ := len_succ hl1
    have el2 := List.eq_nil_of_length_eq_zero hl2
    subst el2 el1 el0
    obtain ⟨fuel, hf⟩ := h1
    obtain ⟨xs, nn, _, hx, _, hlen, hg⟩ := DataW.trod_struct Try.underlying23 hf
    clear hf
    have hx0 : xs.length = 2 := hlen
    obtain ⟨y0, xs0, ex0, hx1⟩ := len_succ hx0
    obtain ⟨y1, xs1, ex1, hx2⟩ := len_succ hx1
    have ex2 := List.eq_nil_of_length_eq_zero hx2
    subst ex2 ex1 ex0
    obtain ⟨n0, e0, _, u0⟩ := DataW.trod_int Try.underlying2 (by simpa [Value.cells, show Try.prog.cellsOf 2 = 1 from by kernel_rfl] using hg 0 _ rfl)
    obtain ⟨n1, e1, _, u1⟩ := DataW.trod_int Try.underlying2 (by simpa [Value.cells, show Try.prog.cellsOf 2 = 1 from by kernel_rfl] using hg 1 _ rfl)
    cases e0; cases e1
    exact ⟨_, _, rfl, u0, u1⟩
  obtain ⟨a2, len2, cap2, rfl⟩ := okWide_slice Try.underlying24 (hval 2 24 v2 rfl rfl)
  have k2 := h2
  have lt2 : ∀ x ∈ p2, x.block < W.heap.size := by obtain ⟨m, hm⟩ := k2; exact DataW.trod_lt m _ _ _ hm
  obtain ⟨z2, w2⟩ : ∃ zs, SlP .i64 W a2 len2 cap2 zs := by
    obtain ⟨fuel, hf⟩ := h2
    obtain ⟨x, l, c, zs, hcs, hz⟩ := open_pairs Try.underlying24 Try.underlying31 (by kernel_rfl) rfl rfl (by kernel_rfl) (by kernel_rfl) Try.underlying3 Try.underlying3 hf
    simp [Value.cells] at hcs
    obtain ⟨rfl, rfl, rfl⟩ := hcs
    exact ⟨zs, hz⟩
  obtain ⟨a3, len3, cap3, rfl⟩ := okWide_slice Try.underlying25 (hval 3 25 v3 rfl rfl)
  have k3 := h3
  have lt3 : ∀ x ∈ p3, x.block < W.heap.size := by obtain ⟨m, hm⟩ := k3; exact DataW.trod_lt m _ _ _ hm
  obtain ⟨z3, w3⟩ : ∃ zs, IsRow .u8 W a3 len3 cap3 zs := by
    obtain ⟨fuel, hf⟩ := h3
    rcases open_ints Try.underlying25 Try.underlying5 (by kernel_rfl) hf with ⟨hcs, _⟩ | ⟨x, l, c, zs, hcs, _, hl, hm, hz, _, hcell, hwz⟩
    · simp [Value.cells] at hcs
      obtain ⟨rfl, rfl, rfl⟩ := hcs
      exact ⟨[], .inl ⟨rfl, rfl, rfl, rfl⟩⟩
    · simp [Value.cells] at hcs
      obtain ⟨rfl, rfl, rfl⟩ := hcs
      exact ⟨zs, .inr ⟨_, rfl, hl, hm, by simpa using hz, hcell, hwz⟩⟩
  obtain ⟨a4, rfl, rfl, rfl, w4⟩ := open_int Try.underlying3 (hval 4 3 v4 rfl rfl) h4
  obtain ⟨a5, rfl, rfl, rfl, w5⟩ := open_int Try.underlying3 (hval 5 3 v5 rfl rfl) h5
  clear hA0 hval0
  refine (walk a0_0 a0_1 a1_0 a1_1 a2 len2 cap2 z2 a3 len3 cap3 z3 a4 a5 W w0_0 w0_1 w1_0 w1_1 w2 w3 w4 w5).mono fun e W' ⟨he, bel⟩ => ?_
  subst he
  exact ⟨_, rfl, _, _, _, [], _, [], hW', trodAll_mk1 (shut_bool Try.underlying4 _), (trodAll_cons_mk (Below.trod laidOut (by kernel_rfl) (of_decide_eq_true (by kernel_rfl)) k0 bel lt0) (trodAll_cons_mk (Below.trod laidOut (by kernel_rfl) (of_decide_eq_true (by kernel_rfl)) k1 bel lt1) (trodAll_cons_mk (Below.trod laidOut (by kernel_rfl) (of_decide_eq_true (by kernel_rfl)) k2 bel lt2) (trodAll_cons_mk (Below.trod laidOut (by kernel_rfl) (of_decide_eq_true (by kernel_rfl)) k3 bel lt3) (trodAll_cons_mk (shut_int Try.underlying3 w4) (trodAll_cons_mk (shut_int Try.underlying3 w5) trodAll_mk0)))))), rfl, bel.frame _, fun h => by cases h⟩

theorem closed : joinedFacts Try.prog 3 Try.f3 Rows.controlDeclaresSpec Rows.controlDeclaresRow = true := by
  simp only [joinedFacts, Bool.and_eq_true]
  repeat' apply And.intro
  · kernel_rfl
  · exact pf_laid
  · exact pf_maps
  · kernel_rfl
  · kernel_rfl
  · kernel_rfl
  · kernel_rfl
  · kernel_rfl
  · kernel_rfl
  · kernel_rfl
  · kernel_rfl
  · kernel_rfl
  · kernel_rfl
  · kernel_rfl
  · kernel_rfl
  · kernel_rfl
  · kernel_rfl
  · kernel_rfl
  · kernel_rfl
  · kernel_rfl
  · kernel_rfl
  · kernel_rfl
  · kernel_rfl
  · kernel_rfl
  · exact pf_heard
  · exact pf_enter
  · exact (congrArg (fun b => (Rows.controlDeclaresRow.lifted == b)) pf_final).trans (by kernel_rfl)
  · exact (congrArg (fun m => (m == some Rows.controlDeclaresRow.make)) pf_make).trans (by kernel_rfl)
  all_goals kernel_rfl

theorem over : Rows.controlDeclaresRow.holds Try.pinned (OpenSpec.ofChange Rows.controlDeclaresSpec) :=
  OpenClaim.holds_of_wide 3 Try.f3 rfl rfl rfl rfl rfl rfl rfl ⟨rfl, rfl, rfl, rfl, rfl⟩ rfl rfl rfl rfl rfl (by kernel_rfl) Try.func3 closed
    (of_decide_eq_true (by kernel_rfl)) (by unfold Func.isWrapper; first | (rw [if_pos (by decide +kernel)]; kernel_rfl) | (rw [if_neg (by decide +kernel)]; exact ⟨rfl, rfl⟩))
    (fun os started H enc _ => lifted os started H enc)

theorem proved : Rows.ControlDeclaresSaid := over
#print axioms proved
end Go.Proofs.Ytfcdndlnjdelmaa.controlDeclares
