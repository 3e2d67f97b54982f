/- ResampleTakes returns true for every input and leaves its arguments as they were. -/
import Derived.Test.YtpikmjikoifjeaaRows
import Derived.Test.YtpikmjikoifjeaaLQU
import Derived.Test.YtpikmjikoifjeaaL15J
import Derived.Test.YtpikmjikoifjeaaPF
import Derived.WalkKit
import Derived.ProofKit
import Derived.OpenShut
import Derived.ShutString
import Derived.ChangeOld
import Derived.Below
namespace Go.Proofs.Ytpikmjikoifjeaa.resampleTakes
open Go.ChangeShapes Go.WideShapes Go.ChangeAt Go.RowKit
open Go.ChangeMaps (open_string shut_string)
set_option linter.unusedVariables false
set_option linter.unusedSimpArgs false

def IsRow (k : IntKind) (w : World) (a : Option Addr) (len cap : Nat) (zs : List Int) : Prop :=
  (a = none ∧ len = 0 ∧ cap = 0 ∧ zs = []) ∨
  ∃ x, a = some x ∧ len ≤ cap ∧ cap ≤ maxLen ∧ zs.length = cap ∧ (∀ i, i < zs.length → w.cell? (x.add i) = some (.int k (zs.getD i 0))) ∧ ∀ n ∈ zs, (Lit.int k n).wf = true

theorem len_succ {α : Type} {n : Nat} : ∀ {l : List α}, l.length = n + 1 → ∃ a t, l = a :: t ∧ t.length = n
  | [], h => by cases h
  | a :: t, h => ⟨a, t, rfl, by simpa using h⟩

theorem walk (a0_0 : Int) (a0_1 : Int) (a0_2 : Int) (a0_3 : Int) (a0_4 : Int) (a0_5 : Int) (a0_6 : Option Addr) (len0_6 cap0_6 : Nat) (z0_6 : List Int) (a1_0 : Int) (a1_1 : Option Addr) (len1_1 cap1_1 : Nat) (z1_1 : List Int) (a2 : Option Addr) (len2 cap2 : Nat) (z2 : List Int) (a3 : Int) (w : World) (w0_0 : (Lit.int .i64 a0_0).wf = true) (w0_1 : (Lit.int .i64 a0_1).wf = true) (w0_2 : (Lit.int .i64 a0_2).wf = true) (w0_3 : (Lit.int .i64 a0_3).wf = true) (w0_4 : (Lit.int .i64 a0_4).wf = true) (w0_5 : (Lit.int .i64 a0_5).wf = true) (w0_6 : IsRow .i32 w a0_6 len0_6 cap0_6 z0_6) (w1_0 : (Lit.int .i64 a1_0).wf = true) (w1_1 : IsRow .i32 w a1_1 len1_1 cap1_1 z1_1) (w2 : IsRow .u8 w a2 len2 cap2 z2) (w3 : (Lit.int .i64 a3).wf = true) :
    Calls Try.prog 4 #[.agg #[.int .i64 a0_0, .int .i64 a0_1, .int .i64 a0_2, .int .i64 a0_3, .int .i64 a0_4, .int .i64 a0_5, .slice a0_6 len0_6 cap0_6], .agg #[.int .i64 a1_0, .slice a1_1 len1_1 cap1_1], .slice a2 len2 cap2, .int .i64 a3] w fun e w' => e = .returned (.bool true) ∧ Below w.heap.size w w' := by
  exact resampleTakes_walk (sl_of_row w0_6) (sl_of_row w1_1) (sl_of_row w2) (bounds_i64 w3)

set_option maxRecDepth 100000 in
theorem lifted (os : Os) (started : os.Started) (H : Type) (enc : TypeId × Value → H) :
    ReturnsInHanded {} Try.checked os 4 .any (Rows.resampleTakesSpec.pre6 enc Try.prog Try.f4 Rows.resampleTakesRow.domain false) (Rows.resampleTakesSpec.post enc Try.prog Try.f4 false true false false) := by
  refine returnsInHanded_of_change (C := Try.checked) own started (by kernel_rfl) Try.func4
    (ChangeSpec.witness6 (enc := enc) (C := Try.checked) false ⟨#[], #[.agg #[.int .i64 0, .int .i64 0, .int .i64 0, .int .i64 0, .int .i64 0, .int .i64 0, .slice none 0 0], .agg #[.int .i64 0, .slice none 0 0], .slice none 0 0, .int .i64 0], []⟩ 8 (by kernel_rfl) (by kernel_rfl) (by kernel_rfl) (by kernel_rfl)) ?_
  intro W base args ds gs before hval0 hW hcnd _
  have hval : ∀ (j : Nat) t v, Try.f4.params[j]? = some t → args[j]? = some v → Value.okWide Try.prog W .any base t v := hval0
  have hW' := hW
  obtain ⟨p, q, hA0, hV, rfl, hfz, hnd⟩ := hW
  have hA : DataW.TrodAll enc Try.prog W 0 (fun _ => true) true Try.f4.params.toList args.toList ds p := hA0
  rw [Try.params4] at hA hval
  obtain ⟨v0, vs0, d0, ds0, p0, q0, hargs, rfl, rfl, h0, r0⟩ := trodAll_cons hA
  obtain ⟨v1, vs1, d1, ds1, p1, q1, rfl, rfl, rfl, h1, r1⟩ := trodAll_cons r0
  obtain ⟨v2, vs2, d2, ds2, p2, q2, rfl, rfl, rfl, h2, r2⟩ := trodAll_cons r1
  obtain ⟨v3, vs3, d3, ds3, p3, q3, rfl, rfl, rfl, h3, r3⟩ := trodAll_cons r2
  obtain ⟨rfl, rfl, rfl⟩ := trodAll_nil r3
  obtain rfl : args = #[v0, v1, v2, v3] := by cases args; simp_all
  obtain ⟨rfl, rfl⟩ := trodVars_none hV
  have k0 := h0
  have lt0 : ∀ x ∈ p0, x.block < W.heap.size := by obtain ⟨m, hm⟩ := k0; exact DataW.trod_lt m _ _ _ hm
  obtain ⟨a0_0, a0_1, a0_2, a0_3, a0_4, a0_5, a0_6, len0_6, cap0_6, z0_6, rfl, w0_0, w0_1, w0_2, w0_3, w0_4, w0_5, w0_6⟩ : ∃ (a0_0 : Int) (a0_1 : Int) (a0_2 : Int) (a0_3 : Int) (a0_4 : Int) (a0_5 : Int) (a0_6 : Option Addr) (len0_6 cap0_6 : Nat) (z0_6 : List Int), v0 = .agg #[.int .i64 a0_0, .int .i64 a0_1, .int .i64 a0_2, .int .i64 a0_3, .int .i64 a0_4, .int .i64 a0_5, .slice a0_6 len0_6 cap0_6] ∧ (Lit.int .i64 a0_0).wf = true ∧ (Lit.int .i64 a0_1).wf = true ∧ (Lit.int .i64 a0_2).wf = true ∧ (Lit.int .i64 a0_3).wf = true ∧ (Lit.int .i64 a0_4).wf = true ∧ (Lit.int .i64 a0_5).wf = true ∧ IsRow .i32 W a0_6 len0_6 cap0_6 z0_6 := by
    obtain ⟨cs, e, hsz⟩ := okWide_struct Try.underlying28 (hval 0 28 v0 rfl rfl)
    subst e
    obtain ⟨l⟩ := cs
    have hl0 : l.length = 7 := hsz.trans (show Try.prog.cellsOf 28 = 7 by kernel_rfl)
    obtain ⟨c0, l0, el0, hl1⟩ := len_succ hl0
    obtain ⟨c1, l1, el1, hl2⟩ := len_succ hl1
    obtain ⟨c2, l2, el2, hl3⟩ := len_succ hl2
    obtain ⟨c3, l3, el3, hl4⟩ := len_succ hl3
    obtain ⟨c4, l4, el4, hl5⟩ := len_succ hl4
    obtain ⟨c5, l5, el5, hl6⟩ := len_succ hl5
    obtain ⟨c6, l6, el6, hl7⟩ := len_succ hl6
    have el7 := List.eq_nil_of_length_eq_zero hl7
    subst el7 el6 el5 el4 el3 el2 el1 el0
    obtain ⟨fuel, hf⟩ := h0
    obtain ⟨xs, nn, _, hx, _, hlen, hg⟩ := DataW.trod_struct Try.underlying28 hf
    clear hf
    have hx0 : xs.length = 3 := hlen
    obtain ⟨y0, xs0, ex0, hx1⟩ := len_succ hx0
    obtain ⟨y1, xs1, ex1, hx2⟩ := len_succ hx1
    obtain ⟨y2, xs2, ex2, hx3⟩ := len_succ hx2
    have ex3 := List.eq_nil_of_length_eq_zero hx3
    subst ex3 ex2 ex1 ex0
    obtain ⟨n0, e0, _, u0⟩ := DataW.trod_int Try.underlying3 (by simpa [Value.cells, show Try.prog.cellsOf 3 = 1 from by kernel_rfl] using hg 0 _ rfl)
    have hq1 := hg 1 _ rfl
    simp [Value.cells, show Try.prog.cellsOf 25 = 5 from by kernel_rfl] at hq1
    obtain ⟨zs1, nn1, _, hz1x, _, hlen1, hg1⟩ := DataW.trod_struct Try.underlying25 hq1
    have hz1_0 : zs1.length = 4 := hlen1
    obtain ⟨yy1_0, zs1_0, ez1_0, hz1_1⟩ := len_succ hz1_0
    obtain ⟨yy1_1, zs1_1, ez1_1, hz1_2⟩ := len_succ hz1_1
    obtain ⟨yy1_2, zs1_2, ez1_2, hz1_3⟩ := len_succ hz1_2
    obtain ⟨yy1_3, zs1_3, ez1_3, hz1_4⟩ := len_succ hz1_3
    have ez1_4 := List.eq_nil_of_length_eq_zero hz1_4
    subst ez1_4 ez1_3 ez1_2 ez1_1 ez1_0
    have hq1n0 := hg1 0 _ rfl
    simp [Value.cells, show Try.prog.cellsOf 23 = 2 from by kernel_rfl] at hq1n0
    obtain ⟨zs1n0, nn1n0, _, hz1n0x, _, hlen1n0, hg1n0⟩ := DataW.trod_struct Try.underlying23 hq1n0
    have hz1n0_0 : zs1n0.length = 2 := hlen1n0
    obtain ⟨yy1n0_0, zs1n0_0, ez1n0_0, hz1n0_1⟩ := len_succ hz1n0_0
    obtain ⟨yy1n0_1, zs1n0_1, ez1n0_1, hz1n0_2⟩ := len_succ hz1n0_1
    have ez1n0_2 := List.eq_nil_of_length_eq_zero hz1n0_2
    subst ez1n0_2 ez1n0_1 ez1n0_0
    obtain ⟨n1, e1, _, u1⟩ := DataW.trod_int Try.underlying2 (by simpa [Value.cells, show Try.prog.cellsOf 2 = 1 from by kernel_rfl] using hg1n0 0 _ rfl)
    obtain ⟨n2, e2, _, u2⟩ := DataW.trod_int Try.underlying2 (by simpa [Value.cells, show Try.prog.cellsOf 2 = 1 from by kernel_rfl] using hg1n0 1 _ rfl)
    obtain ⟨n3, e3, _, u3⟩ := DataW.trod_int Try.underlying3 (by simpa [Value.cells, show Try.prog.cellsOf 3 = 1 from by kernel_rfl] using hg1 1 _ rfl)
    obtain ⟨n4, e4, _, u4⟩ := DataW.trod_int Try.underlying2 (by simpa [Value.cells, show Try.prog.cellsOf 2 = 1 from by kernel_rfl] using hg1 2 _ rfl)
    obtain ⟨n5, e5, _, u5⟩ := DataW.trod_int Try.underlying2 (by simpa [Value.cells, show Try.prog.cellsOf 2 = 1 from by kernel_rfl] using hg1 3 _ rfl)
    have hs6 := hg 2 _ rfl
    simp [Value.cells, show Try.prog.cellsOf 26 = 1 from by kernel_rfl] at hs6
    obtain ⟨x6, l6x, k6x, q6, e6, u6⟩ : ∃ (x : Option Addr) (l c : Nat) (zs : List Int), [c6] = [Value.slice x l c] ∧ IsRow .i32 W x l c zs := by
      rcases open_ints Try.underlying26 Try.underlying21 (by kernel_rfl) hs6 with ⟨hcs, _⟩ | ⟨x, l, c, zs, hcs, _, hl, hm, hz, _, hcell, hwz⟩
      · exact ⟨none, 0, 0, [], hcs, .inl ⟨rfl, rfl, rfl, rfl⟩⟩
      · exact ⟨some x, l, c, zs, hcs, .inr ⟨x, rfl, hl, hm, by simpa using hz, hcell, hwz⟩⟩
    cases e0; cases e1; cases e2; cases e3; cases e4; cases e5; cases e6
    exact ⟨_, _, _, _, _, _, _, _, _, _, rfl, u0, u1, u2, u3, u4, u5, u6⟩
  have k1 := h1
  have lt1 : ∀ x ∈ p1, x.block < W.heap.size := by obtain ⟨m, hm⟩ := k1; exact DataW.trod_lt m _ _ _ hm
  obtain ⟨a1_0, a1_1, len1_1, cap1_1, z1_1, rfl, w1_0, w1_1⟩ : ∃ (a1_0 : Int) (a1_1 : Option Addr) (len1_1 cap1_1 : Nat) (z1_1 : List Int), v1 = .agg #[.int .i64 a1_0, .slice a1_1 len1_1 cap1_1] ∧ (Lit.int .i64 a1_0).wf = true ∧ IsRow .i32 W a1_1 len1_1 cap1_1 z1_1 := by
    obtain ⟨cs, e, hsz⟩ := okWide_struct Try.underlying30 (hval 1 30 v1 rfl rfl)
    subst e
    obtain ⟨l⟩ := cs
    have hl0 : l.length = 2 := hsz.trans (show Try.prog.cellsOf 30 = 2 by kernel_rfl)
    obtain ⟨c0, l0, el0, hl1⟩ := len_succ hl0
    obtain ⟨c1, l1, el1, hl2⟩ := len_succ hl1
    have el2 := List.eq_nil_of_length_eq_zero hl2
    subst el2 el1 el0
    obtain ⟨fuel, hf⟩ := h1
    obtain ⟨xs, nn, _, hx, _, hlen, hg⟩ := DataW.trod_struct Try.underlying30 hf
    clear hf
    have hx0 : xs.length = 2 := hlen
    obtain ⟨y0, xs0, ex0, hx1⟩ := len_succ hx0
    obtain ⟨y1, xs1, ex1, hx2⟩ := len_succ hx1
    have ex2 := List.eq_nil_of_length_eq_zero hx2
    subst ex2 ex1 ex0
    obtain ⟨n0, e0, _, u0⟩ := DataW.trod_int Try.underlying3 (by simpa [Value.cells, show Try.prog.cellsOf 3 = 1 from by kernel_rfl] using hg 0 _ rfl)
    have hs1 := hg 1 _ rfl
    simp [Value.cells, show Try.prog.cellsOf 26 = 1 from by kernel_rfl] at hs1
    obtain ⟨x1, l1x, k1x, q1, e1, u1⟩ : ∃ (x : Option Addr) (l c : Nat) (zs : List Int), [c1] = [Value.slice x l c] ∧ IsRow .i32 W x l c zs := by
      rcases open_ints Try.underlying26 Try.underlying21 (by kernel_rfl) hs1 with ⟨hcs, _⟩ | ⟨x, l, c, zs, hcs, _, hl, hm, hz, _, hcell, hwz⟩
      · exact ⟨none, 0, 0, [], hcs, .inl ⟨rfl, rfl, rfl, rfl⟩⟩
      · exact ⟨some x, l, c, zs, hcs, .inr ⟨x, rfl, hl, hm, by simpa using hz, hcell, hwz⟩⟩
    cases e0; cases e1
    exact ⟨_, _, _, _, _, rfl, u0, u1⟩
  obtain ⟨a2, len2, cap2, rfl⟩ := okWide_slice Try.underlying31 (hval 2 31 v2 rfl rfl)
  have k2 := h2
  have lt2 : ∀ x ∈ p2, x.block < W.heap.size := by obtain ⟨m, hm⟩ := k2; exact DataW.trod_lt m _ _ _ hm
  obtain ⟨z2, w2⟩ : ∃ zs, IsRow .u8 W a2 len2 cap2 zs := by
    obtain ⟨fuel, hf⟩ := h2
    rcases open_ints Try.underlying31 Try.underlying5 (by kernel_rfl) hf with ⟨hcs, _⟩ | ⟨x, l, c, zs, hcs, _, hl, hm, hz, _, hcell, hwz⟩
    · simp [Value.cells] at hcs
      obtain ⟨rfl, rfl, rfl⟩ := hcs
      exact ⟨[], .inl ⟨rfl, rfl, rfl, rfl⟩⟩
    · simp [Value.cells] at hcs
      obtain ⟨rfl, rfl, rfl⟩ := hcs
      exact ⟨zs, .inr ⟨_, rfl, hl, hm, by simpa using hz, hcell, hwz⟩⟩
  obtain ⟨a3, rfl, rfl, rfl, w3⟩ := open_int Try.underlying3 (hval 3 3 v3 rfl rfl) h3
  clear hA0 hval0
  refine (walk a0_0 a0_1 a0_2 a0_3 a0_4 a0_5 a0_6 len0_6 cap0_6 z0_6 a1_0 a1_1 len1_1 cap1_1 z1_1 a2 len2 cap2 z2 a3 W w0_0 w0_1 w0_2 w0_3 w0_4 w0_5 w0_6 w1_0 w1_1 w2 w3).mono fun e W' ⟨he, bel⟩ => ?_
  subst he
  exact ⟨_, rfl, _, _, _, [], _, [], hW', trodAll_mk1 (shut_bool Try.underlying4 _), (trodAll_cons_mk (Below.trod laidOut (by kernel_rfl) (of_decide_eq_true (by kernel_rfl)) k0 bel lt0) (trodAll_cons_mk (Below.trod laidOut (by kernel_rfl) (of_decide_eq_true (by kernel_rfl)) k1 bel lt1) (trodAll_cons_mk (Below.trod laidOut (by kernel_rfl) (of_decide_eq_true (by kernel_rfl)) k2 bel lt2) (trodAll_cons_mk (shut_int Try.underlying3 w3) trodAll_mk0)))), rfl, bel.frame _, fun h => by cases h⟩

theorem closed : joinedFacts Try.prog 4 Try.f4 Rows.resampleTakesSpec Rows.resampleTakesRow = true := by
  simp only [joinedFacts, Bool.and_eq_true]
  repeat' apply And.intro
  · kernel_rfl
  · exact pf_laid
  · exact pf_maps
  · kernel_rfl
  · kernel_rfl
  · kernel_rfl
  · kernel_rfl
  · kernel_rfl
  · kernel_rfl
  · kernel_rfl
  · kernel_rfl
  · kernel_rfl
  · kernel_rfl
  · kernel_rfl
  · kernel_rfl
  · kernel_rfl
  · kernel_rfl
  · kernel_rfl
  · kernel_rfl
  · kernel_rfl
  · kernel_rfl
  · kernel_rfl
  · kernel_rfl
  · kernel_rfl
  · exact pf_heard
  · exact pf_enter
  · exact (congrArg (fun b => (Rows.resampleTakesRow.lifted == b)) pf_final).trans (by kernel_rfl)
  · exact (congrArg (fun m => (m == some Rows.resampleTakesRow.make)) pf_make).trans (by kernel_rfl)
  all_goals kernel_rfl

theorem over : Rows.resampleTakesRow.holds Try.pinned (OpenSpec.ofChange Rows.resampleTakesSpec) :=
  OpenClaim.holds_of_wide 4 Try.f4 rfl rfl rfl rfl rfl rfl rfl ⟨rfl, rfl, rfl, rfl, rfl⟩ rfl rfl rfl rfl rfl (by kernel_rfl) Try.func4 closed
    (of_decide_eq_true (by kernel_rfl)) (by unfold Func.isWrapper; first | (rw [if_pos (by decide +kernel)]; kernel_rfl) | (rw [if_neg (by decide +kernel)]; exact ⟨rfl, rfl⟩))
    (fun os started H enc _ => lifted os started H enc)

theorem proved : Rows.ResampleTakesSaid := over
#print axioms proved
end Go.Proofs.Ytpikmjikoifjeaa.resampleTakes
