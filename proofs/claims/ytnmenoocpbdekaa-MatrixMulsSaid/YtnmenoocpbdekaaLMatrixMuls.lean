/- MatrixMuls returns true for every input and leaves its arguments as they were. -/
import Derived.Test.YtnmenoocpbdekaaRows
import Derived.Test.YtnmenoocpbdekaaLMU
import Derived.Test.YtnmenoocpbdekaaPF
import Derived.WalkKit
import Derived.ProofKit
import Derived.OpenShut
import Derived.ShutString
import Derived.ChangeOld
import Derived.Below
namespace Go.Proofs.Ytnmenoocpbdekaa.matrixMuls
open Go.ChangeShapes Go.WideShapes Go.ChangeAt Go.RowKit
open Go.ChangeMaps (open_string shut_string)
set_option linter.unusedVariables false

def IsRow (k : IntKind) (w : World) (a : Option Addr) (len cap : Nat) (zs : List Int) : Prop :=
  (a = none ∧ len = 0 ∧ cap = 0 ∧ zs = []) ∨
  ∃ x, a = some x ∧ len ≤ cap ∧ cap ≤ maxLen ∧ zs.length = cap ∧ (∀ i, i < zs.length → w.cell? (x.add i) = some (.int k (zs.getD i 0))) ∧ ∀ n ∈ zs, (Lit.int k n).wf = true

theorem len_succ {α : Type} {n : Nat} : ∀ {l : List α}, l.length = n + 1 → ∃ a t, l = a :: t ∧ t.length = n
  | [], h => by cases h
  | a :: t, h => ⟨a, t, rfl, by simpa using h⟩

theorem walk (a0_0 : Int) (a0_1 : Int) (a0_2 : Option Addr) (len0_2 cap0_2 : Nat) (z0_2 : List Int) (a1_0 : Int) (a1_1 : Int) (a1_2 : Option Addr) (len1_2 cap1_2 : Nat) (z1_2 : List Int) (a2 : Option Addr) (len2 cap2 : Nat) (z2 : List Int) (w : World) (w0_0 : (Lit.int .i64 a0_0).wf = true) (w0_1 : (Lit.int .i64 a0_1).wf = true) (w0_2 : IsRow .i64 w a0_2 len0_2 cap0_2 z0_2) (w1_0 : (Lit.int .i64 a1_0).wf = true) (w1_1 : (Lit.int .i64 a1_1).wf = true) (w1_2 : IsRow .i64 w a1_2 len1_2 cap1_2 z1_2) (w2 : IsRow .u8 w a2 len2 cap2 z2) :
    Calls Try.prog 8 #[.agg #[.int .i64 a0_0, .int .i64 a0_1, .slice a0_2 len0_2 cap0_2], .agg #[.int .i64 a1_0, .int .i64 a1_1, .slice a1_2 len1_2 cap1_2], .slice a2 len2 cap2] w fun e w' => e = .returned (.bool true) ∧ Below w.heap.size w w' := by
  exact matrixMuls_walk (sl_of_row w0_2) (sl_of_row w1_2) (sl_of_row w2)

set_option maxRecDepth 100000 in
theorem lifted (os : Os) (started : os.Started) (H : Type) (enc : TypeId × Value → H) :
    ReturnsInHanded {} Try.checked os 8 .any (Rows.matrixMulsSpec.pre6 enc Try.prog Try.f8 Rows.matrixMulsRow.domain false) (Rows.matrixMulsSpec.post enc Try.prog Try.f8 false true false false) := by
  refine returnsInHanded_of_change (C := Try.checked) own started (by kernel_rfl) Try.func8
    (ChangeSpec.witness6 (enc := enc) (C := Try.checked) false ⟨#[], #[.agg #[.int .i64 0, .int .i64 0, .slice none 0 0], .agg #[.int .i64 0, .int .i64 0, .slice none 0 0], .slice none 0 0], []⟩ 8 (by kernel_rfl) (by kernel_rfl) (by kernel_rfl) (by kernel_rfl)) ?_
  intro W base args ds gs before hval0 hW hcnd _
  have hval : ∀ (j : Nat) t v, Try.f8.params[j]? = some t → args[j]? = some v → Value.okWide Try.prog W .any base t v := hval0
  have hW' := hW
  obtain ⟨p, q, hA0, hV, rfl, hfz, hnd⟩ := hW
  have hA : DataW.TrodAll enc Try.prog W 0 (fun _ => true) true Try.f8.params.toList args.toList ds p := hA0
  rw [Try.params8] at hA hval
  obtain ⟨v0, vs0, d0, ds0, p0, q0, hargs, rfl, rfl, h0, r0⟩ := trodAll_cons hA
  obtain ⟨v1, vs1, d1, ds1, p1, q1, rfl, rfl, rfl, h1, r1⟩ := trodAll_cons r0
  obtain ⟨v2, vs2, d2, ds2, p2, q2, rfl, rfl, rfl, h2, r2⟩ := trodAll_cons r1
  obtain ⟨rfl, rfl, rfl⟩ := trodAll_nil r2
  obtain rfl : args = #[v0, v1, v2] := by cases args; simp_all
  obtain ⟨rfl, rfl⟩ := trodVars_none hV
  have k0 := h0
  have lt0 : ∀ x ∈ p0, x.block < W.heap.size := by obtain ⟨m, hm⟩ := k0; exact DataW.trod_lt m _ _ _ hm
  obtain ⟨a0_0, a0_1, a0_2, len0_2, cap0_2, z0_2, rfl, w0_0, w0_1, w0_2⟩ : ∃ (a0_0 : Int) (a0_1 : Int) (a0_2 : Option Addr) (len0_2 cap0_2 : Nat) (z0_2 : List Int), v0 = .agg #[.int .i64 a0_0, .int .i64 a0_1, .slice a0_2 len0_2 cap0_2] ∧ (Lit.int .i64 a0_0).wf = true ∧ (Lit.int .i64 a0_1).wf = true ∧ IsRow .i64 W a0_2 len0_2 cap0_2 z0_2 := by
    obtain ⟨cs, e, hsz⟩ := okWide_struct Try.underlying77 (hval 0 77 v0 rfl rfl)
    subst e
    obtain ⟨l⟩ := cs
    have hl0 : l.length = 3 := hsz.trans (show Try.prog.cellsOf 77 = 3 by kernel_rfl)
    obtain ⟨c0, l0, el0, hl1⟩ := len_succ hl0
    obtain ⟨c1, l1, el1, hl2⟩ := len_succ hl1
    obtain ⟨c2, l2, el2, hl3⟩ := len_succ hl2
    have el3 := List.eq_nil_of_length_eq_zero hl3
    subst el3 el2 el1 el0
    obtain ⟨fuel, hf⟩ := h0
    obtain ⟨xs, nn, _, hx, _, hlen, hg⟩ := DataW.trod_struct Try.underlying77 hf
    clear hf
    have hx0 : xs.length = 3 := hlen
    obtain ⟨y0, xs0, ex0, hx1⟩ := len_succ hx0
    obtain ⟨y1, xs1, ex1, hx2⟩ := len_succ hx1
    obtain ⟨y2, xs2, ex2, hx3⟩ := len_succ hx2
    have ex3 := List.eq_nil_of_length_eq_zero hx3
    subst ex3 ex2 ex1 ex0
    obtain ⟨n0, e0, _, u0⟩ := DataW.trod_int Try.underlying3 (by simpa [Value.cells, show Try.prog.cellsOf 3 = 1 from by kernel_rfl] using hg 0 _ rfl)
    obtain ⟨n1, e1, _, u1⟩ := DataW.trod_int Try.underlying3 (by simpa [Value.cells, show Try.prog.cellsOf 3 = 1 from by kernel_rfl] using hg 1 _ rfl)
    have hs2 := hg 2 _ rfl
    simp [Value.cells, show Try.prog.cellsOf 52 = 1 from by kernel_rfl] at hs2
    obtain ⟨x2, l2x, k2x, q2, e2, u2⟩ : ∃ (x : Option Addr) (l c : Nat) (zs : List Int), [c2] = [Value.slice x l c] ∧ IsRow .i64 W x l c zs := by
      rcases open_ints Try.underlying52 Try.underlying3 (by kernel_rfl) hs2 with ⟨hcs, _⟩ | ⟨x, l, c, zs, hcs, _, hl, hm, hz, _, hcell, hwz⟩
      · exact ⟨none, 0, 0, [], hcs, .inl ⟨rfl, rfl, rfl, rfl⟩⟩
      · exact ⟨some x, l, c, zs, hcs, .inr ⟨x, rfl, hl, hm, by simpa using hz, hcell, hwz⟩⟩
    cases e0; cases e1; cases e2
    exact ⟨_, _, _, _, _, _, rfl, u0, u1, u2⟩
  have k1 := h1
  have lt1 : ∀ x ∈ p1, x.block < W.heap.size := by obtain ⟨m, hm⟩ := k1; exact DataW.trod_lt m _ _ _ hm
  obtain ⟨a1_0, a1_1, a1_2, len1_2, cap1_2, z1_2, rfl, w1_0, w1_1, w1_2⟩ : ∃ (a1_0 : Int) (a1_1 : Int) (a1_2 : Option Addr) (len1_2 cap1_2 : Nat) (z1_2 : List Int), v1 = .agg #[.int .i64 a1_0, .int .i64 a1_1, .slice a1_2 len1_2 cap1_2] ∧ (Lit.int .i64 a1_0).wf = true ∧ (Lit.int .i64 a1_1).wf = true ∧ IsRow .i64 W a1_2 len1_2 cap1_2 z1_2 := by
    obtain ⟨cs, e, hsz⟩ := okWide_struct Try.underlying77 (hval 1 77 v1 rfl rfl)
    subst e
    obtain ⟨l⟩ := cs
    have hl0 : l.length = 3 := hsz.trans (show Try.prog.cellsOf 77 = 3 by kernel_rfl)
    obtain ⟨c0, l0, el0, hl1⟩ := len_succ hl0
    obtain ⟨c1, l1, el1, hl2⟩ := len_succ hl1
    obtain ⟨c2, l2, el2, hl3⟩ := len_succ hl2
    have el3 := List.eq_nil_of_length_eq_zero hl3
    subst el3 el2 el1 el0
    obtain ⟨fuel, hf⟩ := h1
    obtain ⟨xs, nn, _, hx, _, hlen, hg⟩ := DataW.trod_struct Try.underlying77 hf
    clear hf
    have hx0 : xs.length = 3 := hlen
    obtain ⟨y0, xs0, ex0, hx1⟩ := len_succ hx0
    obtain ⟨y1, xs1, ex1, hx2⟩ := len_succ hx1
    obtain ⟨y2, xs2, ex2, hx3⟩ := len_succ hx2
    have ex3 := List.eq_nil_of_length_eq_zero hx3
    subst ex3 ex2 ex1 ex0
    obtain ⟨n0, e0, _, u0⟩ := DataW.trod_int Try.underlying3 (by simpa [Value.cells, show Try.prog.cellsOf 3 = 1 from by kernel_rfl] using hg 0 _ rfl)
    obtain ⟨n1, e1, _, u1⟩ := DataW.trod_int Try.underlying3 (by simpa [Value.cells, show Try.prog.cellsOf 3 = 1 from by kernel_rfl] using hg 1 _ rfl)
    have hs2 := hg 2 _ rfl
    simp [Value.cells, show Try.prog.cellsOf 52 = 1 from by kernel_rfl] at hs2
    obtain ⟨x2, l2x, k2x, q2, e2, u2⟩ : ∃ (x : Option Addr) (l c : Nat) (zs : List Int), [c2] = [Value.slice x l c] ∧ IsRow .i64 W x l c zs := by
      rcases open_ints Try.underlying52 Try.underlying3 (by kernel_rfl) hs2 with ⟨hcs, _⟩ | ⟨x, l, c, zs, hcs, _, hl, hm, hz, _, hcell, hwz⟩
      · exact ⟨none, 0, 0, [], hcs, .inl ⟨rfl, rfl, rfl, rfl⟩⟩
      · exact ⟨some x, l, c, zs, hcs, .inr ⟨x, rfl, hl, hm, by simpa using hz, hcell, hwz⟩⟩
    cases e0; cases e1; cases e2
    exact ⟨_, _, _, _, _, _, rfl, u0, u1, u2⟩
  obtain ⟨a2, len2, cap2, rfl⟩ := okWide_slice Try.underlying27 (hval 2 27 v2 rfl rfl)
  have k2 := h2
  have lt2 : ∀ x ∈ p2, x.block < W.heap.size := by obtain ⟨m, hm⟩ := k2; exact DataW.trod_lt m _ _ _ hm
  obtain ⟨z2, w2⟩ : ∃ zs, IsRow .u8 W a2 len2 cap2 zs := by
    obtain ⟨fuel, hf⟩ := h2
    rcases open_ints Try.underlying27 Try.underlying5 (by kernel_rfl) hf with ⟨hcs, _⟩ | ⟨x, l, c, zs, hcs, _, hl, hm, hz, _, hcell, hwz⟩
    · simp [Value.cells] at hcs
      obtain ⟨rfl, rfl, rfl⟩ := hcs
      exact ⟨[], .inl ⟨rfl, rfl, rfl, rfl⟩⟩
    · simp [Value.cells] at hcs
      obtain ⟨rfl, rfl, rfl⟩ := hcs
      exact ⟨zs, .inr ⟨_, rfl, hl, hm, by simpa using hz, hcell, hwz⟩⟩
  clear hA0 hval0
  refine (walk a0_0 a0_1 a0_2 len0_2 cap0_2 z0_2 a1_0 a1_1 a1_2 len1_2 cap1_2 z1_2 a2 len2 cap2 z2 W w0_0 w0_1 w0_2 w1_0 w1_1 w1_2 w2).mono fun e W' ⟨he, bel⟩ => ?_
  subst he
  exact ⟨_, rfl, _, _, _, [], _, [], hW', trodAll_mk1 (shut_bool Try.underlying4 _), (trodAll_cons_mk (Below.trod laidOut (by kernel_rfl) (of_decide_eq_true (by kernel_rfl)) k0 bel lt0) (trodAll_cons_mk (Below.trod laidOut (by kernel_rfl) (of_decide_eq_true (by kernel_rfl)) k1 bel lt1) (trodAll_cons_mk (Below.trod laidOut (by kernel_rfl) (of_decide_eq_true (by kernel_rfl)) k2 bel lt2) trodAll_mk0))), rfl, bel.frame _, fun h => by cases h⟩

theorem closed : joinedFacts Try.prog 8 Try.f8 Rows.matrixMulsSpec Rows.matrixMulsRow = true := by
  simp only [joinedFacts, Bool.and_eq_true]
  repeat' apply And.intro
  · kernel_rfl
  · exact pf_laid
  · exact pf_maps
  · kernel_rfl
  · kernel_rfl
  · kernel_rfl
  · kernel_rfl
  · kernel_rfl
  · kernel_rfl
  · kernel_rfl
  · kernel_rfl
  · kernel_rfl
  · kernel_rfl
  · kernel_rfl
  · kernel_rfl
  · kernel_rfl
  · kernel_rfl
  · kernel_rfl
  · kernel_rfl
  · kernel_rfl
  · kernel_rfl
  · kernel_rfl
  · kernel_rfl
  · kernel_rfl
  · exact pf_heard
  · exact pf_enter
  · exact (congrArg (fun b => (Rows.matrixMulsRow.lifted == b)) pf_final).trans (by kernel_rfl)
  · exact (congrArg (fun m => (m == some Rows.matrixMulsRow.make)) pf_make).trans (by kernel_rfl)
  all_goals kernel_rfl

theorem over : Rows.matrixMulsRow.holds Try.pinned (OpenSpec.ofChange Rows.matrixMulsSpec) :=
  OpenClaim.holds_of_wide 8 Try.f8 rfl rfl rfl rfl rfl rfl rfl ⟨rfl, rfl, rfl, rfl, rfl⟩ rfl rfl rfl rfl rfl (by kernel_rfl) Try.func8 closed
    (of_decide_eq_true (by kernel_rfl)) (by unfold Func.isWrapper; first | (rw [if_pos (by decide +kernel)]; kernel_rfl) | (rw [if_neg (by decide +kernel)]; exact ⟨rfl, rfl⟩))
    (fun os started H enc _ => lifted os started H enc)

theorem proved : Rows.MatrixMulsSaid := over
#print axioms proved
end Go.Proofs.Ytnmenoocpbdekaa.matrixMuls
