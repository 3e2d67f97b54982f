/- BridgeMoves returns true for every input and leaves its arguments as they were. -/
import Derived.Test.YtkneaefmjdlegaaRows
import Derived.Test.YtkneaefmjdlegaaZLRM
import Derived.Test.YtkneaefmjdlegaaZPF
import Derived.WalkKit
import Derived.ProofKit
import Derived.OpenShut
import Derived.ShutString
import Derived.ChangeOld
import Derived.Below
namespace Go.Proofs.Ytkneaefmjdlegaa.bridgeMoves
open Go.ChangeShapes Go.WideShapes Go.ChangeAt Go.RowKit
open Go.ChangeMaps (open_string shut_string)
set_option linter.unusedVariables false
set_option linter.unusedSimpArgs false
def IsRow (k : IntKind) (w : World) (a : Option Addr) (len cap : Nat) (zs : List Int) : Prop :=
  (a = none ∧ len = 0 ∧ cap = 0 ∧ zs = []) ∨
  ∃ x, a = some x ∧ len ≤ cap ∧ cap ≤ maxLen ∧ zs.length = cap ∧ (∀ i, i < zs.length → w.cell? (x.add i) = some (.int k (zs.getD i 0))) ∧ ∀ n ∈ zs, (Lit.int k n).wf = true
theorem len_succ {α : Type} {n : Nat} : ∀ {l : List α}, l.length = n + 1 → ∃ a t, l = a :: t ∧ t.length = n
  | [], h => by cases h
  | a :: t, h => ⟨a, t, rfl, by simpa using h⟩
theorem walk (a0_0 : Int) (a0_1 : Int) (a0_2 : Int) (a0_3 : Int) (a0_4 : Int) (a0_5 : Int) (a0_6 : Int) (a0_7 : Int) (a0_8 : Int) (a0_9 : Int) (a0_10 : Int) (a0_11 : Option Addr) (len0_11 cap0_11 : Nat) (z0_11 : List Int) (a0_12 : Int) (a0_13 : Int) (a1_0 : Int) (a1_1 : Option Addr) (len1_1 cap1_1 : Nat) (z1_1 : List Int) (a2 : Option Addr) (len2 cap2 : Nat) (z2 : List Int) (a3 : Int) (a4 : Int) (a5 : Int) (a6_0 : Int) (a6_1 : Int) (a7_0 : Int) (a7_1 : Int) (a7_2 : Int) (a7_3 : Int) (w : World) (w0_0 : (Lit.int .i64 a0_0).wf = true) (w0_1 : (Lit.int .i64 a0_1).wf = true) (w0_2 : (Lit.int .i64 a0_2).wf = true) (w0_3 : (Lit.int .i64 a0_3).wf = true) (w0_4 : (Lit.int .i64 a0_4).wf = true) (w0_5 : (Lit.int .i64 a0_5).wf = true) (w0_6 : (Lit.int .i64 a0_6).wf = true) (w0_7 : (Lit.int .i64 a0_7).wf = true) (w0_8 : (Lit.int .i64 a0_8).wf = true) (w0_9 : (Lit.int .i64 a0_9).wf = true) (w0_10 : (Lit.int .i64 a0_10).wf = true) (w0_11 : IsRow .i32 w a0_11 len0_11 cap0_11 z0_11) (w0_12 : (Lit.int .i64 a0_12).wf = true) (w0_13 : (Lit.int .i64 a0_13).wf = true) (w1_0 : (Lit.int .i64 a1_0).wf = true) (w1_1 : IsRow .i32 w a1_1 len1_1 cap1_1 z1_1) (w2 : IsRow .u8 w a2 len2 cap2 z2) (w3 : (Lit.int .i64 a3).wf = true) (w4 : (Lit.int .i64 a4).wf = true) (w5 : (Lit.int .i64 a5).wf = true) (w6_0 : (Lit.int .i64 a6_0).wf = true) (w6_1 : (Lit.int .i64 a6_1).wf = true) (w7_0 : (Lit.int .i64 a7_0).wf = true) (w7_1 : (Lit.int .i64 a7_1).wf = true) (w7_2 : (Lit.int .i64 a7_2).wf = true) (w7_3 : (Lit.int .i64 a7_3).wf = true) :
    Calls Try.prog 3 #[.agg #[.int .i64 a0_0, .int .i64 a0_1, .int .i64 a0_2, .int .i64 a0_3, .int .i64 a0_4, .int .i64 a0_5, .int .i64 a0_6, .int .i64 a0_7, .int .i64 a0_8, .int .i64 a0_9, .int .i64 a0_10, .slice a0_11 len0_11 cap0_11, .int .i64 a0_12, .int .i64 a0_13], .agg #[.int .i64 a1_0, .slice a1_1 len1_1 cap1_1], .slice a2 len2 cap2, .int .i64 a3, .int .i64 a4, .int .i64 a5, .agg #[.int .i64 a6_0, .int .i64 a6_1], .agg #[.int .i64 a7_0, .int .i64 a7_1, .int .i64 a7_2, .int .i64 a7_3]] w fun e w' => e = .returned (.bool true) ∧ Below w.heap.size w w' := by
  exact bridgeMoves_walk (sl_of_row w0_11) (sl_of_row w1_1) (sl_of_row w2) (bounds_i64 w3) (bounds_i64 w4) (bounds_i64 w5)
set_option maxRecDepth 100000 in
theorem lifted (os : Os) (started : os.Started) (H : Type) (enc : TypeId × Value → H) :
    ReturnsInHanded {} Try.checked os 3 .any (Rows.bridgeMovesSpec.pre6 enc Try.prog Try.f3 Rows.bridgeMovesRow.domain false) (Rows.bridgeMovesSpec.post enc Try.prog Try.f3 false true false false) := by
  refine returnsInHanded_of_change (C := Try.checked) own started (by kernel_rfl) Try.func3
    (ChangeSpec.witness6 (enc := enc) (C := Try.checked) false ⟨#[], #[.agg #[.int .i64 0, .int .i64 0, .int .i64 0, .int .i64 0, .int .i64 0, .int .i64 0, .int .i64 0, .int .i64 0, .int .i64 0, .int .i64 0, .int .i64 0, .slice none 0 0, .int .i64 0, .int .i64 0], .agg #[.int .i64 0, .slice none 0 0], .slice none 0 0, .int .i64 0, .int .i64 0, .int .i64 0, .agg #[.int .i64 0, .int .i64 0], .agg #[.int .i64 0, .int .i64 0, .int .i64 0, .int .i64 0]], []⟩ 8 (by kernel_rfl) (by kernel_rfl) (by kernel_rfl) (by kernel_rfl)) ?_
  intro W base args ds gs before hval0 hW hcnd _
  have hval : ∀ (j : Nat) t v, Try.f3.params[j]? = some t → args[j]? = some v → Value.okWide Try.prog W .any base t v := hval0
  have hW' := hW
  obtain ⟨p, q, hA0, hV, rfl, hfz, hnd⟩ := hW
  have hA : DataW.TrodAll enc Try.prog W 0 (fun _ => true) true Try.f3.params.toList args.toList ds p := hA0
  rw [Try.params3] at hA hval
  obtain ⟨v0, vs0, d0, ds0, p0, q0, hargs, rfl, rfl, h0, r0⟩ := trodAll_cons hA
  obtain ⟨v1, vs1, d1, ds1, p1, q1, rfl, rfl, rfl, h1, r1⟩ := trodAll_cons r0
  obtain ⟨v2, vs2, d2, ds2, p2, q2, rfl, rfl, rfl, h2, r2⟩ := trodAll_cons r1
  obtain ⟨v3, vs3, d3, ds3, p3, q3, rfl, rfl, rfl, h3, r3⟩ := trodAll_cons r2
  obtain ⟨v4, vs4, d4, ds4, p4, q4, rfl, rfl, rfl, h4, r4⟩ := trodAll_cons r3
  obtain ⟨v5, vs5, d5, ds5, p5, q5, rfl, rfl, rfl, h5, r5⟩ := trodAll_cons r4
  obtain ⟨v6, vs6, d6, ds6, p6, q6, rfl, rfl, rfl, h6, r6⟩ := trodAll_cons r5
  obtain ⟨v7, vs7, d7, ds7, p7, q7, rfl, rfl, rfl, h7, r7⟩ := trodAll_cons r6
  obtain ⟨rfl, rfl, rfl⟩ := trodAll_nil r7
  obtain rfl : args = #[v0, v1, v2, v3, v4, v5, v6, v7] := by cases args; simp_all
  obtain ⟨rfl, rfl⟩ := trodVars_none hV
  have k0 := h0
  have lt0 : ∀ x ∈ p0, x.block < W.heap.size := by obtain ⟨m, hm⟩ := k0; exact DataW.trod_lt m _ _ _ hm
  obtain ⟨a0_0, a0_1, a0_2, a0_3, a0_4, a0_5, a0_6, a0_7, a0_8, a0_9, a0_10, a0_11, len0_11, cap0_11, z0_11, a0_12, a0_13, rfl, w0_0, w0_1, w0_2, w0_3, w0_4, w0_5, w0_6, w0_7, w0_8, w0_9, w0_10, w0_11, w0_12, w0_13⟩ : ∃ (a0_0 : Int) (a0_1 : Int) (a0_2 : Int) (a0_3 : Int) (a0_4 : Int) (a0_5 : Int) (a0_6 : Int) (a0_7 : Int) (a0_8 : Int) (a0_9 : Int) (a0_10 : Int) (a0_11 : Option Addr) (len0_11 cap0_11 : Nat) (z0_11 : List Int) (a0_12 : Int) (a0_13 : Int), v0 = .agg #[.int .i64 a0_0, .int .i64 a0_1, .int .i64 a0_2, .int .i64 a0_3, .int .i64 a0_4, .int .i64 a0_5, .int .i64 a0_6, .int .i64 a0_7, .int .i64 a0_8, .int .i64 a0_9, .int .i64 a0_10, .slice a0_11 len0_11 cap0_11, .int .i64 a0_12, .int .i64 a0_13] ∧ (Lit.int .i64 a0_0).wf = true ∧ (Lit.int .i64 a0_1).wf = true ∧ (Lit.int .i64 a0_2).wf = true ∧ (Lit.int .i64 a0_3).wf = true ∧ (Lit.int .i64 a0_4).wf = true ∧ (Lit.int .i64 a0_5).wf = true ∧ (Lit.int .i64 a0_6).wf = true ∧ (Lit.int .i64 a0_7).wf = true ∧ (Lit.int .i64 a0_8).wf = true ∧ (Lit.int .i64 a0_9).wf = true ∧ (Lit.int .i64 a0_10).wf = true ∧ IsRow .i32 W a0_11 len0_11 cap0_11 z0_11 ∧ (Lit.int .i64 a0_12).wf = true ∧ (Lit.int .i64 a0_13).wf = true := by
    obtain ⟨cs, e, hsz⟩ := okWide_struct Try.underlying32 (hval 0 32 v0 rfl rfl)
    subst e
    obtain ⟨l⟩ := cs
    have hl0 : l.length = 14 := hsz.trans (show Try.prog.cellsOf 32 = 14 by kernel_rfl)
    obtain ⟨c0, l0, el0, hl1⟩ := len_succ hl0
    obtain ⟨c1, l1, el1, hl2⟩ := len_succ hl1
    obtain ⟨c2, l2, el2, hl3⟩ := len_succ hl2
    obtain ⟨c3, l3, el3, hl4⟩ := len_succ hl3
    obtain ⟨c4, l4, el4, hl5⟩ := len_succ hl4
    obtain ⟨c5, l5, el5, hl6⟩ := len_succ hl5
    obtain ⟨c6, l6, el6, hl7⟩ := len_succ hl6
    obtain ⟨c7, l7, el7, hl8⟩ := len_succ hl7
    obtain ⟨c8, l8, el8, hl9⟩ := len_succ hl8
    obtain ⟨c9, l9, el9, hl10⟩ := len_succ hl9
    obtain ⟨c10, l10, el10, hl11⟩ := len_succ hl10
    obtain ⟨c11, l11, el11, hl12⟩ := len_succ hl11
    obtain ⟨c12, l12, el12, hl13⟩ := len_succ hl12
    obtain ⟨c13, l13, el13, hl14⟩ := len_succ hl13
    have el14 := List.eq_nil_of_length_eq_zero hl14
    subst el14 el13 el12 el11 el10 el9 el8 el7 el6 el5 el4 el3 el2 el1 el0
    obtain ⟨fuel, hf⟩ := h0
    obtain ⟨xs, nn, _, hx, _, hlen, hg⟩ := DataW.trod_struct Try.underlying32 hf
    clear hf
    have hx0 : xs.length = 5 := hlen
    obtain ⟨y0, xs0, ex0, hx1⟩ := len_succ hx0
    obtain ⟨y1, xs1, ex1, hx2⟩ := len_succ hx1
    obtain ⟨y2, xs2, ex2, hx3⟩ := len_succ hx2
    obtain ⟨y3, xs3, ex3, hx4⟩ := len_succ hx3
    obtain ⟨y4, xs4, ex4, hx5⟩ := len_succ hx4
    have ex5 := List.eq_nil_of_length_eq_zero hx5
    subst ex5 ex4 ex3 ex2 ex1 ex0
    obtain ⟨n0, e0, _, u0⟩ := DataW.trod_int Try.underlying3 (by simpa [Value.cells, show Try.prog.cellsOf 3 = 1 from by kernel_rfl] using hg 0 _ rfl)
    have hq1 := hg 1 _ rfl
    simp [Value.cells, show Try.prog.cellsOf 23 = 4 from by kernel_rfl] at hq1
    obtain ⟨zs1, nn1, _, hz1x, _, hlen1, hg1⟩ := DataW.trod_struct Try.underlying23 hq1
    have hz1_0 : zs1.length = 4 := hlen1
    obtain ⟨yy1_0, zs1_0, ez1_0, hz1_1⟩ := len_succ hz1_0
    obtain ⟨yy1_1, zs1_1, ez1_1, hz1_2⟩ := len_succ hz1_1
    obtain ⟨yy1_2, zs1_2, ez1_2, hz1_3⟩ := len_succ hz1_2
    obtain ⟨yy1_3, zs1_3, ez1_3, hz1_4⟩ := len_succ hz1_3
    have ez1_4 := List.eq_nil_of_length_eq_zero hz1_4
    subst ez1_4 ez1_3 ez1_2 ez1_1 ez1_0
    obtain ⟨n1, e1, _, u1⟩ := DataW.trod_int Try.underlying3 (by simpa [Value.cells, show Try.prog.cellsOf 3 = 1 from by kernel_rfl] using hg1 0 _ rfl)
    obtain ⟨n2, e2, _, u2⟩ := DataW.trod_int Try.underlying3 (by simpa [Value.cells, show Try.prog.cellsOf 3 = 1 from by kernel_rfl] using hg1 1 _ rfl)
    obtain ⟨n3, e3, _, u3⟩ := DataW.trod_int Try.underlying3 (by simpa [Value.cells, show Try.prog.cellsOf 3 = 1 from by kernel_rfl] using hg1 2 _ rfl)
    obtain ⟨n4, e4, _, u4⟩ := DataW.trod_int Try.underlying3 (by simpa [Value.cells, show Try.prog.cellsOf 3 = 1 from by kernel_rfl] using hg1 3 _ rfl)
    have hq2 := hg 2 _ rfl
    simp [Value.cells, show Try.prog.cellsOf 30 = 7 from by kernel_rfl] at hq2
    obtain ⟨zs2, nn2, _, hz2x, _, hlen2, hg2⟩ := DataW.trod_struct Try.underlying30 hq2
    have hz2_0 : zs2.length = 3 := hlen2
    obtain ⟨yy2_0, zs2_0, ez2_0, hz2_1⟩ := len_succ hz2_0
    obtain ⟨yy2_1, zs2_1, ez2_1, hz2_2⟩ := len_succ hz2_1
    obtain ⟨yy2_2, zs2_2, ez2_2, hz2_3⟩ := len_succ hz2_2
    have ez2_3 := List.eq_nil_of_length_eq_zero hz2_3
    subst ez2_3 ez2_2 ez2_1 ez2_0
    obtain ⟨n5, e5, _, u5⟩ := DataW.trod_int Try.underlying3 (by simpa [Value.cells, show Try.prog.cellsOf 3 = 1 from by kernel_rfl] using hg2 0 _ rfl)
    have hq2n1 := hg2 1 _ rfl
    simp [Value.cells, show Try.prog.cellsOf 27 = 5 from by kernel_rfl] at hq2n1
    obtain ⟨zs2n1, nn2n1, _, hz2n1x, _, hlen2n1, hg2n1⟩ := DataW.trod_struct Try.underlying27 hq2n1
    have hz2n1_0 : zs2n1.length = 4 := hlen2n1
    obtain ⟨yy2n1_0, zs2n1_0, ez2n1_0, hz2n1_1⟩ := len_succ hz2n1_0
    obtain ⟨yy2n1_1, zs2n1_1, ez2n1_1, hz2n1_2⟩ := len_succ hz2n1_1
    obtain ⟨yy2n1_2, zs2n1_2, ez2n1_2, hz2n1_3⟩ := len_succ hz2n1_2
    obtain ⟨yy2n1_3, zs2n1_3, ez2n1_3, hz2n1_4⟩ := len_succ hz2n1_3
    have ez2n1_4 := List.eq_nil_of_length_eq_zero hz2n1_4
    subst ez2n1_4 ez2n1_3 ez2n1_2 ez2n1_1 ez2n1_0
    have hq2n1n0 := hg2n1 0 _ rfl
    simp [Value.cells, show Try.prog.cellsOf 25 = 2 from by kernel_rfl] at hq2n1n0
    obtain ⟨zs2n1n0, nn2n1n0, _, hz2n1n0x, _, hlen2n1n0, hg2n1n0⟩ := DataW.trod_struct Try.underlying25 hq2n1n0
    have hz2n1n0_0 : zs2n1n0.length = 2 := hlen2n1n0
    obtain ⟨yy2n1n0_0, zs2n1n0_0, ez2n1n0_0, hz2n1n0_1⟩ := len_succ hz2n1n0_0
    obtain ⟨yy2n1n0_1, zs2n1n0_1, ez2n1n0_1, hz2n1n0_2⟩ := len_succ hz2n1n0_1
    have ez2n1n0_2 := List.eq_nil_of_length_eq_zero hz2n1n0_2
    subst ez2n1n0_2 ez2n1n0_1 ez2n1n0_0
    obtain ⟨n6, e6, _, u6⟩ := DataW.trod_int Try.underlying2 (by simpa [Value.cells, show Try.prog.cellsOf 2 = 1 from by kernel_rfl] using hg2n1n0 0 _ rfl)
    obtain ⟨n7, e7, _, u7⟩ := DataW.trod_int Try.underlying2 (by simpa [Value.cells, show Try.prog.cellsOf 2 = 1 from by kernel_rfl] using hg2n1n0 1 _ rfl)
    obtain ⟨n8, e8, _, u8⟩ := DataW.trod_int Try.underlying3 (by simpa [Value.cells, show Try.prog.cellsOf 3 = 1 from by kernel_rfl] using hg2n1 1 _ rfl)
    obtain ⟨n9, e9, _, u9⟩ := DataW.trod_int Try.underlying2 (by simpa [Value.cells, show Try.prog.cellsOf 2 = 1 from by kernel_rfl] using hg2n1 2 _ rfl)
    obtain ⟨n10, e10, _, u10⟩ := DataW.trod_int Try.underlying2 (by simpa [Value.cells, show Try.prog.cellsOf 2 = 1 from by kernel_rfl] using hg2n1 3 _ rfl)
    have hs11 := hg2 2 _ rfl
    simp [Value.cells, show Try.prog.cellsOf 28 = 1 from by kernel_rfl] at hs11
    obtain ⟨x11, l11x, k11x, q11, e11, u11⟩ : ∃ (x : Option Addr) (l c : Nat) (zs : List Int), [c11] = [Value.slice x l c] ∧ IsRow .i32 W x l c zs := by
      rcases open_ints Try.underlying28 Try.underlying21 (by kernel_rfl) hs11 with ⟨hcs, _⟩ | ⟨x, l, c, zs, hcs, _, hl, hm, hz, _, hcell, hwz⟩
      · exact ⟨none, 0, 0, [], hcs, .inl ⟨rfl, rfl, rfl, rfl⟩⟩
      · exact ⟨some x, l, c, zs, hcs, .inr ⟨x, rfl, hl, hm, by simpa using hz, hcell, hwz⟩⟩
    obtain ⟨n12, e12, _, u12⟩ := DataW.trod_int Try.underlying3 (by simpa [Value.cells, show Try.prog.cellsOf 3 = 1 from by kernel_rfl] using hg 3 _ rfl)
    obtain ⟨n13, e13, _, u13⟩ := DataW.trod_int Try.underlying3 (by simpa [Value.cells, show Try.prog.cellsOf 3 = 1 from by kernel_rfl] using hg 4 _ rfl)
    cases e0; cases e1; cases e2; cases e3; cases e4; cases e5; cases e6; cases e7; cases e8; cases e9; cases e10; cases e11; cases e12; cases e13
    exact ⟨_, _, _, _, _, _, _, _, _, _, _, _, _, _, _, _, _, rfl, u0, u1, u2, u3, u4, u5, u6, u7, u8, u9, u10, u11, u12, u13⟩
  have k1 := h1
  have lt1 : ∀ x ∈ p1, x.block < W.heap.size := by obtain ⟨m, hm⟩ := k1; exact DataW.trod_lt m _ _ _ hm
  obtain ⟨a1_0, a1_1, len1_1, cap1_1, z1_1, rfl, w1_0, w1_1⟩ : ∃ (a1_0 : Int) (a1_1 : Option Addr) (len1_1 cap1_1 : Nat) (z1_1 : List Int), v1 = .agg #[.int .i64 a1_0, .slice a1_1 len1_1 cap1_1] ∧ (Lit.int .i64 a1_0).wf = true ∧ IsRow .i32 W a1_1 len1_1 cap1_1 z1_1 := by
    obtain ⟨cs, e, hsz⟩ := okWide_struct Try.underlying34 (hval 1 34 v1 rfl rfl)
    subst e
    obtain ⟨l⟩ := cs
    have hl0 : l.length = 2 := hsz.trans (show Try.prog.cellsOf 34 = 2 by kernel_rfl)
    obtain ⟨c0, l0, el0, hl1⟩ := len_succ hl0
    obtain ⟨c1, l1, el1, hl2⟩ := len_succ hl1
    have el2 := List.eq_nil_of_length_eq_zero hl2
    subst el2 el1 el0
    obtain ⟨fuel, hf⟩ := h1
    obtain ⟨xs, nn, _, hx, _, hlen, hg⟩ := DataW.trod_struct Try.underlying34 hf
    clear hf
    have hx0 : xs.length = 2 := hlen
    obtain ⟨y0, xs0, ex0, hx1⟩ := len_succ hx0
    obtain ⟨y1, xs1, ex1, hx2⟩ := len_succ hx1
    have ex2 := List.eq_nil_of_length_eq_zero hx2
    subst ex2 ex1 ex0
    obtain ⟨n0, e0, _, u0⟩ := DataW.trod_int Try.underlying3 (by simpa [Value.cells, show Try.prog.cellsOf 3 = 1 from by kernel_rfl] using hg 0 _ rfl)
    have hs1 := hg 1 _ rfl
    simp [Value.cells, show Try.prog.cellsOf 28 = 1 from by kernel_rfl] at hs1
    obtain ⟨x1, l1x, k1x, q1, e1, u1⟩ : ∃ (x : Option Addr) (l c : Nat) (zs : List Int), [c1] = [Value.slice x l c] ∧ IsRow .i32 W x l c zs := by
      rcases open_ints Try.underlying28 Try.underlying21 (by kernel_rfl) hs1 with ⟨hcs, _⟩ | ⟨x, l, c, zs, hcs, _, hl, hm, hz, _, hcell, hwz⟩
      · exact ⟨none, 0, 0, [], hcs, .inl ⟨rfl, rfl, rfl, rfl⟩⟩
      · exact ⟨some x, l, c, zs, hcs, .inr ⟨x, rfl, hl, hm, by simpa using hz, hcell, hwz⟩⟩
    cases e0; cases e1
    exact ⟨_, _, _, _, _, rfl, u0, u1⟩
  obtain ⟨a2, len2, cap2, rfl⟩ := okWide_slice Try.underlying35 (hval 2 35 v2 rfl rfl)
  have k2 := h2
  have lt2 : ∀ x ∈ p2, x.block < W.heap.size := by obtain ⟨m, hm⟩ := k2; exact DataW.trod_lt m _ _ _ hm
  obtain ⟨z2, w2⟩ : ∃ zs, IsRow .u8 W a2 len2 cap2 zs := by
    obtain ⟨fuel, hf⟩ := h2
    rcases open_ints Try.underlying35 Try.underlying5 (by kernel_rfl) hf with ⟨hcs, _⟩ | ⟨x, l, c, zs, hcs, _, hl, hm, hz, _, hcell, hwz⟩
    · simp [Value.cells] at hcs
      obtain ⟨rfl, rfl, rfl⟩ := hcs
      exact ⟨[], .inl ⟨rfl, rfl, rfl, rfl⟩⟩
    · simp [Value.cells] at hcs
      obtain ⟨rfl, rfl, rfl⟩ := hcs
      exact ⟨zs, .inr ⟨_, rfl, hl, hm, by simpa using hz, hcell, hwz⟩⟩
  obtain ⟨a3, rfl, rfl, rfl, w3⟩ := open_int Try.underlying3 (hval 3 3 v3 rfl rfl) h3
  obtain ⟨a4, rfl, rfl, rfl, w4⟩ := open_int Try.underlying3 (hval 4 3 v4 rfl rfl) h4
  obtain ⟨a5, rfl, rfl, rfl, w5⟩ := open_int Try.underlying3 (hval 5 3 v5 rfl rfl) h5
  have k6 := h6
  have lt6 : ∀ x ∈ p6, x.block < W.heap.size := by obtain ⟨m, hm⟩ := k6; exact DataW.trod_lt m _ _ _ hm
  obtain ⟨a6_0, a6_1, rfl, w6_0, w6_1⟩ : ∃ (a6_0 : Int) (a6_1 : Int), v6 = .agg #[.int .i64 a6_0, .int .i64 a6_1] ∧ (Lit.int .i64 a6_0).wf = true ∧ (Lit.int .i64 a6_1).wf = true := by
    obtain ⟨cs, e, hsz⟩ := okWide_struct Try.underlying25 (hval 6 25 v6 rfl rfl)
    subst e
    obtain ⟨l⟩ := cs
    have hl0 : l.length = 2 := hsz.trans (show Try.prog.cellsOf 25 = 2 by kernel_rfl)
    obtain ⟨c0, l0, el0, hl1⟩ := len_succ hl0
    obtain ⟨c1, l1, el1, hl2⟩ := len_succ hl1
    have el2 := List.eq_nil_of_length_eq_zero hl2
    subst el2 el1 el0
    obtain ⟨fuel, hf⟩ := h6
    obtain ⟨xs, nn, _, hx, _, hlen, hg⟩ := DataW.trod_struct Try.underlying25 hf
    clear hf
    have hx0 : xs.length = 2 := hlen
    obtain ⟨y0, xs0, ex0, hx1⟩ := len_succ hx0
    obtain ⟨y1, xs1, ex1, hx2⟩ := len_succ hx1
    have ex2 := List.eq_nil_of_length_eq_zero hx2
    subst ex2 ex1 ex0
    obtain ⟨n0, e0, _, u0⟩ := DataW.trod_int Try.underlying2 (by simpa [Value.cells, show Try.prog.cellsOf 2 = 1 from by kernel_rfl] using hg 0 _ rfl)
    obtain ⟨n1, e1, _, u1⟩ := DataW.trod_int Try.underlying2 (by simpa [Value.cells, show Try.prog.cellsOf 2 = 1 from by kernel_rfl] using hg 1 _ rfl)
    cases e0; cases e1
    exact ⟨_, _, rfl, u0, u1⟩
  have k7 := h7
  have lt7 : ∀ x ∈ p7, x.block < W.heap.size := by obtain ⟨m, hm⟩ := k7; exact DataW.trod_lt m _ _ _ hm
  obtain ⟨a7_0, a7_1, a7_2, a7_3, rfl, w7_0, w7_1, w7_2, w7_3⟩ : ∃ (a7_0 : Int) (a7_1 : Int) (a7_2 : Int) (a7_3 : Int), v7 = .agg #[.int .i64 a7_0, .int .i64 a7_1, .int .i64 a7_2, .int .i64 a7_3] ∧ (Lit.int .i64 a7_0).wf = true ∧ (Lit.int .i64 a7_1).wf = true ∧ (Lit.int .i64 a7_2).wf = true ∧ (Lit.int .i64 a7_3).wf = true := by
    obtain ⟨cs, e, hsz⟩ := okWide_struct Try.underlying23 (hval 7 23 v7 rfl rfl)
    subst e
    obtain ⟨l⟩ := cs
    have hl0 : l.length = 4 := hsz.trans (show Try.prog.cellsOf 23 = 4 by kernel_rfl)
    obtain ⟨c0, l0, el0, hl1⟩ := len_succ hl0
    obtain ⟨c1, l1, el1, hl2⟩ := len_succ hl1
    obtain ⟨c2, l2, el2, hl3⟩ := len_succ hl2
    obtain ⟨c3, l3, el3, hl4⟩ := len_succ hl3
    have el4 := List.eq_nil_of_length_eq_zero hl4
    subst el4 el3 el2 el1 el0
    obtain ⟨fuel, hf⟩ := h7
    obtain ⟨xs, nn, _, hx, _, hlen, hg⟩ := DataW.trod_struct Try.underlying23 hf
    clear hf
    have hx0 : xs.length = 4 := hlen
    obtain ⟨y0, xs0, ex0, hx1⟩ := len_succ hx0
    obtain ⟨y1, xs1, ex1, hx2⟩ := len_succ hx1
    obtain ⟨y2, xs2, ex2, hx3⟩ := len_succ hx2
    obtain ⟨y3, xs3, ex3, hx4⟩ := len_succ hx3
    have ex4 := List.eq_nil_of_length_eq_zero hx4
    subst ex4 ex3 ex2 ex1 ex0
    obtain ⟨n0, e0, _, u0⟩ := DataW.trod_int Try.underlying3 (by simpa [Value.cells, show Try.prog.cellsOf 3 = 1 from by kernel_rfl] using hg 0 _ rfl)
    obtain ⟨n1, e1, _, u1⟩ := DataW.trod_int Try.underlying3 (by simpa [Value.cells, show Try.prog.cellsOf 3 = 1 from by kernel_rfl] using hg 1 _ rfl)
    obtain ⟨n2, e2, _, u2⟩ := DataW.trod_int Try.underlying3 (by simpa [Value.cells, show Try.prog.cellsOf 3 = 1 from by kernel_rfl] using hg 2 _ rfl)
    obtain ⟨n3, e3, _, u3⟩ := DataW.trod_int Try.underlying3 (by simpa [Value.cells, show Try.prog.cellsOf 3 = 1 from by kernel_rfl] using hg 3 _ rfl)
    cases e0; cases e1; cases e2; cases e3
    exact ⟨_, _, _, _, rfl, u0, u1, u2, u3⟩
  clear hA0 hval0
  refine (walk a0_0 a0_1 a0_2 a0_3 a0_4 a0_5 a0_6 a0_7 a0_8 a0_9 a0_10 a0_11 len0_11 cap0_11 z0_11 a0_12 a0_13 a1_0 a1_1 len1_1 cap1_1 z1_1 a2 len2 cap2 z2 a3 a4 a5 a6_0 a6_1 a7_0 a7_1 a7_2 a7_3 W w0_0 w0_1 w0_2 w0_3 w0_4 w0_5 w0_6 w0_7 w0_8 w0_9 w0_10 w0_11 w0_12 w0_13 w1_0 w1_1 w2 w3 w4 w5 w6_0 w6_1 w7_0 w7_1 w7_2 w7_3).mono fun e W' ⟨he, bel⟩ => ?_
  subst he
  exact ⟨_, rfl, _, _, _, [], _, [], hW', trodAll_mk1 (shut_bool Try.underlying4 _), (trodAll_cons_mk (Below.trod laidOut (by kernel_rfl) (of_decide_eq_true (by kernel_rfl)) k0 bel lt0) (trodAll_cons_mk (Below.trod laidOut (by kernel_rfl) (of_decide_eq_true (by kernel_rfl)) k1 bel lt1) (trodAll_cons_mk (Below.trod laidOut (by kernel_rfl) (of_decide_eq_true (by kernel_rfl)) k2 bel lt2) (trodAll_cons_mk (shut_int Try.underlying3 w3) (trodAll_cons_mk (shut_int Try.underlying3 w4) (trodAll_cons_mk (shut_int Try.underlying3 w5) (trodAll_cons_mk (Below.trod laidOut (by kernel_rfl) (of_decide_eq_true (by kernel_rfl)) k6 bel lt6) (trodAll_cons_mk (Below.trod laidOut (by kernel_rfl) (of_decide_eq_true (by kernel_rfl)) k7 bel lt7) trodAll_mk0)))))))), rfl, bel.frame _, fun h => by cases h⟩
theorem closed : joinedFacts Try.prog 3 Try.f3 Rows.bridgeMovesSpec Rows.bridgeMovesRow = true := by
  simp only [joinedFacts, Bool.and_eq_true]
  repeat' apply And.intro
  · kernel_rfl
  · exact pf_laid
  · exact pf_maps
  · kernel_rfl
  · kernel_rfl
  · kernel_rfl
  · kernel_rfl
  · kernel_rfl
  · kernel_rfl
  · kernel_rfl
  · kernel_rfl
  · kernel_rfl
  · kernel_rfl
  · kernel_rfl
  · kernel_rfl
  · kernel_rfl
  · kernel_rfl
  · kernel_rfl
  · kernel_rfl
  · kernel_rfl
  · kernel_rfl
  · kernel_rfl
  · kernel_rfl
  · kernel_rfl
  · exact pf_heard
  · exact pf_enter
  · exact (congrArg (fun b => (Rows.bridgeMovesRow.lifted == b)) pf_final).trans (by kernel_rfl)
  · exact (congrArg (fun m => (m == some Rows.bridgeMovesRow.make)) pf_make).trans (by kernel_rfl)
  all_goals kernel_rfl
theorem over : Rows.bridgeMovesRow.holds Try.pinned (OpenSpec.ofChange Rows.bridgeMovesSpec) :=
  OpenClaim.holds_of_wide 3 Try.f3 rfl rfl rfl rfl rfl rfl rfl ⟨rfl, rfl, rfl, rfl, rfl⟩ rfl rfl rfl rfl rfl (by kernel_rfl) Try.func3 closed
    (of_decide_eq_true (by kernel_rfl)) (by unfold Func.isWrapper; first | (rw [if_pos (by decide +kernel)]; kernel_rfl) | (rw [if_neg (by decide +kernel)]; exact ⟨rfl, rfl⟩))
    (fun os started H enc _ => lifted os started H enc)
theorem proved : Rows.BridgeMovesSaid := over
#print axioms proved
end Go.Proofs.Ytkneaefmjdlegaa.bridgeMoves
