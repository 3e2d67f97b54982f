/- OfferChooses returns true for every input and leaves its arguments as they were. -/
import Derived.Test.YtcfmjpnffembpaaGreatRows
import Derived.Test.YtcfmjpnffembpaaGreatZQOH
import Derived.Test.YtcfmjpnffembpaaGreatZPF
import Derived.WalkKit
import Derived.ProofKit
import Derived.OpenShut
import Derived.ShutString
import Derived.Deep.Strs
import Derived.ChangeOld
import Derived.Below
namespace Go.Proofs.YtcfmjpnffembpaaGreat.offerChooses
open Go.ChangeShapes Go.WideShapes Go.ChangeAt Go.RowKit
open Go.ChangeMaps (open_string shut_string)
set_option linter.unusedVariables false
set_option linter.unusedSimpArgs false
def IsRow (k : IntKind) (w : World) (a : Option Addr) (len cap : Nat) (zs : List Int) : Prop :=
  (a = none ∧ len = 0 ∧ cap = 0 ∧ zs = []) ∨
  ∃ x, a = some x ∧ len ≤ cap ∧ cap ≤ maxLen ∧ zs.length = cap ∧ (∀ i, i < zs.length → w.cell? (x.add i) = some (.int k (zs.getD i 0))) ∧ ∀ n ∈ zs, (Lit.int k n).wf = true
theorem len_succ {α : Type} {n : Nat} : ∀ {l : List α}, l.length = n + 1 → ∃ a t, l = a :: t ∧ t.length = n
  | [], h => by cases h
  | a :: t, h => ⟨a, t, rfl, by simpa using h⟩
theorem walk (v0 : Value) (g0 : D) (v1 : Value) (g1 : List D) (v2 : Value) (g2 : List D) (a3 : Option Addr) (len3 cap3 : Nat) (z3 : List Int) (w : World) (w0 : InC w (.sl (.st (.fcons (.i .i64) (.fcons (.st (.fcons (.sl (.st (.fcons (.i .i64) (.fcons (.i .i64) .fnil)))) .fnil)) (.fcons (.sl (.sl (.i .i64))) (.fcons (.st (.fcons (.sl (.st (.fcons (.i .i64) (.fcons (.i .i64) .fnil)))) .fnil)) .fnil)))))) g0 v0) (w1 : InA w (.st (.fcons (.st (.fcons (.i .i64) (.fcons (.i .i64) (.fcons (.sl (.i .i64)) .fnil)))) (.fcons (.i .i64) .fnil))) g1 v1) (w2 : InA w (.st (.fcons (.st (.fcons (.i .i64) (.fcons (.i .i64) (.fcons (.sl (.i .i64)) .fnil)))) (.fcons (.i .i64) .fnil))) g2 v2) (w3 : IsRow .u8 w a3 len3 cap3 z3) :
    Calls Tryz.prog 4 #[v0, v1, v2, .slice a3 len3 cap3] w fun e w' => e = .returned (.bool true) ∧ Below w.heap.size w w' := by
  exact k0f w0 w1 w2 (k2p w3)
set_option maxRecDepth 100000 in
theorem lifted (os : Os) (started : os.Started) (H : Type) (enc : TypeId × Value → H) :
    ReturnsInHanded {} Tryz.checked os 4 .any (Rows.offerChoosesSpec.pre6 enc Tryz.prog Tryz.f4 Rows.offerChoosesRow.domain false) (Rows.offerChoosesSpec.post enc Tryz.prog Tryz.f4 false true false false) := by
  refine returnsInHanded_of_change (C := Tryz.checked) own started (by kernel_rfl) Tryz.func4
    (ChangeSpec.witness6 (enc := enc) (C := Tryz.checked) false ⟨#[], #[.slice none 0 0, .agg #[.int .i64 0, .int .i64 0, .slice none 0 0, .int .i64 0], .agg #[.int .i64 0, .int .i64 0, .slice none 0 0, .int .i64 0], .slice none 0 0], []⟩ 8 (by kernel_rfl) (by kernel_rfl) (by kernel_rfl) (by kernel_rfl)) ?_
  intro W base args ds gs before hval0 hW hcnd _
  have hval : ∀ (j : Nat) t v, Tryz.f4.params[j]? = some t → args[j]? = some v → Value.okWide Tryz.prog W .any base t v := hval0
  have hW' := hW
  obtain ⟨p, q, hA0, hV, rfl, hfz, hnd⟩ := hW
  have hA : DataW.TrodAll enc Tryz.prog W 0 (fun _ => true) true Tryz.f4.params.toList args.toList ds p := hA0
  rw [Tryz.params4] at hA hval
  obtain ⟨v0, vs0, d0, ds0, p0, q0, hargs, rfl, rfl, h0, r0⟩ := trodAll_cons hA
  obtain ⟨v1, vs1, d1, ds1, p1, q1, rfl, rfl, rfl, h1, r1⟩ := trodAll_cons r0
  obtain ⟨v2, vs2, d2, ds2, p2, q2, rfl, rfl, rfl, h2, r2⟩ := trodAll_cons r1
  obtain ⟨v3, vs3, d3, ds3, p3, q3, rfl, rfl, rfl, h3, r3⟩ := trodAll_cons r2
  obtain ⟨rfl, rfl, rfl⟩ := trodAll_nil r3
  obtain rfl : args = #[v0, v1, v2, v3] := by cases args; simp_all
  obtain ⟨rfl, rfl⟩ := trodVars_none hV
  have k0 := h0
  have lt0 : ∀ x ∈ p0, x.block < W.heap.size := by obtain ⟨m, hm⟩ := k0; exact DataW.trod_lt m _ _ _ hm
  obtain ⟨g0, w0⟩ : ∃ d, InC W (.sl (.st (.fcons (.i .i64) (.fcons (.st (.fcons (.sl (.st (.fcons (.i .i64) (.fcons (.i .i64) .fnil)))) .fnil)) (.fcons (.sl (.sl (.i .i64))) (.fcons (.st (.fcons (.sl (.st (.fcons (.i .i64) (.fcons (.i .i64) .fnil)))) .fnil)) .fnil)))))) d v0 := by
    obtain ⟨ya, yl, yc, rfl⟩ := okWide_slice Tryz.underlying22 (hval 0 22 v0 rfl rfl)
    obtain ⟨fuel, hf⟩ := h0
    obtain ⟨ds, e1, e2⟩ := (cJ (.sl (.st (.fcons (.i .i64) (.fcons (.st (.fcons (.sl (.st (.fcons (.i .i64) (.fcons (.i .i64) .fnil)))) .fnil)) (.fcons (.sl (.sl (.i .i64))) (.fcons (.st (.fcons (.sl (.st (.fcons (.i .i64) (.fcons (.i .i64) .fnil)))) .fnil)) .fnil))))))).1 22 fuel _ _ zk hf
    have e9 := e1
    obtain ⟨xs, e8, h3, h4⟩ := e9
    subst e8
    exact ⟨_, And.intro e1 (InD.c (And.intro e1 e2) rfl)⟩
  have k1 := h1
  have lt1 : ∀ x ∈ p1, x.block < W.heap.size := by obtain ⟨m, hm⟩ := k1; exact DataW.trod_lt m _ _ _ hm
  obtain ⟨g1, w1⟩ : ∃ d, InA W (.st (.fcons (.st (.fcons (.i .i64) (.fcons (.i .i64) (.fcons (.sl (.i .i64)) .fnil)))) (.fcons (.i .i64) .fnil))) d v1 := by
    obtain ⟨cs, e, hsz⟩ := okWide_struct Tryz.underlying27 (hval 1 27 v1 rfl rfl)
    subst e
    obtain ⟨fuel, hf⟩ := h1
    obtain ⟨ds, e1, e2⟩ := (cJ (.st (.fcons (.st (.fcons (.i .i64) (.fcons (.i .i64) (.fcons (.sl (.i .i64)) .fnil)))) (.fcons (.i .i64) .fnil)))).1 27 fuel _ _ zk hf
    exact ⟨ds, And.intro e1 (InD.agg (And.intro e1 e2))⟩
  have k2 := h2
  have lt2 : ∀ x ∈ p2, x.block < W.heap.size := by obtain ⟨m, hm⟩ := k2; exact DataW.trod_lt m _ _ _ hm
  obtain ⟨g2, w2⟩ : ∃ d, InA W (.st (.fcons (.st (.fcons (.i .i64) (.fcons (.i .i64) (.fcons (.sl (.i .i64)) .fnil)))) (.fcons (.i .i64) .fnil))) d v2 := by
    obtain ⟨cs, e, hsz⟩ := okWide_struct Tryz.underlying27 (hval 2 27 v2 rfl rfl)
    subst e
    obtain ⟨fuel, hf⟩ := h2
    obtain ⟨ds, e1, e2⟩ := (cJ (.st (.fcons (.st (.fcons (.i .i64) (.fcons (.i .i64) (.fcons (.sl (.i .i64)) .fnil)))) (.fcons (.i .i64) .fnil)))).1 27 fuel _ _ zk hf
    exact ⟨ds, And.intro e1 (InD.agg (And.intro e1 e2))⟩
  obtain ⟨a3, len3, cap3, rfl⟩ := okWide_slice Tryz.underlying28 (hval 3 28 v3 rfl rfl)
  have k3 := h3
  have lt3 : ∀ x ∈ p3, x.block < W.heap.size := by obtain ⟨m, hm⟩ := k3; exact DataW.trod_lt m _ _ _ hm
  obtain ⟨z3, w3⟩ : ∃ zs, IsRow .u8 W a3 len3 cap3 zs := by
    obtain ⟨fuel, hf⟩ := h3
    rcases open_ints Tryz.underlying28 Tryz.underlying5 (by kernel_rfl) hf with ⟨hcs, _⟩ | ⟨x, l, c, zs, hcs, _, hl, hm, hz, _, hcell, hwz⟩
    · simp [Value.cells] at hcs
      obtain ⟨rfl, rfl, rfl⟩ := hcs
      exact ⟨[], .inl ⟨rfl, rfl, rfl, rfl⟩⟩
    · simp [Value.cells] at hcs
      obtain ⟨rfl, rfl, rfl⟩ := hcs
      exact ⟨zs, .inr ⟨_, rfl, hl, hm, by simpa using hz, hcell, hwz⟩⟩
  clear hA0 hval0
  refine (walk v0 g0 v1 g1 v2 g2 a3 len3 cap3 z3 W w0 w1 w2 w3).mono fun e W' ⟨he, bel⟩ => ?_
  subst he
  exact ⟨_, rfl, _, _, _, [], _, [], hW', trodAll_mk1 (shut_bool Tryz.underlying4 _), (trodAll_cons_mk (Below.trod mR (by kernel_rfl) (of_decide_eq_true (by kernel_rfl)) k0 bel lt0) (trodAll_cons_mk (Below.trod mR (by kernel_rfl) (of_decide_eq_true (by kernel_rfl)) k1 bel lt1) (trodAll_cons_mk (Below.trod mR (by kernel_rfl) (of_decide_eq_true (by kernel_rfl)) k2 bel lt2) (trodAll_cons_mk (Below.trod mR (by kernel_rfl) (of_decide_eq_true (by kernel_rfl)) k3 bel lt3) trodAll_mk0)))), rfl, bel.frame _, fun h => by cases h⟩
theorem closed : joinedFacts Tryz.prog 4 Tryz.f4 Rows.offerChoosesSpec Rows.offerChoosesRow = true := by
  simp only [joinedFacts, Bool.and_eq_true]
  repeat' apply And.intro
  · kernel_rfl
  · exact k8f
  · exact k8d
  · kernel_rfl
  · kernel_rfl
  · kernel_rfl
  · kernel_rfl
  · kernel_rfl
  · kernel_rfl
  · kernel_rfl
  · kernel_rfl
  · kernel_rfl
  · kernel_rfl
  · kernel_rfl
  · kernel_rfl
  · kernel_rfl
  · kernel_rfl
  · kernel_rfl
  · kernel_rfl
  · kernel_rfl
  · kernel_rfl
  · kernel_rfl
  · kernel_rfl
  · kernel_rfl
  · exact k4j
  · exact k4l
  · exact (congrArg (fun b => (Rows.offerChoosesRow.lifted == b)) k4k).trans (by kernel_rfl)
  · exact (congrArg (fun m => (m == some Rows.offerChoosesRow.make)) k8e).trans (by kernel_rfl)
  all_goals kernel_rfl
theorem over : Rows.offerChoosesRow.holds Tryz.pinned (OpenSpec.ofChange Rows.offerChoosesSpec) :=
  OpenClaim.holds_of_wide 4 Tryz.f4 rfl rfl rfl rfl rfl rfl rfl ⟨rfl, rfl, rfl, rfl, rfl⟩ rfl rfl rfl rfl rfl (by kernel_rfl) Tryz.func4 closed
    (of_decide_eq_true (by kernel_rfl)) (by unfold Func.isWrapper; first | (rw [if_pos (by decide +kernel)]; kernel_rfl) | (rw [if_neg (by decide +kernel)]; exact ⟨rfl, rfl⟩))
    (fun os started H enc _ => lifted os started H enc)
theorem proved : Rows.OfferChoosesSaid := over
#print axioms proved
end Go.Proofs.YtcfmjpnffembpaaGreat.offerChooses
