/- Merged texts. -/
import Derived.Test.YtdbjebdomdnbkaaZBase
import Derived.JoinedOf
import Derived.KernelRfl
import Derived.Test.YtdbjebdomdnbkaaRows
import Derived.Test.YtdbjebdomdnbkaaZQDN
import Derived.Test.YtdbjebdomdnbkaaZOpenT
import Derived.WalkKit
import Derived.ProofKit
import Derived.OpenShut
import Derived.ShutString
import Derived.Deep.Strs
import Derived.ChangeOld
import Derived.Below
namespace Go.Proofs.Ytdbjebdomdnbkaa
open Go.RowKit
def pfChars : List Char := [Char.ofNat 104, Char.ofNat 97, Char.ofNat 114, Char.ofNat 110, Char.ofNat 101, Char.ofNat 115, Char.ofNat 115, Char.ofNat 32, Char.ofNat 50, Char.ofNat 52, Char.ofNat 97, Char.ofNat 101, Char.ofNat 48, Char.ofNat 97, Char.ofNat 52, Char.ofNat 100, Char.ofNat 102, Char.ofNat 100, Char.ofNat 99, Char.ofNat 52, Char.ofNat 50, Char.ofNat 51, Char.ofNat 57, Char.ofNat 56, Char.ofNat 53, Char.ofNat 50, Char.ofNat 50, Char.ofNat 98, Char.ofNat 101, Char.ofNat 102, Char.ofNat 98, Char.ofNat 52, Char.ofNat 48, Char.ofNat 52, Char.ofNat 98, Char.ofNat 101, Char.ofNat 51, Char.ofNat 99, Char.ofNat 52, Char.ofNat 99, Char.ofNat 54, Char.ofNat 57, Char.ofNat 53, Char.ofNat 102, Char.ofNat 49, Char.ofNat 50, Char.ofNat 97, Char.ofNat 55, Char.ofNat 55, Char.ofNat 102, Char.ofNat 99, Char.ofNat 57, Char.ofNat 55, Char.ofNat 102, Char.ofNat 52, Char.ofNat 98, Char.ofNat 99, Char.ofNat 48, Char.ofNat 52, Char.ofNat 50, Char.ofNat 98, Char.ofNat 102, Char.ofNat 97, Char.ofNat 97, Char.ofNat 98, Char.ofNat 51, Char.ofNat 102, Char.ofNat 51, Char.ofNat 56, Char.ofNat 99, Char.ofNat 52, Char.ofNat 56, Char.ofNat 32, Char.ofNat 99, Char.ofNat 117, Char.ofNat 116, Char.ofNat 32, Char.ofNat 97, Char.ofNat 116, Char.ofNat 32, Char.ofNat 115, Char.ofNat 111, Char.ofNat 117, Char.ofNat 110, Char.ofNat 100, Char.ofNat 115, Char.ofNat 101, Char.ofNat 114, Char.ofNat 118, Char.ofNat 105, Char.ofNat 99, Char.ofNat 101, Char.ofNat 47, Char.ofNat 115, Char.ofNat 111, Char.ofNat 117, Char.ofNat 110, Char.ofNat 100, Char.ofNat 115, Char.ofNat 101, Char.ofNat 114, Char.ofNat 118, Char.ofNat 105, Char.ofNat 99, Char.ofNat 101, Char.ofNat 108, Char.ofNat 97, Char.ofNat 119, Char.ofNat 49, Char.ofNat 49, Char.ofNat 46, Char.ofNat 68, Char.ofNat 101, Char.ofNat 115, Char.ofNat 99, Char.ofNat 114, Char.ofNat 105, Char.ofNat 112, Char.ofNat 116, Char.ofNat 111, Char.ofNat 114, Char.ofNat 69, Char.ofNat 110, Char.ofNat 99, Char.ofNat 111, Char.ofNat 100, Char.ofNat 101, Char.ofNat 115]
theorem pf_io : Try.prog.initOrder = String.ofList pfChars := by kernel_rfl
theorem pf_tl : Try.prog.initOrder.toList = pfChars := (congrArg String.toList pf_io).trans String.toList_ofList
def pfWords : List (List Char) := [[Char.ofNat 99, Char.ofNat 117, Char.ofNat 116], [Char.ofNat 97, Char.ofNat 116], [Char.ofNat 115, Char.ofNat 111, Char.ofNat 117, Char.ofNat 110, Char.ofNat 100, Char.ofNat 115, Char.ofNat 101, Char.ofNat 114, Char.ofNat 118, Char.ofNat 105, Char.ofNat 99, Char.ofNat 101, Char.ofNat 47, Char.ofNat 115, Char.ofNat 111, Char.ofNat 117, Char.ofNat 110, Char.ofNat 100, Char.ofNat 115, Char.ofNat 101, Char.ofNat 114, Char.ofNat 118, Char.ofNat 105, Char.ofNat 99, Char.ofNat 101, Char.ofNat 108, Char.ofNat 97, Char.ofNat 119, Char.ofNat 49, Char.ofNat 49, Char.ofNat 46, Char.ofNat 68, Char.ofNat 101, Char.ofNat 115, Char.ofNat 99, Char.ofNat 114, Char.ofNat 105, Char.ofNat 112, Char.ofNat 116, Char.ofNat 111, Char.ofNat 114, Char.ofNat 69, Char.ofNat 110, Char.ofNat 99, Char.ofNat 111, Char.ofNat 100, Char.ofNat 101, Char.ofNat 115]]
theorem pf_w : behindMainWord (wordsSigns Try.prog.initOrder.toList) = pfWords := by rw [pf_tl]; kernel_rfl
theorem gmake (P : Program) (ws : List (List Char)) (h : behindMainWord (wordsSigns P.initOrder.toList) = ws) (hc : ∃ c rest, ws = c :: rest ∧ (c == "gc".toList || c == "spec".toList) = false ∧ (c == "cut".toList || c == "finals".toList && rest.head? == some "cut".toList) = true) : P.make = some .cut := by
 obtain ⟨c, rest, rfl, h1, h2⟩ := hc
 unfold Program.make
 rw [h]
 simp only [h1, h2]
 rfl
theorem genter (P : Program) (c : List Char) (rest : List (List Char)) (h : behindMainWord (wordsSigns P.initOrder.toList) = c :: rest) (hs : stripLifts liftWords (c :: rest) = ([], c :: rest)) (h1 : (c == "cut".toList) = true) (h2 : P.laysLater = false) (h3 : P.bearsReflect = false) (h4 : P.doorFits [] = true) : P.mayEnter = true := by
 unfold Program.mayEnter
 rw [h]
 simp only [hs, h2, h3, h4]
 have h5 : c = "cut".toList := eq_of_beq h1
 subst h5
 simp
theorem gfinal (P : Program) (c : List Char) (rest : List (List Char)) (h : behindMainWord (wordsSigns P.initOrder.toList) = c :: rest) (h1 : (c == "carried".toList) = false) (h2 : P.headLifts = []) : P.liftsFinal = false := by
 unfold Program.liftsFinal
 rw [h, h2]
 simp only [List.head?_cons]
 have : (some c == some "carried".toList) = false := h1
 rw [this]; rfl
theorem glifts (P : Program) (c : List Char) (rest : List (List Char)) (h : behindMainWord (wordsSigns P.initOrder.toList) = c :: rest) (hs : stripLifts liftWords (c :: rest) = ([], c :: rest)) : P.headLifts = [] := by
 unfold Program.headLifts
 rw [h, hs]
 show (if _ then [] else []) = []
 split <;> rfl
theorem pf_strip : stripLifts liftWords pfWords = ([], pfWords) := by kernel_rfl
theorem pf_lifts : Try.prog.headLifts = [] := glifts Try.prog _ _ pf_w pf_strip
theorem pf_make : Try.prog.make = some .cut := gmake Try.prog pfWords pf_w ⟨_, _, rfl, by kernel_rfl, by kernel_rfl⟩
theorem pf_final : Try.prog.liftsFinal = false := gfinal Try.prog _ _ pf_w (by kernel_rfl) pf_lifts
theorem pf_later : Try.prog.laysLater = false := by kernel_rfl
theorem pf_reflect : Try.prog.bearsReflect = false := by kernel_rfl
theorem pf_door : Try.prog.doorFits [] = true := by kernel_rfl
theorem pf_enter : Try.prog.mayEnter = true := genter Try.prog _ _ pf_w pf_strip (by kernel_rfl) pf_later pf_reflect pf_door
theorem pf_laid : laidOutB Try.prog = true := by kernel_rfl
theorem pf_maps : mapsRowed Try.prog = true := by kernel_rfl
theorem pf_heard : Try.prog.stopsHeard = true := by kernel_rfl
end Go.Proofs.Ytdbjebdomdnbkaa
namespace Go.Proofs.Ytdbjebdomdnbkaa.descriptorEncodes
open Go.ChangeShapes Go.WideShapes Go.ChangeAt Go.RowKit
open Go.ChangeMaps (open_string shut_string)
set_option linter.unusedVariables false
set_option linter.unusedSimpArgs false
def IsRow (k : IntKind) (w : World) (a : Option Addr) (len cap : Nat) (zs : List Int) : Prop :=
  (a = none ∧ len = 0 ∧ cap = 0 ∧ zs = []) ∨
  ∃ x, a = some x ∧ len ≤ cap ∧ cap ≤ maxLen ∧ zs.length = cap ∧ (∀ i, i < zs.length → w.cell? (x.add i) = some (.int k (zs.getD i 0))) ∧ ∀ n ∈ zs, (Lit.int k n).wf = true
theorem len_succ {α : Type} {n : Nat} : ∀ {l : List α}, l.length = n + 1 → ∃ a t, l = a :: t ∧ t.length = n
  | [], h => by cases h
  | a :: t, h => ⟨a, t, rfl, by simpa using h⟩
theorem walk (v0 : Value) (g0 : List D) (a1 : Option Addr) (len1 cap1 : Nat) (z1 : List Int) (a2 : Int) (a3 : Int) (w : World) (w0 : InA w (.st (.fcons (.i .u64) (.fcons .s (.fcons (.i .i64) (.fcons (.i .i64) (.fcons (.i .i64) (.fcons (.i .i64) (.fcons (.i .i64) (.fcons (.sl (.st (.fcons (.i .i64) (.fcons (.st (.fcons (.sl (.st (.fcons (.i .i64) (.fcons (.i .i64) .fnil)))) .fnil)) (.fcons (.sl (.sl (.i .i64))) (.fcons (.st (.fcons (.sl (.st (.fcons (.i .i64) (.fcons (.i .i64) .fnil)))) .fnil)) .fnil)))))) .fnil))))))))) g0 v0) (w1 : IsRow .u8 w a1 len1 cap1 z1) (w2 : (Lit.int .u8 a2).wf = true) (w3 : (Lit.int .u8 a3).wf = true) :
    Calls Try.prog 3 #[v0, .slice a1 len1 cap1, .int .u8 a2, .int .u8 a3] w fun e w' => e = .returned (.bool true) ∧ Below w.heap.size w w' := by
  exact zM w0 (k19 w1) (bounds_u8 w2) (bounds_u8 w3)
set_option maxRecDepth 100000 in
theorem lifted (os : Os) (started : os.Started) (H : Type) (enc : TypeId × Value → H) :
    ReturnsInHanded {} Try.checked os 3 .any (Rows.descriptorEncodesSpec.pre6 enc Try.prog Try.f3 Rows.descriptorEncodesRow.domain false) (Rows.descriptorEncodesSpec.post enc Try.prog Try.f3 false true false false) := by
  refine returnsInHanded_of_change (C := Try.checked) own started (by kernel_rfl) Try.func3
    (ChangeSpec.witness6 (enc := enc) (C := Try.checked) false ⟨#[], #[.agg #[.int .u64 0, .string ByteArray.empty, .int .i64 0, .int .i64 0, .int .i64 0, .int .i64 0, .int .i64 0, .slice none 0 0], .slice none 0 0, .int .u8 0, .int .u8 0], []⟩ 8 (by kernel_rfl) (by kernel_rfl) (by kernel_rfl) (by kernel_rfl)) ?_
  intro W base args ds gs before hval0 hW hcnd _
  have hval : ∀ (j : Nat) t v, Try.f3.params[j]? = some t → args[j]? = some v → Value.okWide Try.prog W .any base t v := hval0
  have hW' := hW
  obtain ⟨p, q, hA0, hV, rfl, hfz, hnd⟩ := hW
  have hA : DataW.TrodAll enc Try.prog W 0 (fun _ => true) true Try.f3.params.toList args.toList ds p := hA0
  rw [Try.params3] at hA hval
  obtain ⟨v0, vs0, d0, ds0, p0, q0, hargs, rfl, rfl, h0, r0⟩ := trodAll_cons hA
  obtain ⟨v1, vs1, d1, ds1, p1, q1, rfl, rfl, rfl, h1, r1⟩ := trodAll_cons r0
  obtain ⟨v2, vs2, d2, ds2, p2, q2, rfl, rfl, rfl, h2, r2⟩ := trodAll_cons r1
  obtain ⟨v3, vs3, d3, ds3, p3, q3, rfl, rfl, rfl, h3, r3⟩ := trodAll_cons r2
  obtain ⟨rfl, rfl, rfl⟩ := trodAll_nil r3
  obtain rfl : args = #[v0, v1, v2, v3] := by cases args; simp_all
  obtain ⟨rfl, rfl⟩ := trodVars_none hV
  have k0 := h0
  have lt0 : ∀ x ∈ p0, x.block < W.heap.size := by obtain ⟨m, hm⟩ := k0; exact DataW.trod_lt m _ _ _ hm
  obtain ⟨g0, w0⟩ : ∃ d, InA W (.st (.fcons (.i .u64) (.fcons .s (.fcons (.i .i64) (.fcons (.i .i64) (.fcons (.i .i64) (.fcons (.i .i64) (.fcons (.i .i64) (.fcons (.sl (.st (.fcons (.i .i64) (.fcons (.st (.fcons (.sl (.st (.fcons (.i .i64) (.fcons (.i .i64) .fnil)))) .fnil)) (.fcons (.sl (.sl (.i .i64))) (.fcons (.st (.fcons (.sl (.st (.fcons (.i .i64) (.fcons (.i .i64) .fnil)))) .fnil)) .fnil)))))) .fnil))))))))) d v0 := by
    obtain ⟨cs, e, hsz⟩ := okWide_struct Try.underlying25 (hval 0 25 v0 rfl rfl)
    subst e
    obtain ⟨fuel, hf⟩ := h0
    obtain ⟨ds, e1, e2⟩ := (eG (.st (.fcons (.i .u64) (.fcons .s (.fcons (.i .i64) (.fcons (.i .i64) (.fcons (.i .i64) (.fcons (.i .i64) (.fcons (.i .i64) (.fcons (.sl (.st (.fcons (.i .i64) (.fcons (.st (.fcons (.sl (.st (.fcons (.i .i64) (.fcons (.i .i64) .fnil)))) .fnil)) (.fcons (.sl (.sl (.i .i64))) (.fcons (.st (.fcons (.sl (.st (.fcons (.i .i64) (.fcons (.i .i64) .fnil)))) .fnil)) .fnil)))))) .fnil)))))))))).1 25 fuel _ _ zk hf
    exact ⟨ds, And.intro e1 (InD.agg (And.intro e1 e2))⟩
  obtain ⟨a1, len1, cap1, rfl⟩ := okWide_slice Try.underlying26 (hval 1 26 v1 rfl rfl)
  have k1 := h1
  have lt1 : ∀ x ∈ p1, x.block < W.heap.size := by obtain ⟨m, hm⟩ := k1; exact DataW.trod_lt m _ _ _ hm
  obtain ⟨z1, w1⟩ : ∃ zs, IsRow .u8 W a1 len1 cap1 zs := by
    obtain ⟨fuel, hf⟩ := h1
    rcases open_ints Try.underlying26 Try.underlying5 (by kernel_rfl) hf with ⟨hcs, _⟩ | ⟨x, l, c, zs, hcs, _, hl, hm, hz, _, hcell, hwz⟩
    · simp [Value.cells] at hcs
      obtain ⟨rfl, rfl, rfl⟩ := hcs
      exact ⟨[], .inl ⟨rfl, rfl, rfl, rfl⟩⟩
    · simp [Value.cells] at hcs
      obtain ⟨rfl, rfl, rfl⟩ := hcs
      exact ⟨zs, .inr ⟨_, rfl, hl, hm, by simpa using hz, hcell, hwz⟩⟩
  obtain ⟨a2, rfl, rfl, rfl, w2⟩ := open_int Try.underlying5 (hval 2 5 v2 rfl rfl) h2
  obtain ⟨a3, rfl, rfl, rfl, w3⟩ := open_int Try.underlying5 (hval 3 5 v3 rfl rfl) h3
  clear hA0 hval0
  refine (walk v0 g0 a1 len1 cap1 z1 a2 a3 W w0 w1 w2 w3).mono fun e W' ⟨he, bel⟩ => ?_
  subst he
  exact ⟨_, rfl, _, _, _, [], _, [], hW', trodAll_mk1 (shut_bool Try.underlying4 _), (trodAll_cons_mk (Below.trod k0h (by kernel_rfl) (of_decide_eq_true (by kernel_rfl)) k0 bel lt0) (trodAll_cons_mk (Below.trod k0h (by kernel_rfl) (of_decide_eq_true (by kernel_rfl)) k1 bel lt1) (trodAll_cons_mk (shut_int Try.underlying5 w2) (trodAll_cons_mk (shut_int Try.underlying5 w3) trodAll_mk0)))), rfl, bel.frame _, fun h => by cases h⟩
theorem closed : joinedFacts Try.prog 3 Try.f3 Rows.descriptorEncodesSpec Rows.descriptorEncodesRow = true := by
  simp only [joinedFacts, Bool.and_eq_true]
  repeat' apply And.intro
  · kernel_rfl
  · exact pf_laid
  · exact pf_maps
  · kernel_rfl
  · kernel_rfl
  · kernel_rfl
  · kernel_rfl
  · kernel_rfl
  · kernel_rfl
  · kernel_rfl
  · kernel_rfl
  · kernel_rfl
  · kernel_rfl
  · kernel_rfl
  · kernel_rfl
  · kernel_rfl
  · kernel_rfl
  · kernel_rfl
  · kernel_rfl
  · kernel_rfl
  · kernel_rfl
  · kernel_rfl
  · kernel_rfl
  · kernel_rfl
  · exact pf_heard
  · exact pf_enter
  · exact (congrArg (fun b => (Rows.descriptorEncodesRow.lifted == b)) pf_final).trans (by kernel_rfl)
  · exact (congrArg (fun m => (m == some Rows.descriptorEncodesRow.make)) pf_make).trans (by kernel_rfl)
  all_goals kernel_rfl
theorem over : Rows.descriptorEncodesRow.holds Try.pinned (OpenSpec.ofChange Rows.descriptorEncodesSpec) :=
  OpenClaim.holds_of_wide 3 Try.f3 rfl rfl rfl rfl rfl rfl rfl ⟨rfl, rfl, rfl, rfl, rfl⟩ rfl rfl rfl rfl rfl (by kernel_rfl) Try.func3 closed
    (of_decide_eq_true (by kernel_rfl)) (by unfold Func.isWrapper; first | (rw [if_pos (by decide +kernel)]; kernel_rfl) | (rw [if_neg (by decide +kernel)]; exact ⟨rfl, rfl⟩))
    (fun os started H enc _ => lifted os started H enc)
theorem proved : Rows.DescriptorEncodesSaid := over
#print axioms proved
end Go.Proofs.Ytdbjebdomdnbkaa.descriptorEncodes
