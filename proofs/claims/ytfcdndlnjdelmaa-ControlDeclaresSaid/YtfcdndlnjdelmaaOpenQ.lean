/- Slices of structs of two numbers that come in. No statement is proved here. -/
import Derived.Test.YtfcdndlnjdelmaaL04
import Derived.Test.YtfcdndlnjdelmaaAmD
import Derived.Deep.SlicePairs
namespace Go.Proofs.Ytfcdndlnjdelmaa
open Go.ChangeShapes Go.WideShapes Go.ChangeAt Go.RowKit
set_option linter.unusedVariables false
set_option linter.unusedSimpArgs false
abbrev Sp := Int × Int
def prs : List Int → List Sp
  | a :: b :: r => (a, b) :: prs r
  | _ => []
def fl : List Sp → List Int
  | [] => []
  | p :: r => p.1 :: p.2 :: fl r
theorem prs_fl : ∀ s : List Sp, prs (fl s) = s
  | [] => rfl
  | p :: r => by show (p.1, p.2) :: prs (fl r) = p :: r; rw [prs_fl r]
theorem fl_len : ∀ s : List Sp, (fl s).length = s.length * 2
  | [] => rfl
  | p :: r => by show (fl r).length + 1 + 1 = (r.length + 1) * 2; rw [fl_len r]; omega
theorem prs_get : ∀ (n : Nat) (l : List Int) (j : Nat), l.length = n * 2 → j < n → (prs l)[j]? = some (List.getD l (j * 2) 0, List.getD l (j * 2 + 1) 0)
  | n + 1, a :: b :: r, 0, _, _ => rfl
  | n + 1, a :: b :: r, j + 1, h, hj => by
    show (prs r)[j]? = _
    rw [prs_get n r j (by simp at h; omega) (by omega)]
    rw [show (j + 1) * 2 = j * 2 + 1 + 1 by omega]; rfl
  | n + 1, [_], _, h, _ => by simp at h; omega
  | n + 1, [], _, h, _ => by simp at h
def SlP (k : IntKind) (w : World) (a : Option Addr) (len cap : Nat) (l : List Int) : Prop := (a = none ∧ len = 0 ∧ cap = 0 ∧ l = []) ∨ ∃ x : Addr, a = some x ∧ len ≤ cap ∧ cap ≤ maxLen ∧ l.length = len * 2 ∧ ∀ j, j < len → w.cell? (x.add (j * 2)) = some (.int k (List.getD l (j * 2) 0)) ∧ w.cell? (x.add (j * 2 + 1)) = some (.int k (List.getD l (j * 2 + 1) 0))
theorem SlP.len {k : IntKind} {w : World} {a : Option Addr} {len cap : Nat} {l : List Int} (h : SlP k w a len cap l) : l.length = len * 2 := by
  rcases h with ⟨_, rfl, _, rfl⟩ | ⟨_, _, _, _, h, _⟩
  · rfl
  · exact h
theorem SlP.max {k : IntKind} {w : World} {a : Option Addr} {len cap : Nat} {l : List Int} (h : SlP k w a len cap l) : len ≤ 9223372036854775807 := by
  rcases h with ⟨_, rfl, _⟩ | ⟨_, _, h1, h2, _⟩
  · omega
  · unfold maxLen at h2; omega
theorem open_pairs {H : Type} {enc : TypeId × Value → H} {P : Program} {w : World} {base : Nat} {spare : Nat → Bool} {held : Bool} {t e : TypeId} {f0 f1 : Field} {fuel : Nat} {k : IntKind} {cs : List Value} {x : DataW H × List MemPlace} (ht : P.underlying t = some (.slice e)) (he : P.underlying e = some (.struct #[f0, f1]))
    (ce : P.cellsOf e = 2) (o0 : f0.offset = 0) (o1 : f1.offset = 1) (c0 : P.cellsOf f0.type = 1) (c1 : P.cellsOf f1.type = 1) (k0 : P.underlying f0.type = some (.int k)) (k1 : P.underlying f1.type = some (.int k))
    (h : DataW.trod enc P w base spare held fuel t cs = some x) : ∃ (a : Option Addr) (len cap : Nat) (l : List Int), cs = [.slice a len cap] ∧ SlP k w a len cap l := by
  rcases Go.Deep.open_slice_pairs ht he ce o0 o1 c0 c1 h with ⟨hcs, _⟩ | ⟨a, len, cap, m, n, V0, V1, D0, D1, P0, P1, hcs, _, hl, hm, hmm, _, hcell⟩
  · exact ⟨none, 0, 0, [], hcs, .inl ⟨rfl, rfl, rfl, rfl⟩⟩
  · have hlm : len ≤ m := by rw [hmm]; split <;> omega
    obtain ⟨Z, hZ⟩ : ∃ Z : Value → Int, ∀ k z, Z (.int k z) = z := ⟨fun v => match v with | .int _ z => z | _ => 0, fun _ _ => rfl⟩
    have e0 : ∀ i, i < m → V0 i = .int k (Z (V0 i)) := fun i hi => by
      obtain ⟨z, hz, _⟩ := DataW.trod_int k0 (hcell i hi).2.2.1
      have hz : V0 i = .int k z := by simpa using hz
      rw [hz, hZ]
    have e1 : ∀ i, i < m → V1 i = .int k (Z (V1 i)) := fun i hi => by
      obtain ⟨z, hz, _⟩ := DataW.trod_int k1 (hcell i hi).2.2.2
      have hz : V1 i = .int k z := by simpa using hz
      rw [hz, hZ]
    obtain ⟨s, hs⟩ : ∃ s : List Sp, s = (List.range len).map fun i => (Z (V0 i), Z (V1 i)) := ⟨_, rfl⟩
    have hsl : s.length = len := by rw [hs]; simp
    refine ⟨some a, len, cap, fl s, hcs, .inr ⟨a, rfl, hl, hm, by rw [fl_len, hsl], fun j hj => ?_⟩⟩
    have hg := prs_get len (fl s) j (by rw [fl_len, hsl]) hj
    rw [prs_fl, hs, List.getElem?_map, List.getElem?_range hj] at hg
    have hg := Option.some.inj hg
    rw [← hs] at hg
    have g0 : Z (V0 j) = List.getD (fl s) (j * 2) 0 := congrArg Prod.fst hg
    have g1 : Z (V1 j) = List.getD (fl s) (j * 2 + 1) 0 := congrArg Prod.snd hg
    have hc := hcell j (by omega)
    rw [hc.1, hc.2.1, ← g0, ← g1, ← e0 j (by omega), ← e1 j (by omega)]
    exact ⟨rfl, rfl⟩
theorem rep_pairs {k : IntKind} {w : World} {a : Option Addr} {len cap : Nat} {l : List Int} (h : SlP k w a len cap l) : RepC (fun k => k < w.heap.size) Rh.no w (.d (.sl (dI k l) len)) (.slice a len cap) := by
  refine RepC.d ?_
  rcases h with ⟨rfl, rfl, rfl, rfl⟩ | ⟨x, rfl, hl, hm, hlen, hc⟩
  · exact .nil none 0 (Nat.zero_le _) (fun _ => rfl)
  · by_cases h0 : len = 0
    · subst h0
      have : l = [] := List.eq_nil_of_length_eq_zero (by omega)
      subst this
      exact .nil (some x) cap hm (fun h => by cases h)
    · obtain ⟨b, off, spot⟩ := x
      have hc0 := (hc 0 (by omega)).1
      have hspot : spot = none := by simpa [Addr.add] using World.cell?_spot hc0
      subst hspot
      have hlt : b < w.heap.size := by
        have := World.block_lt_of_cell? w _ hc0
        simpa [Addr.add] using this
      refine .sl (dI k l) (l.map (Value.int k)) b off len cap (by rw [dI_len, List.length_map]) ?_ ?_ (.inl hlt) hlt hl hm
      · intro i u hu
        rw [List.getElem?_map] at hu
        obtain ⟨z, hz, rfl⟩ := Option.map_eq_some_iff.1 hu
        have hi : i < l.length := (List.getElem?_eq_some_iff.1 hz).1
        have hzz : List.getD l i 0 = z := by rw [List.getD_eq_getElem?_getD, hz]; rfl
        have hj := hc (i / 2) (by omega)
        rw [Addr.add_lit, Addr.add_lit] at hj
        rcases Nat.mod_two_eq_zero_or_one i with h9 | h9
        · have e : i / 2 * 2 = i := by omega
          rw [e] at hj; rw [hj.1, hzz]
        · have e : i / 2 * 2 + 1 = i := by omega
          rw [e] at hj; rw [hj.2, hzz]
      · intro i d u hd hu
        unfold dI at hd
        rw [List.getElem?_map] at hu hd
        obtain ⟨z, hz, rfl⟩ := Option.map_eq_some_iff.1 hu
        rw [hz] at hd
        cases hd
        exact .lit _ rfl
theorem repE_pairs {k : IntKind} {w : World} {a : Option Addr} {len cap : Nat} {l : List Int} (h : SlP k w a len cap l) : RepE (fun k => k < w.heap.size) Rh.no w (.c (.d (.sl (dI k l) len))) (.slice a len cap) := rep_pairs h
theorem repA_pairs {k : IntKind} {w : World} {a : Option Addr} {len cap : Nat} {l : List Int} (h : SlP k w a len cap l) : RepE (fun k => k < w.heap.size) Rh.no w (.agg [.d (.sl (dI k l) len)]) (.agg #[.slice a len cap]) := ⟨[_], rfl, rep_pairs h, trivial⟩
end Go.Proofs.Ytfcdndlnjdelmaa
