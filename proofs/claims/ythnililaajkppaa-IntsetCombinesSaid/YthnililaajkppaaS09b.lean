/- Spans in the order of slices.SortFunc. No statement is proved here. -/
import Derived.Test.YthnililaajkppaaW09
import Derived.Test.YthnililaajkppaaS09a
import Derived.Test.YthnililaajkppaaShl
namespace Go.Proofs.Ythnililaajkppaa
open Go.ChangeShapes Go.WideShapes Go.ChangeAt Go.RowKit
set_option linter.unusedVariables false
set_option linter.unusedSimpArgs false
def encS (p : Sp) : List Value := [.int .i64 p.1, .int .i64 p.2]
def cmS (p q : Sp) : Int := Lib.compareInt p.1 q.1
theorem cm_lt (p q : Sp) : ltOf cmS p q = decide (p.1 < q.1) := by
  unfold ltOf cmS Lib.compareInt
  by_cases h : p.1 < q.1
  · rw [if_pos h]; simp [h]
  · rw [if_neg h]
    split <;> simp [h]
theorem cm_swo : Go.Sort.SWO (ltOf cmS) := by
  refine ⟨fun x => ?_, fun x y z h1 h2 => ?_, fun x y z h1 h2 => ?_⟩
  · rw [cm_lt]; exact decide_eq_false (by omega)
  · rw [cm_lt] at *; have := of_decide_eq_true h1; have := of_decide_eq_true h2; exact decide_eq_true (by omega)
  · rw [cm_lt] at *; have := of_decide_eq_false h1; have := of_decide_eq_false h2; exact decide_eq_false (by omega)
theorem fl_get : ∀ (s : List Sp) (t : Nat), t < s.length * 2 → ((fl s).map (Value.int .i64))[t]? = some ((encS (s.toArray[t / 2]!))[t % 2]!)
  | [], t, h => by simp at h
  | p :: r, 0, _ => rfl
  | p :: r, 1, _ => rfl
  | p :: r, t + 2, h => by
    have ih := fl_get r t (by simp at h; omega)
    show ((fl r).map (Value.int .i64))[t]? = _
    rw [ih, show (t + 2) / 2 = t / 2 + 1 by omega, show (t + 2) % 2 = t % 2 by omega]
    congr 3
    have h2 : t / 2 < r.length := by simp at h; omega
    simp [h2]
theorem flatK_fl (s : List Sp) : Go.Sort.flatK encS 2 s.toArray = ((fl s).map (Value.int .i64)).toArray := by
  apply Array.ext
  · rw [Go.Sort.size_flatK]; simp [fl_len]
  · intro i h1 h2
    have h3 : i < s.length * 2 := by rw [Go.Sort.size_flatK] at h1; simpa using h1
    have e := Go.Sort.get_flatK encS 2 s.toArray i (by simpa using h3)
    have e2 := fl_get s i h3
    rw [getElem!_pos _ i h1] at e
    rw [e]
    have h4 : i < ((fl s).map (Value.int .i64)).length := by rw [List.length_map, fl_len]; exact h3
    rw [List.getElem?_eq_getElem h4] at e2
    have e3 := Option.some.inj e2
    rw [← e3]; rfl
def sfA (s : List Sp) : List Sp := (Go.Sort.pdq (ltOf cmS) s.toArray 0 s.toArray.size (Lib.bitLen s.toArray.size) true true).toList
theorem sfA_ok (s : List Sp) : (sfA s).Perm s ∧ srP (sfA s) := by
  have h := Go.Sort.pdq_sorts (ltOf cmS) cm_swo s.toArray 0 s.toArray.size (Lib.bitLen s.toArray.size) true true (Nat.zero_le _) (Nat.le_refl _) (Or.inl rfl)
  unfold sfA
  generalize Go.Sort.pdq (ltOf cmS) s.toArray 0 s.toArray.size (Lib.bitLen s.toArray.size) true true = d at *
  obtain ⟨⟨h1, _, h2⟩, h3⟩ := h
  constructor
  · have e1 : d.extract 0 s.toArray.size = d := by rw [← h1]; exact Array.extract_size
    have e2 : s.toArray.extract 0 s.toArray.size = s.toArray := Array.extract_size
    rw [e1, e2] at h2
    exact h2
  · unfold srP
    rw [List.pairwise_iff_getElem]
    intro i j hi hj hij
    have hj2 : j < d.size := by simpa using hj
    have := h3 i j (Nat.zero_le _) hij (by rw [← h1]; exact hj2)
    rw [cm_lt] at this
    have := of_decide_eq_false this
    rw [getElem!_pos d i (by omega), getElem!_pos d j hj2] at this
    show (d.toList[i]).1 ≤ (d.toList[j]).1
    simp only [Array.getElem_toList]; omega
def sfL (l : List Int) : List Int := fl (sfA (prs l))
theorem sf_len {l : List Int} {n : Nat} (hl : l.length = n * 2) : (sfL l).length = n * 2 := by
  unfold sfL; rw [fl_len, (sfA_ok _).1.length_eq, prs_len hl]
theorem sf_ok {l : List Int} : (prs (sfL l)).Perm (prs l) ∧ srP (prs (sfL l)) := by
  unfold sfL; rw [prs_fl]; exact sfA_ok _

set_option maxHeartbeats 1000000 in
theorem cmp_walk0 (a b c d : Int) (W : World) : Calls Try.prog 30 #[.agg #[.int .i64 a, .int .i64 b], .agg #[.int .i64 c, .int .i64 d]] W fun e w' => e = .returned (.int .i64 (Lib.compareInt a c)) ∧ ∃ q os', w' = Go.Sort.grow (W.drewN q) os' := by
  have hcmp := fun W' => Try.cmp_Compare_int a c W'
  generalize Lib.compareInt a c = r at hcmp ⊢
  go_enter Try.func30, Try.ntmps30
  go_wp2_with (go_at_call 31; refine (hcmp _).mono ?_; rintro e w' ⟨rfl, rfl⟩)
  go_ret
  exact ⟨rfl, 0, _, by rw [Go.Sort.alloc_eq_grow, Go.Sort.alloc_eq_grow, Go.Sort.grow_grow]; rfl⟩
theorem cmp_walk (x y : Sp) (w : World) : Calls Try.prog 30 (#[.agg (encS x).toArray, .agg (encS y).toArray] ++ #[]) w fun e w' => e = .returned (.int .i64 (cmS x y)) ∧ ∃ q os', w' = Go.Sort.grow (w.drewN q) os' := cmp_walk0 x.1 x.2 y.1 y.2 w
theorem S_SortFunc (l : List Int) (n : Nat) (hl : List.length l = n * 2) (h1 : 1 ≤ n) (h2 : n ≤ 1000000) : Fun 29 [.c (.own 0 0 n 2 true), .c (.fn 30 [])] (toG [(0, some (46, .ds (dI .i64 l)))]) 1 (.tup []) (toG [(0, some (46, .ds (dI .i64 (sfL l))))]) 1 :=
  Fun.ofRowF hl h1 (by decide) ((sf_len hl).trans hl.symm) fun blk cap w hH hlt => by
    have hsz : (prs l).toArray.size = n := by rw [List.size_toArray, prs_len hl]
    have e1 : Go.Sort.flatK encS 2 (prs l).toArray = (l.map (Value.int .i64)).toArray := by rw [flatK_fl, fl_prs n l hl]
    have hcon := AnyQ.slices_SortFunc_eq Try.lSort 2 Try.isAgg46 Try.sizeOf46 encS (fun _ => rfl) (fun x v hv => by simp [encS] at hv; rcases hv with rfl | rfl <;> rfl) cmS cm_swo 30 #[] blk 0 cap (prs l).toArray w (enters_of Try.func30 (by kernel_rfl) rfl) (fun _ _ _ _ x y => cmp_walk x y _) (by unfold Go.Sort.HoldsK; rw [e1]; exact hH) hlt (by rw [hsz]; omega)
    rw [hsz] at hcon
    refine hcon.mono ?_
    rintro e w' ⟨rfl, j, os, rfl⟩
    refine ⟨rfl, j, os, ?_⟩
    unfold sortWorldK Go.Sort.putRowK
    have e2 : Go.Sort.flatK encS 2 (Go.Sort.pdq (ltOf cmS) (prs l).toArray 0 n (Lib.bitLen n) true true) = ((sfL l).map (Value.int .i64)).toArray := by
      unfold sfL sfA
      rw [← flatK_fl, hsz]
    rw [e2]
theorem sf_rg {l : List Int} {n : Nat} (hl : l.length = n * 2) (hr : RG l n) : RG (sfL l) n := RG.of (sf_len hl) fun p hp => hr.v hl p (sf_ok.1.mem_iff.1 hp)
theorem sf_nil {l : List Int} (h : l.length = 0) : sfL l = l := by
  have e := List.eq_nil_of_length_eq_zero h
  subst e
  exact List.eq_nil_of_length_eq_zero (by rw [sf_len (n := 0) rfl])
end Go.Proofs.Ythnililaajkppaa
