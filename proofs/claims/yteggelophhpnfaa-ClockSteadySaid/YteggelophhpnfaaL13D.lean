/- Clocks out of dice. No statement is proved here. -/
import Derived.Test.YteggelophhpnfaaL13B
import Derived.Test.YteggelophhpnfaaLMade
namespace Go.Proofs.Yteggelophhpnfaa
open Go.ChangeShapes Go.WideShapes Go.ChangeAt Go.RowKit
set_option linter.unusedVariables false
set_option linter.unusedSimpArgs false


theorem ck_snoc {l : List Int} {n : Nat} {t N W : Int} (hl : List.length l = n * 3) (h1 : ckB l n = true) (h2 : atB l n t = true) (h3 : rtB N W = true) (h4 : n < 64) : ckB (l ++ [t, N, W]) (n + 1) = true := by
  obtain ⟨a1, a2⟩ := ck_of h1
  obtain ⟨b1, b2⟩ := at_of h2
  have g : ∀ i, i < n * 3 → List.getD (l ++ [t, N, W]) i 0 = List.getD l i 0 := fun i hi => getD_app_l (by omega)
  have gr : ∀ i, List.getD (l ++ [t, N, W]) (n * 3 + i) 0 = List.getD [t, N, W] i 0 := fun i => by
    rw [getD_app_r (by omega)]; congr 1; omega
  refine ck_t (by omega) fun j hj => ?_
  by_cases e : j = n
  · subst e
    have g0 := gr 0
    have g1 := gr 1
    have g2 := gr 2
    rw [Nat.add_zero] at g0
    have e0 : List.getD (l ++ [t, N, W]) (j * 3) 0 = t := g0
    have e1 : List.getD (l ++ [t, N, W]) (j * 3 + 1) 0 = N := g1
    have e2 : List.getD (l ++ [t, N, W]) (j * 3 + 2) 0 = W := g2
    refine seg_t (by rw [e1, e2]; exact h3) ⟨by rw [e0]; exact b2, .inl (by omega), .inr ?_⟩
    rw [g ((j - 1) * 3) (by omega), e0]; exact b1
  · have h5 := a2 j (by omega)
    unfold segB at h5 ⊢
    rw [g (j * 3) (by omega), g (j * 3 + 1) (by omega), g (j * 3 + 2) (by omega), g ((j - 1) * 3) (by omega)]
    exact h5
theorem cg_ok {l : List Int} {n : Nat} {t N W : Int} (h : cgE l n t N W = 0) : ckB l n = true ∧ atB l n t = true ∧ rtB N W = true ∧ n < 64 := by
  unfold cgE at h
  by_cases h1 : ckB l n = true
  · rw [if_pos h1] at h
    by_cases h2 : atB l n t = true
    · rw [if_pos h2] at h
      by_cases h3 : rtB N W = true
      · rw [if_pos h3] at h
        by_cases h4 : n < 64
        · exact ⟨h1, h2, h3, h4⟩
        · rw [if_neg h4] at h; cases h
      · rw [if_neg h3] at h; cases h
    · rw [if_neg h2] at h; cases h
  · rw [if_neg h1] at h; cases h
theorem cg_ck {l : List Int} {n : Nat} {t N W : Int} (hl : List.length l = n * 3) (h : cgE l n t N W = 0) : ckB (cgL l n t N W) (cgN l n t N W) = true ∧ List.length (cgL l n t N W) = cgN l n t N W * 3 ∧ cgN l n t N W = n + 1 ∧ cgL l n t N W = l ++ [t, N, W] := by
  obtain ⟨h1, h2, h3, h4⟩ := cg_ok h
  have e := cg_yes h1 h2 h3 h4
  rw [e.1, e.2.1]
  refine ⟨ck_snoc hl h1 h2 h3 h4, ?_, rfl, rfl⟩
  rw [List.length_append, hl]; simp; omega
theorem cg_len {l : List Int} {n : Nat} {t N W : Int} (hl : List.length l = n * 3) : List.length (cgL l n t N W) = cgN l n t N W * 3 ∧ cgN l n t N W ≤ n + 1 := by
  unfold cgL cgN
  split
  · rw [List.length_append, hl]; simp; omega
  · simp
theorem nw_ck {N W : Int} (h : rtB N W = true) : nwL N W = [0, N, W] ∧ nwN N W = 1 ∧ nwE N W = 0 ∧ ckB (nwL N W) (nwN N W) = true := by
  unfold nwL nwN nwE; rw [if_pos h, if_pos h, if_pos h]; exact ⟨rfl, rfl, rfl, ck_one.trans h⟩
theorem nw_len (N W : Int) : List.length (nwL N W) = nwN N W * 3 ∧ nwN N W ≤ 1 := by unfold nwL nwN; split <;> exact ⟨rfl, by omega⟩
/-- a rate out of a number -/
def rtN (q : Nat) : Int := if q = 0 then 1 else if q = 1 then 147 else if q = 2 then 2 else if q = 3 then 65537 else if q = 4 then 1 else if q = 5 then 1024 else if q = 6 then 1 else 999
def rtW (q : Nat) : Int := if q = 0 then 1 else if q = 1 then 160 else if q = 2 then 1 else if q = 3 then 65536 else if q = 4 then 3 else if q = 5 then 1 else if q = 6 then 1024 else 1000
theorem rt_all (q : Nat) : rtB (rtN q) (rtW q) = true := by
  unfold rtN rtW
  by_cases h0 : q = 0
  · subst h0; decide +kernel
  by_cases h1 : q = 1
  · subst h1; decide +kernel
  by_cases h2 : q = 2
  · subst h2; decide +kernel
  by_cases h3 : q = 3
  · subst h3; decide +kernel
  by_cases h4 : q = 4
  · subst h4; decide +kernel
  by_cases h5 : q = 5
  · subst h5; decide +kernel
  by_cases h6 : q = 6
  · subst h6; decide +kernel
  rw [if_neg h0, if_neg h1, if_neg h2, if_neg h3, if_neg h4, if_neg h5, if_neg h6, if_neg h0, if_neg h1, if_neg h2, if_neg h3, if_neg h4, if_neg h5, if_neg h6]; decide +kernel


/-- one change -/
def ckStep (l : List Int) (n : Nat) (a : Int) (z : List Int) : List Int × Nat × Int × List Int :=
  if cgE l n (a + (1 + (nextN z 90 : Int))) (rtN (nextN (nextL z 90) 8)) (rtW (nextN (nextL z 90) 8)) = 0 then
    (cgL l n (a + (1 + (nextN z 90 : Int))) (rtN (nextN (nextL z 90) 8)) (rtW (nextN (nextL z 90) 8)), cgN l n (a + (1 + (nextN z 90 : Int))) (rtN (nextN (nextL z 90) 8)) (rtW (nextN (nextL z 90) 8)), a + (1 + (nextN z 90 : Int)), nextL (nextL z 90) 8)
  else (l, n, a + (1 + (nextN z 90 : Int)), nextL (nextL z 90) 8)
theorem step_a (l : List Int) (n : Nat) (a : Int) (z : List Int) : (ckStep l n a z).2.2.1 = a + (1 + (nextN z 90 : Int)) ∧ (ckStep l n a z).2.2.2 = nextL (nextL z 90) 8 := by
  unfold ckStep; split <;> exact ⟨rfl, rfl⟩
theorem step_y {l : List Int} {n : Nat} {a : Int} {z : List Int} (h : cgE l n (a + (1 + (nextN z 90 : Int))) (rtN (nextN (nextL z 90) 8)) (rtW (nextN (nextL z 90) 8)) = 0) : (ckStep l n a z).1 = cgL l n (a + (1 + (nextN z 90 : Int))) (rtN (nextN (nextL z 90) 8)) (rtW (nextN (nextL z 90) 8)) ∧ (ckStep l n a z).2.1 = cgN l n (a + (1 + (nextN z 90 : Int))) (rtN (nextN (nextL z 90) 8)) (rtW (nextN (nextL z 90) 8)) := by
  unfold ckStep; rw [if_pos h]; exact ⟨rfl, rfl⟩
theorem step_n {l : List Int} {n : Nat} {a : Int} {z : List Int} (h : ¬ cgE l n (a + (1 + (nextN z 90 : Int))) (rtN (nextN (nextL z 90) 8)) (rtW (nextN (nextL z 90) 8)) = 0) : (ckStep l n a z).1 = l ∧ (ckStep l n a z).2.1 = n := by
  unfold ckStep; rw [if_neg h]; exact ⟨rfl, rfl⟩
/-- the clock after some changes: its segments, how many, the time, the dice -/
def ckS (z : List Int) : Nat → List Int × Nat × Int × List Int
  | 0 => (nwL (rtN (nextN z 8)) (rtW (nextN z 8)), nwN (rtN (nextN z 8)) (rtW (nextN z 8)), 0, nextL (nextL z 8) 5)
  | k + 1 => ckStep (ckS z k).1 (ckS z k).2.1 (ckS z k).2.2.1 (ckS z k).2.2.2
def ckL (z : List Int) (k : Nat) : List Int := (ckS z k).1
def ckN (z : List Int) (k : Nat) : Nat := (ckS z k).2.1
def ckA (z : List Int) (k : Nat) : Int := (ckS z k).2.2.1
def ckD (z : List Int) (k : Nat) : List Int := (ckS z k).2.2.2
def ckR (z : List Int) (k : Nat) : Nat := nextN (nextL (ckD z k) 90) 8
def ckT (z : List Int) (k : Nat) : Int := ckA z k + (1 + (nextN (ckD z k) 90 : Int))
theorem ckS_a (z : List Int) (k : Nat) : ckA z (k + 1) = ckT z k ∧ ckD z (k + 1) = nextL (nextL (ckD z k) 90) 8 := step_a (ckL z k) (ckN z k) (ckA z k) (ckD z k)
theorem ckS_y {z : List Int} {k : Nat} (h : cgE (ckL z k) (ckN z k) (ckT z k) (rtN (ckR z k)) (rtW (ckR z k)) = 0) : ckL z (k + 1) = cgL (ckL z k) (ckN z k) (ckT z k) (rtN (ckR z k)) (rtW (ckR z k)) ∧ ckN z (k + 1) = cgN (ckL z k) (ckN z k) (ckT z k) (rtN (ckR z k)) (rtW (ckR z k)) := step_y (l := ckL z k) (n := ckN z k) (a := ckA z k) (z := ckD z k) h
theorem ckS_n {z : List Int} {k : Nat} (h : ¬ cgE (ckL z k) (ckN z k) (ckT z k) (rtN (ckR z k)) (rtW (ckR z k)) = 0) : ckL z (k + 1) = ckL z k ∧ ckN z (k + 1) = ckN z k := step_n (l := ckL z k) (n := ckN z k) (a := ckA z k) (z := ckD z k) h
theorem ckS_ok {z : List Int} (hz : Byt z) : ∀ k, ckB (ckL z k) (ckN z k) = true ∧ List.length (ckL z k) = ckN z k * 3 ∧ ckN z k ≤ k + 1 ∧ (0 ≤ ckA z k ∧ ckA z k ≤ k * 256) ∧ Byt (ckD z k)
  | 0 => by
    have h1 := nw_ck (rt_all (nextN z 8))
    have h2 := nw_len (rtN (nextN z 8)) (rtW (nextN z 8))
    exact ⟨h1.2.2.2, h2.1, h2.2, ⟨Int.le_refl _, by simp [ckA, ckS]⟩, nextL_byt _ (nextL_byt _ hz)⟩
  | k + 1 => by
    obtain ⟨i1, i2, i3, i4, i5⟩ := ckS_ok hz k
    have ha := ckS_a z k
    have hn := nextV_in (ckD z k) 90 i5
    have hb : Byt (ckD z (k + 1)) := by rw [ha.2]; exact nextL_byt _ (nextL_byt _ i5)
    have hA : 0 ≤ ckA z (k + 1) ∧ ckA z (k + 1) ≤ ((k + 1 : Nat) : Int) * 256 := by rw [ha.1]; unfold ckT; omega
    by_cases h : cgE (ckL z k) (ckN z k) (ckT z k) (rtN (ckR z k)) (rtW (ckR z k)) = 0
    · have e := cg_ck i2 h
      rw [(ckS_y h).1, (ckS_y h).2]
      exact ⟨e.1, e.2.1, by omega, hA, hb⟩
    · rw [(ckS_n h).1, (ckS_n h).2]
      exact ⟨i1, i2, by omega, hA, hb⟩

set_option maxHeartbeats 4000000 in
set_option maxRecDepth 100000 in
theorem D_Rate0 (l : List Int) (hb : Byt l) (hk : nextN l 8 = 0) : Fun 26 [.c (.ptr 0 0)] (toG [(0, some (72, .ds [D.sl (dI .u8 l) (List.length l)]))]) 1 (.e (.agg [iC 1, iC 1])) (toG [(0, some (72, .ds [D.sl (dI .u8 (nextL l 8)) (List.length (nextL l 8))]))]) 1 := by
  have hv8 := nextV_in l 8 hb
  refine Fun.mk (n := 16) Try.func26 rfl rfl (Nat.le_of_ble_eq_true rfl) ?_
  intro cx hcx
  refine AW.rgs [.no] [0, 2] [0, 1] (P := True) (l' := [(0, rV 0 0), (2, rV 1 0)]) (g' := [(0, some (72, .ds [D.sl (dI .u8 l) (List.length l)])), (1, some (27, .ds [iD 0, iD 0]))]) (nx' := 2) (by kernel_rfl) trivial ?_
  have hx1 : ((((((nextN l 8) : Nat) : Int) < 8) ∨ ((nextN l 8) = 0)) ∧ ((nextN l 8) ≤ 255)) := nextV_in l (8 : Int) ‹_›
  have hx2 : (Byt (nextL l 8)) := nextL_byt (8 : Int) ‹_›
  refine AW.rgs [.no, .no, .no, .no, .no, .no, .no, .no, .no, .no, .call [0] (iV (((nextN l 8) : Nat) : Int)) [(0, some (72, .ds [D.sl (dI .u8 (nextL l 8)) (List.length (nextL l 8))]))] 1 [] none, .n2 (nextN l 8) ((nextN l 8) * 2), .ds [iD (List.getD ([1, 1, 147, 160, 2, 1, 65537, 65536, 1, 3, 1024, 1, 1, 1024, 999, 1000] : List Int) ((nextN l 8) * 2) 0), iD (List.getD ([1, 1, 147, 160, 2, 1, 65537, 65536, 1, 3, 1024, 1, 1, 1024, 999, 1000] : List Int) (((nextN l 8) * 2) + 1) 0)], .no] [2] [0, 1] (P := (_) ∧ (((((nextN l 8) : Nat) : Int) : Int) = (((nextN l 8) : Nat) : Int)) ∧ ((nextN l 8) < 8) ∧ ((0 : Nat) + (nextN l 8) * 2 = ((nextN l 8) * 2)) ∧ (List.take 2 (List.drop ((nextN l 8) * 2) [iD 1, iD 1, iD 147, iD 160, iD 2, iD 1, iD 65537, iD 65536, iD 1, iD 3, iD 1024, iD 1, iD 1, iD 1024, iD 999, iD 1000]) = [iD (List.getD ([1, 1, 147, 160, 2, 1, 65537, 65536, 1, 3, 1024, 1, 1, 1024, 999, 1000] : List Int) ((nextN l 8) * 2) 0), iD (List.getD ([1, 1, 147, 160, 2, 1, 65537, 65536, 1, 3, 1024, 1, 1, 1024, 999, 1000] : List Int) (((nextN l 8) * 2) + 1) 0)]) ∧ (([iD (List.getD ([1, 1, 147, 160, 2, 1, 65537, 65536, 1, 3, 1024, 1, 1, 1024, 999, 1000] : List Int) ((nextN l 8) * 2) 0), iD (List.getD ([1, 1, 147, 160, 2, 1, 65537, 65536, 1, 3, 1024, 1, 1, 1024, 999, 1000] : List Int) (((nextN l 8) * 2) + 1) 0)] : List D).length = 2)) (l' := [(2, rV 1 0)]) (g' := [(0, some (72, .ds [D.sl (dI .u8 (nextL l 8)) (List.length (nextL l 8))])), (1, some (27, .ds [iD (List.getD ([1, 1, 147, 160, 2, 1, 65537, 65536, 1, 3, 1024, 1, 1, 1024, 999, 1000] : List Int) ((nextN l 8) * 2) 0), iD (List.getD ([1, 1, 147, 160, 2, 1, 65537, 65536, 1, 3, 1024, 1, 1, 1024, 999, 1000] : List Int) (((nextN l 8) * 2) + 1) 0)]))]) (nx' := 3) (by kernel_rfl) ⟨(G_Next l 8 (by first | omega | with_reducible assumption | (simp <;> omega) | rfl | assumption)), rfl, (by omega), (by omega), (dI_lds .i64 ([1, 1, 147, 160, 2, 1, 65537, 65536, 1, 3, 1024, 1, 1, 1024, 999, 1000] : List Int) ((nextN l 8) * 2) 2 (by first | omega | (rw [dI_len]; omega) | (simp [dI_len] <;> omega) | rfl)), rfl⟩ ?_
  refine AW.ret ?_
  exact EndP.of (.inr rfl) [] (P := ((1 : Int) = (List.getD ([1, 1, 147, 160, 2, 1, 65537, 65536, 1, 3, 1024, 1, 1, 1024, 999, 1000] : List Int) ((nextN l 8) * 2) 0)) ∧ ((1 : Int) = (List.getD ([1, 1, 147, 160, 2, 1, 65537, 65536, 1, 3, 1024, 1, 1, 1024, 999, 1000] : List Int) (((nextN l 8) * 2) + 1) 0)) ∧ (([D.sl (dI .u8 (nextL l 8)) (List.length (nextL l 8))] : List D) = [D.sl (dI .u8 (nextL l 8)) (List.length (nextL l 8))])) (by kernel_rfl) ⟨(by first | rfl | omega | (rw [show nextN l 8 = 0 by omega]; rfl)), (by first | rfl | omega | (rw [show nextN l 8 = 0 by omega]; rfl)), rfl⟩

set_option maxHeartbeats 4000000 in
set_option maxRecDepth 100000 in
theorem D_Rate1 (l : List Int) (hb : Byt l) (hk : nextN l 8 = 1) : Fun 26 [.c (.ptr 0 0)] (toG [(0, some (72, .ds [D.sl (dI .u8 l) (List.length l)]))]) 1 (.e (.agg [iC 147, iC 160])) (toG [(0, some (72, .ds [D.sl (dI .u8 (nextL l 8)) (List.length (nextL l 8))]))]) 1 := by
  have hv8 := nextV_in l 8 hb
  refine Fun.mk (n := 16) Try.func26 rfl rfl (Nat.le_of_ble_eq_true rfl) ?_
  intro cx hcx
  refine AW.rgs [.no] [0, 2] [0, 1] (P := True) (l' := [(0, rV 0 0), (2, rV 1 0)]) (g' := [(0, some (72, .ds [D.sl (dI .u8 l) (List.length l)])), (1, some (27, .ds [iD 0, iD 0]))]) (nx' := 2) (by kernel_rfl) trivial ?_
  have hx1 : ((((((nextN l 8) : Nat) : Int) < 8) ∨ ((nextN l 8) = 0)) ∧ ((nextN l 8) ≤ 255)) := nextV_in l (8 : Int) ‹_›
  have hx2 : (Byt (nextL l 8)) := nextL_byt (8 : Int) ‹_›
  refine AW.rgs [.no, .no, .no, .no, .no, .no, .no, .no, .no, .no, .call [0] (iV (((nextN l 8) : Nat) : Int)) [(0, some (72, .ds [D.sl (dI .u8 (nextL l 8)) (List.length (nextL l 8))]))] 1 [] none, .n2 (nextN l 8) ((nextN l 8) * 2), .ds [iD (List.getD ([1, 1, 147, 160, 2, 1, 65537, 65536, 1, 3, 1024, 1, 1, 1024, 999, 1000] : List Int) ((nextN l 8) * 2) 0), iD (List.getD ([1, 1, 147, 160, 2, 1, 65537, 65536, 1, 3, 1024, 1, 1, 1024, 999, 1000] : List Int) (((nextN l 8) * 2) + 1) 0)], .no] [2] [0, 1] (P := (_) ∧ (((((nextN l 8) : Nat) : Int) : Int) = (((nextN l 8) : Nat) : Int)) ∧ ((nextN l 8) < 8) ∧ ((0 : Nat) + (nextN l 8) * 2 = ((nextN l 8) * 2)) ∧ (List.take 2 (List.drop ((nextN l 8) * 2) [iD 1, iD 1, iD 147, iD 160, iD 2, iD 1, iD 65537, iD 65536, iD 1, iD 3, iD 1024, iD 1, iD 1, iD 1024, iD 999, iD 1000]) = [iD (List.getD ([1, 1, 147, 160, 2, 1, 65537, 65536, 1, 3, 1024, 1, 1, 1024, 999, 1000] : List Int) ((nextN l 8) * 2) 0), iD (List.getD ([1, 1, 147, 160, 2, 1, 65537, 65536, 1, 3, 1024, 1, 1, 1024, 999, 1000] : List Int) (((nextN l 8) * 2) + 1) 0)]) ∧ (([iD (List.getD ([1, 1, 147, 160, 2, 1, 65537, 65536, 1, 3, 1024, 1, 1, 1024, 999, 1000] : List Int) ((nextN l 8) * 2) 0), iD (List.getD ([1, 1, 147, 160, 2, 1, 65537, 65536, 1, 3, 1024, 1, 1, 1024, 999, 1000] : List Int) (((nextN l 8) * 2) + 1) 0)] : List D).length = 2)) (l' := [(2, rV 1 0)]) (g' := [(0, some (72, .ds [D.sl (dI .u8 (nextL l 8)) (List.length (nextL l 8))])), (1, some (27, .ds [iD (List.getD ([1, 1, 147, 160, 2, 1, 65537, 65536, 1, 3, 1024, 1, 1, 1024, 999, 1000] : List Int) ((nextN l 8) * 2) 0), iD (List.getD ([1, 1, 147, 160, 2, 1, 65537, 65536, 1, 3, 1024, 1, 1, 1024, 999, 1000] : List Int) (((nextN l 8) * 2) + 1) 0)]))]) (nx' := 3) (by kernel_rfl) ⟨(G_Next l 8 (by first | omega | with_reducible assumption | (simp <;> omega) | rfl | assumption)), rfl, (by omega), (by omega), (dI_lds .i64 ([1, 1, 147, 160, 2, 1, 65537, 65536, 1, 3, 1024, 1, 1, 1024, 999, 1000] : List Int) ((nextN l 8) * 2) 2 (by first | omega | (rw [dI_len]; omega) | (simp [dI_len] <;> omega) | rfl)), rfl⟩ ?_
  refine AW.ret ?_
  exact EndP.of (.inr rfl) [] (P := ((147 : Int) = (List.getD ([1, 1, 147, 160, 2, 1, 65537, 65536, 1, 3, 1024, 1, 1, 1024, 999, 1000] : List Int) ((nextN l 8) * 2) 0)) ∧ ((160 : Int) = (List.getD ([1, 1, 147, 160, 2, 1, 65537, 65536, 1, 3, 1024, 1, 1, 1024, 999, 1000] : List Int) (((nextN l 8) * 2) + 1) 0)) ∧ (([D.sl (dI .u8 (nextL l 8)) (List.length (nextL l 8))] : List D) = [D.sl (dI .u8 (nextL l 8)) (List.length (nextL l 8))])) (by kernel_rfl) ⟨(by first | rfl | omega | (rw [show nextN l 8 = 1 by omega]; rfl)), (by first | rfl | omega | (rw [show nextN l 8 = 1 by omega]; rfl)), rfl⟩

set_option maxHeartbeats 4000000 in
set_option maxRecDepth 100000 in
theorem D_Rate2 (l : List Int) (hb : Byt l) (hk : nextN l 8 = 2) : Fun 26 [.c (.ptr 0 0)] (toG [(0, some (72, .ds [D.sl (dI .u8 l) (List.length l)]))]) 1 (.e (.agg [iC 2, iC 1])) (toG [(0, some (72, .ds [D.sl (dI .u8 (nextL l 8)) (List.length (nextL l 8))]))]) 1 := by
  have hv8 := nextV_in l 8 hb
  refine Fun.mk (n := 16) Try.func26 rfl rfl (Nat.le_of_ble_eq_true rfl) ?_
  intro cx hcx
  refine AW.rgs [.no] [0, 2] [0, 1] (P := True) (l' := [(0, rV 0 0), (2, rV 1 0)]) (g' := [(0, some (72, .ds [D.sl (dI .u8 l) (List.length l)])), (1, some (27, .ds [iD 0, iD 0]))]) (nx' := 2) (by kernel_rfl) trivial ?_
  have hx1 : ((((((nextN l 8) : Nat) : Int) < 8) ∨ ((nextN l 8) = 0)) ∧ ((nextN l 8) ≤ 255)) := nextV_in l (8 : Int) ‹_›
  have hx2 : (Byt (nextL l 8)) := nextL_byt (8 : Int) ‹_›
  refine AW.rgs [.no, .no, .no, .no, .no, .no, .no, .no, .no, .no, .call [0] (iV (((nextN l 8) : Nat) : Int)) [(0, some (72, .ds [D.sl (dI .u8 (nextL l 8)) (List.length (nextL l 8))]))] 1 [] none, .n2 (nextN l 8) ((nextN l 8) * 2), .ds [iD (List.getD ([1, 1, 147, 160, 2, 1, 65537, 65536, 1, 3, 1024, 1, 1, 1024, 999, 1000] : List Int) ((nextN l 8) * 2) 0), iD (List.getD ([1, 1, 147, 160, 2, 1, 65537, 65536, 1, 3, 1024, 1, 1, 1024, 999, 1000] : List Int) (((nextN l 8) * 2) + 1) 0)], .no] [2] [0, 1] (P := (_) ∧ (((((nextN l 8) : Nat) : Int) : Int) = (((nextN l 8) : Nat) : Int)) ∧ ((nextN l 8) < 8) ∧ ((0 : Nat) + (nextN l 8) * 2 = ((nextN l 8) * 2)) ∧ (List.take 2 (List.drop ((nextN l 8) * 2) [iD 1, iD 1, iD 147, iD 160, iD 2, iD 1, iD 65537, iD 65536, iD 1, iD 3, iD 1024, iD 1, iD 1, iD 1024, iD 999, iD 1000]) = [iD (List.getD ([1, 1, 147, 160, 2, 1, 65537, 65536, 1, 3, 1024, 1, 1, 1024, 999, 1000] : List Int) ((nextN l 8) * 2) 0), iD (List.getD ([1, 1, 147, 160, 2, 1, 65537, 65536, 1, 3, 1024, 1, 1, 1024, 999, 1000] : List Int) (((nextN l 8) * 2) + 1) 0)]) ∧ (([iD (List.getD ([1, 1, 147, 160, 2, 1, 65537, 65536, 1, 3, 1024, 1, 1, 1024, 999, 1000] : List Int) ((nextN l 8) * 2) 0), iD (List.getD ([1, 1, 147, 160, 2, 1, 65537, 65536, 1, 3, 1024, 1, 1, 1024, 999, 1000] : List Int) (((nextN l 8) * 2) + 1) 0)] : List D).length = 2)) (l' := [(2, rV 1 0)]) (g' := [(0, some (72, .ds [D.sl (dI .u8 (nextL l 8)) (List.length (nextL l 8))])), (1, some (27, .ds [iD (List.getD ([1, 1, 147, 160, 2, 1, 65537, 65536, 1, 3, 1024, 1, 1, 1024, 999, 1000] : List Int) ((nextN l 8) * 2) 0), iD (List.getD ([1, 1, 147, 160, 2, 1, 65537, 65536, 1, 3, 1024, 1, 1, 1024, 999, 1000] : List Int) (((nextN l 8) * 2) + 1) 0)]))]) (nx' := 3) (by kernel_rfl) ⟨(G_Next l 8 (by first | omega | with_reducible assumption | (simp <;> omega) | rfl | assumption)), rfl, (by omega), (by omega), (dI_lds .i64 ([1, 1, 147, 160, 2, 1, 65537, 65536, 1, 3, 1024, 1, 1, 1024, 999, 1000] : List Int) ((nextN l 8) * 2) 2 (by first | omega | (rw [dI_len]; omega) | (simp [dI_len] <;> omega) | rfl)), rfl⟩ ?_
  refine AW.ret ?_
  exact EndP.of (.inr rfl) [] (P := ((2 : Int) = (List.getD ([1, 1, 147, 160, 2, 1, 65537, 65536, 1, 3, 1024, 1, 1, 1024, 999, 1000] : List Int) ((nextN l 8) * 2) 0)) ∧ ((1 : Int) = (List.getD ([1, 1, 147, 160, 2, 1, 65537, 65536, 1, 3, 1024, 1, 1, 1024, 999, 1000] : List Int) (((nextN l 8) * 2) + 1) 0)) ∧ (([D.sl (dI .u8 (nextL l 8)) (List.length (nextL l 8))] : List D) = [D.sl (dI .u8 (nextL l 8)) (List.length (nextL l 8))])) (by kernel_rfl) ⟨(by first | rfl | omega | (rw [show nextN l 8 = 2 by omega]; rfl)), (by first | rfl | omega | (rw [show nextN l 8 = 2 by omega]; rfl)), rfl⟩

set_option maxHeartbeats 4000000 in
set_option maxRecDepth 100000 in
theorem D_Rate3 (l : List Int) (hb : Byt l) (hk : nextN l 8 = 3) : Fun 26 [.c (.ptr 0 0)] (toG [(0, some (72, .ds [D.sl (dI .u8 l) (List.length l)]))]) 1 (.e (.agg [iC 65537, iC 65536])) (toG [(0, some (72, .ds [D.sl (dI .u8 (nextL l 8)) (List.length (nextL l 8))]))]) 1 := by
  have hv8 := nextV_in l 8 hb
  refine Fun.mk (n := 16) Try.func26 rfl rfl (Nat.le_of_ble_eq_true rfl) ?_
  intro cx hcx
  refine AW.rgs [.no] [0, 2] [0, 1] (P := True) (l' := [(0, rV 0 0), (2, rV 1 0)]) (g' := [(0, some (72, .ds [D.sl (dI .u8 l) (List.length l)])), (1, some (27, .ds [iD 0, iD 0]))]) (nx' := 2) (by kernel_rfl) trivial ?_
  have hx1 : ((((((nextN l 8) : Nat) : Int) < 8) ∨ ((nextN l 8) = 0)) ∧ ((nextN l 8) ≤ 255)) := nextV_in l (8 : Int) ‹_›
  have hx2 : (Byt (nextL l 8)) := nextL_byt (8 : Int) ‹_›
  refine AW.rgs [.no, .no, .no, .no, .no, .no, .no, .no, .no, .no, .call [0] (iV (((nextN l 8) : Nat) : Int)) [(0, some (72, .ds [D.sl (dI .u8 (nextL l 8)) (List.length (nextL l 8))]))] 1 [] none, .n2 (nextN l 8) ((nextN l 8) * 2), .ds [iD (List.getD ([1, 1, 147, 160, 2, 1, 65537, 65536, 1, 3, 1024, 1, 1, 1024, 999, 1000] : List Int) ((nextN l 8) * 2) 0), iD (List.getD ([1, 1, 147, 160, 2, 1, 65537, 65536, 1, 3, 1024, 1, 1, 1024, 999, 1000] : List Int) (((nextN l 8) * 2) + 1) 0)], .no] [2] [0, 1] (P := (_) ∧ (((((nextN l 8) : Nat) : Int) : Int) = (((nextN l 8) : Nat) : Int)) ∧ ((nextN l 8) < 8) ∧ ((0 : Nat) + (nextN l 8) * 2 = ((nextN l 8) * 2)) ∧ (List.take 2 (List.drop ((nextN l 8) * 2) [iD 1, iD 1, iD 147, iD 160, iD 2, iD 1, iD 65537, iD 65536, iD 1, iD 3, iD 1024, iD 1, iD 1, iD 1024, iD 999, iD 1000]) = [iD (List.getD ([1, 1, 147, 160, 2, 1, 65537, 65536, 1, 3, 1024, 1, 1, 1024, 999, 1000] : List Int) ((nextN l 8) * 2) 0), iD (List.getD ([1, 1, 147, 160, 2, 1, 65537, 65536, 1, 3, 1024, 1, 1, 1024, 999, 1000] : List Int) (((nextN l 8) * 2) + 1) 0)]) ∧ (([iD (List.getD ([1, 1, 147, 160, 2, 1, 65537, 65536, 1, 3, 1024, 1, 1, 1024, 999, 1000] : List Int) ((nextN l 8) * 2) 0), iD (List.getD ([1, 1, 147, 160, 2, 1, 65537, 65536, 1, 3, 1024, 1, 1, 1024, 999, 1000] : List Int) (((nextN l 8) * 2) + 1) 0)] : List D).length = 2)) (l' := [(2, rV 1 0)]) (g' := [(0, some (72, .ds [D.sl (dI .u8 (nextL l 8)) (List.length (nextL l 8))])), (1, some (27, .ds [iD (List.getD ([1, 1, 147, 160, 2, 1, 65537, 65536, 1, 3, 1024, 1, 1, 1024, 999, 1000] : List Int) ((nextN l 8) * 2) 0), iD (List.getD ([1, 1, 147, 160, 2, 1, 65537, 65536, 1, 3, 1024, 1, 1, 1024, 999, 1000] : List Int) (((nextN l 8) * 2) + 1) 0)]))]) (nx' := 3) (by kernel_rfl) ⟨(G_Next l 8 (by first | omega | with_reducible assumption | (simp <;> omega) | rfl | assumption)), rfl, (by omega), (by omega), (dI_lds .i64 ([1, 1, 147, 160, 2, 1, 65537, 65536, 1, 3, 1024, 1, 1, 1024, 999, 1000] : List Int) ((nextN l 8) * 2) 2 (by first | omega | (rw [dI_len]; omega) | (simp [dI_len] <;> omega) | rfl)), rfl⟩ ?_
  refine AW.ret ?_
  exact EndP.of (.inr rfl) [] (P := ((65537 : Int) = (List.getD ([1, 1, 147, 160, 2, 1, 65537, 65536, 1, 3, 1024, 1, 1, 1024, 999, 1000] : List Int) ((nextN l 8) * 2) 0)) ∧ ((65536 : Int) = (List.getD ([1, 1, 147, 160, 2, 1, 65537, 65536, 1, 3, 1024, 1, 1, 1024, 999, 1000] : List Int) (((nextN l 8) * 2) + 1) 0)) ∧ (([D.sl (dI .u8 (nextL l 8)) (List.length (nextL l 8))] : List D) = [D.sl (dI .u8 (nextL l 8)) (List.length (nextL l 8))])) (by kernel_rfl) ⟨(by first | rfl | omega | (rw [show nextN l 8 = 3 by omega]; rfl)), (by first | rfl | omega | (rw [show nextN l 8 = 3 by omega]; rfl)), rfl⟩

set_option maxHeartbeats 4000000 in
set_option maxRecDepth 100000 in
theorem D_Rate4 (l : List Int) (hb : Byt l) (hk : nextN l 8 = 4) : Fun 26 [.c (.ptr 0 0)] (toG [(0, some (72, .ds [D.sl (dI .u8 l) (List.length l)]))]) 1 (.e (.agg [iC 1, iC 3])) (toG [(0, some (72, .ds [D.sl (dI .u8 (nextL l 8)) (List.length (nextL l 8))]))]) 1 := by
  have hv8 := nextV_in l 8 hb
  refine Fun.mk (n := 16) Try.func26 rfl rfl (Nat.le_of_ble_eq_true rfl) ?_
  intro cx hcx
  refine AW.rgs [.no] [0, 2] [0, 1] (P := True) (l' := [(0, rV 0 0), (2, rV 1 0)]) (g' := [(0, some (72, .ds [D.sl (dI .u8 l) (List.length l)])), (1, some (27, .ds [iD 0, iD 0]))]) (nx' := 2) (by kernel_rfl) trivial ?_
  have hx1 : ((((((nextN l 8) : Nat) : Int) < 8) ∨ ((nextN l 8) = 0)) ∧ ((nextN l 8) ≤ 255)) := nextV_in l (8 : Int) ‹_›
  have hx2 : (Byt (nextL l 8)) := nextL_byt (8 : Int) ‹_›
  refine AW.rgs [.no, .no, .no, .no, .no, .no, .no, .no, .no, .no, .call [0] (iV (((nextN l 8) : Nat) : Int)) [(0, some (72, .ds [D.sl (dI .u8 (nextL l 8)) (List.length (nextL l 8))]))] 1 [] none, .n2 (nextN l 8) ((nextN l 8) * 2), .ds [iD (List.getD ([1, 1, 147, 160, 2, 1, 65537, 65536, 1, 3, 1024, 1, 1, 1024, 999, 1000] : List Int) ((nextN l 8) * 2) 0), iD (List.getD ([1, 1, 147, 160, 2, 1, 65537, 65536, 1, 3, 1024, 1, 1, 1024, 999, 1000] : List Int) (((nextN l 8) * 2) + 1) 0)], .no] [2] [0, 1] (P := (_) ∧ (((((nextN l 8) : Nat) : Int) : Int) = (((nextN l 8) : Nat) : Int)) ∧ ((nextN l 8) < 8) ∧ ((0 : Nat) + (nextN l 8) * 2 = ((nextN l 8) * 2)) ∧ (List.take 2 (List.drop ((nextN l 8) * 2) [iD 1, iD 1, iD 147, iD 160, iD 2, iD 1, iD 65537, iD 65536, iD 1, iD 3, iD 1024, iD 1, iD 1, iD 1024, iD 999, iD 1000]) = [iD (List.getD ([1, 1, 147, 160, 2, 1, 65537, 65536, 1, 3, 1024, 1, 1, 1024, 999, 1000] : List Int) ((nextN l 8) * 2) 0), iD (List.getD ([1, 1, 147, 160, 2, 1, 65537, 65536, 1, 3, 1024, 1, 1, 1024, 999, 1000] : List Int) (((nextN l 8) * 2) + 1) 0)]) ∧ (([iD (List.getD ([1, 1, 147, 160, 2, 1, 65537, 65536, 1, 3, 1024, 1, 1, 1024, 999, 1000] : List Int) ((nextN l 8) * 2) 0), iD (List.getD ([1, 1, 147, 160, 2, 1, 65537, 65536, 1, 3, 1024, 1, 1, 1024, 999, 1000] : List Int) (((nextN l 8) * 2) + 1) 0)] : List D).length = 2)) (l' := [(2, rV 1 0)]) (g' := [(0, some (72, .ds [D.sl (dI .u8 (nextL l 8)) (List.length (nextL l 8))])), (1, some (27, .ds [iD (List.getD ([1, 1, 147, 160, 2, 1, 65537, 65536, 1, 3, 1024, 1, 1, 1024, 999, 1000] : List Int) ((nextN l 8) * 2) 0), iD (List.getD ([1, 1, 147, 160, 2, 1, 65537, 65536, 1, 3, 1024, 1, 1, 1024, 999, 1000] : List Int) (((nextN l 8) * 2) + 1) 0)]))]) (nx' := 3) (by kernel_rfl) ⟨(G_Next l 8 (by first | omega | with_reducible assumption | (simp <;> omega) | rfl | assumption)), rfl, (by omega), (by omega), (dI_lds .i64 ([1, 1, 147, 160, 2, 1, 65537, 65536, 1, 3, 1024, 1, 1, 1024, 999, 1000] : List Int) ((nextN l 8) * 2) 2 (by first | omega | (rw [dI_len]; omega) | (simp [dI_len] <;> omega) | rfl)), rfl⟩ ?_
  refine AW.ret ?_
  exact EndP.of (.inr rfl) [] (P := ((1 : Int) = (List.getD ([1, 1, 147, 160, 2, 1, 65537, 65536, 1, 3, 1024, 1, 1, 1024, 999, 1000] : List Int) ((nextN l 8) * 2) 0)) ∧ ((3 : Int) = (List.getD ([1, 1, 147, 160, 2, 1, 65537, 65536, 1, 3, 1024, 1, 1, 1024, 999, 1000] : List Int) (((nextN l 8) * 2) + 1) 0)) ∧ (([D.sl (dI .u8 (nextL l 8)) (List.length (nextL l 8))] : List D) = [D.sl (dI .u8 (nextL l 8)) (List.length (nextL l 8))])) (by kernel_rfl) ⟨(by first | rfl | omega | (rw [show nextN l 8 = 4 by omega]; rfl)), (by first | rfl | omega | (rw [show nextN l 8 = 4 by omega]; rfl)), rfl⟩

set_option maxHeartbeats 4000000 in
set_option maxRecDepth 100000 in
theorem D_Rate5 (l : List Int) (hb : Byt l) (hk : nextN l 8 = 5) : Fun 26 [.c (.ptr 0 0)] (toG [(0, some (72, .ds [D.sl (dI .u8 l) (List.length l)]))]) 1 (.e (.agg [iC 1024, iC 1])) (toG [(0, some (72, .ds [D.sl (dI .u8 (nextL l 8)) (List.length (nextL l 8))]))]) 1 := by
  have hv8 := nextV_in l 8 hb
  refine Fun.mk (n := 16) Try.func26 rfl rfl (Nat.le_of_ble_eq_true rfl) ?_
  intro cx hcx
  refine AW.rgs [.no] [0, 2] [0, 1] (P := True) (l' := [(0, rV 0 0), (2, rV 1 0)]) (g' := [(0, some (72, .ds [D.sl (dI .u8 l) (List.length l)])), (1, some (27, .ds [iD 0, iD 0]))]) (nx' := 2) (by kernel_rfl) trivial ?_
  have hx1 : ((((((nextN l 8) : Nat) : Int) < 8) ∨ ((nextN l 8) = 0)) ∧ ((nextN l 8) ≤ 255)) := nextV_in l (8 : Int) ‹_›
  have hx2 : (Byt (nextL l 8)) := nextL_byt (8 : Int) ‹_›
  refine AW.rgs [.no, .no, .no, .no, .no, .no, .no, .no, .no, .no, .call [0] (iV (((nextN l 8) : Nat) : Int)) [(0, some (72, .ds [D.sl (dI .u8 (nextL l 8)) (List.length (nextL l 8))]))] 1 [] none, .n2 (nextN l 8) ((nextN l 8) * 2), .ds [iD (List.getD ([1, 1, 147, 160, 2, 1, 65537, 65536, 1, 3, 1024, 1, 1, 1024, 999, 1000] : List Int) ((nextN l 8) * 2) 0), iD (List.getD ([1, 1, 147, 160, 2, 1, 65537, 65536, 1, 3, 1024, 1, 1, 1024, 999, 1000] : List Int) (((nextN l 8) * 2) + 1) 0)], .no] [2] [0, 1] (P := (_) ∧ (((((nextN l 8) : Nat) : Int) : Int) = (((nextN l 8) : Nat) : Int)) ∧ ((nextN l 8) < 8) ∧ ((0 : Nat) + (nextN l 8) * 2 = ((nextN l 8) * 2)) ∧ (List.take 2 (List.drop ((nextN l 8) * 2) [iD 1, iD 1, iD 147, iD 160, iD 2, iD 1, iD 65537, iD 65536, iD 1, iD 3, iD 1024, iD 1, iD 1, iD 1024, iD 999, iD 1000]) = [iD (List.getD ([1, 1, 147, 160, 2, 1, 65537, 65536, 1, 3, 1024, 1, 1, 1024, 999, 1000] : List Int) ((nextN l 8) * 2) 0), iD (List.getD ([1, 1, 147, 160, 2, 1, 65537, 65536, 1, 3, 1024, 1, 1, 1024, 999, 1000] : List Int) (((nextN l 8) * 2) + 1) 0)]) ∧ (([iD (List.getD ([1, 1, 147, 160, 2, 1, 65537, 65536, 1, 3, 1024, 1, 1, 1024, 999, 1000] : List Int) ((nextN l 8) * 2) 0), iD (List.getD ([1, 1, 147, 160, 2, 1, 65537, 65536, 1, 3, 1024, 1, 1, 1024, 999, 1000] : List Int) (((nextN l 8) * 2) + 1) 0)] : List D).length = 2)) (l' := [(2, rV 1 0)]) (g' := [(0, some (72, .ds [D.sl (dI .u8 (nextL l 8)) (List.length (nextL l 8))])), (1, some (27, .ds [iD (List.getD ([1, 1, 147, 160, 2, 1, 65537, 65536, 1, 3, 1024, 1, 1, 1024, 999, 1000] : List Int) ((nextN l 8) * 2) 0), iD (List.getD ([1, 1, 147, 160, 2, 1, 65537, 65536, 1, 3, 1024, 1, 1, 1024, 999, 1000] : List Int) (((nextN l 8) * 2) + 1) 0)]))]) (nx' := 3) (by kernel_rfl) ⟨(G_Next l 8 (by first | omega | with_reducible assumption | (simp <;> omega) | rfl | assumption)), rfl, (by omega), (by omega), (dI_lds .i64 ([1, 1, 147, 160, 2, 1, 65537, 65536, 1, 3, 1024, 1, 1, 1024, 999, 1000] : List Int) ((nextN l 8) * 2) 2 (by first | omega | (rw [dI_len]; omega) | (simp [dI_len] <;> omega) | rfl)), rfl⟩ ?_
  refine AW.ret ?_
  exact EndP.of (.inr rfl) [] (P := ((1024 : Int) = (List.getD ([1, 1, 147, 160, 2, 1, 65537, 65536, 1, 3, 1024, 1, 1, 1024, 999, 1000] : List Int) ((nextN l 8) * 2) 0)) ∧ ((1 : Int) = (List.getD ([1, 1, 147, 160, 2, 1, 65537, 65536, 1, 3, 1024, 1, 1, 1024, 999, 1000] : List Int) (((nextN l 8) * 2) + 1) 0)) ∧ (([D.sl (dI .u8 (nextL l 8)) (List.length (nextL l 8))] : List D) = [D.sl (dI .u8 (nextL l 8)) (List.length (nextL l 8))])) (by kernel_rfl) ⟨(by first | rfl | omega | (rw [show nextN l 8 = 5 by omega]; rfl)), (by first | rfl | omega | (rw [show nextN l 8 = 5 by omega]; rfl)), rfl⟩

set_option maxHeartbeats 4000000 in
set_option maxRecDepth 100000 in
theorem D_Rate6 (l : List Int) (hb : Byt l) (hk : nextN l 8 = 6) : Fun 26 [.c (.ptr 0 0)] (toG [(0, some (72, .ds [D.sl (dI .u8 l) (List.length l)]))]) 1 (.e (.agg [iC 1, iC 1024])) (toG [(0, some (72, .ds [D.sl (dI .u8 (nextL l 8)) (List.length (nextL l 8))]))]) 1 := by
  have hv8 := nextV_in l 8 hb
  refine Fun.mk (n := 16) Try.func26 rfl rfl (Nat.le_of_ble_eq_true rfl) ?_
  intro cx hcx
  refine AW.rgs [.no] [0, 2] [0, 1] (P := True) (l' := [(0, rV 0 0), (2, rV 1 0)]) (g' := [(0, some (72, .ds [D.sl (dI .u8 l) (List.length l)])), (1, some (27, .ds [iD 0, iD 0]))]) (nx' := 2) (by kernel_rfl) trivial ?_
  have hx1 : ((((((nextN l 8) : Nat) : Int) < 8) ∨ ((nextN l 8) = 0)) ∧ ((nextN l 8) ≤ 255)) := nextV_in l (8 : Int) ‹_›
  have hx2 : (Byt (nextL l 8)) := nextL_byt (8 : Int) ‹_›
  refine AW.rgs [.no, .no, .no, .no, .no, .no, .no, .no, .no, .no, .call [0] (iV (((nextN l 8) : Nat) : Int)) [(0, some (72, .ds [D.sl (dI .u8 (nextL l 8)) (List.length (nextL l 8))]))] 1 [] none, .n2 (nextN l 8) ((nextN l 8) * 2), .ds [iD (List.getD ([1, 1, 147, 160, 2, 1, 65537, 65536, 1, 3, 1024, 1, 1, 1024, 999, 1000] : List Int) ((nextN l 8) * 2) 0), iD (List.getD ([1, 1, 147, 160, 2, 1, 65537, 65536, 1, 3, 1024, 1, 1, 1024, 999, 1000] : List Int) (((nextN l 8) * 2) + 1) 0)], .no] [2] [0, 1] (P := (_) ∧ (((((nextN l 8) : Nat) : Int) : Int) = (((nextN l 8) : Nat) : Int)) ∧ ((nextN l 8) < 8) ∧ ((0 : Nat) + (nextN l 8) * 2 = ((nextN l 8) * 2)) ∧ (List.take 2 (List.drop ((nextN l 8) * 2) [iD 1, iD 1, iD 147, iD 160, iD 2, iD 1, iD 65537, iD 65536, iD 1, iD 3, iD 1024, iD 1, iD 1, iD 1024, iD 999, iD 1000]) = [iD (List.getD ([1, 1, 147, 160, 2, 1, 65537, 65536, 1, 3, 1024, 1, 1, 1024, 999, 1000] : List Int) ((nextN l 8) * 2) 0), iD (List.getD ([1, 1, 147, 160, 2, 1, 65537, 65536, 1, 3, 1024, 1, 1, 1024, 999, 1000] : List Int) (((nextN l 8) * 2) + 1) 0)]) ∧ (([iD (List.getD ([1, 1, 147, 160, 2, 1, 65537, 65536, 1, 3, 1024, 1, 1, 1024, 999, 1000] : List Int) ((nextN l 8) * 2) 0), iD (List.getD ([1, 1, 147, 160, 2, 1, 65537, 65536, 1, 3, 1024, 1, 1, 1024, 999, 1000] : List Int) (((nextN l 8) * 2) + 1) 0)] : List D).length = 2)) (l' := [(2, rV 1 0)]) (g' := [(0, some (72, .ds [D.sl (dI .u8 (nextL l 8)) (List.length (nextL l 8))])), (1, some (27, .ds [iD (List.getD ([1, 1, 147, 160, 2, 1, 65537, 65536, 1, 3, 1024, 1, 1, 1024, 999, 1000] : List Int) ((nextN l 8) * 2) 0), iD (List.getD ([1, 1, 147, 160, 2, 1, 65537, 65536, 1, 3, 1024, 1, 1, 1024, 999, 1000] : List Int) (((nextN l 8) * 2) + 1) 0)]))]) (nx' := 3) (by kernel_rfl) ⟨(G_Next l 8 (by first | omega | with_reducible assumption | (simp <;> omega) | rfl | assumption)), rfl, (by omega), (by omega), (dI_lds .i64 ([1, 1, 147, 160, 2, 1, 65537, 65536, 1, 3, 1024, 1, 1, 1024, 999, 1000] : List Int) ((nextN l 8) * 2) 2 (by first | omega | (rw [dI_len]; omega) | (simp [dI_len] <;> omega) | rfl)), rfl⟩ ?_
  refine AW.ret ?_
  exact EndP.of (.inr rfl) [] (P := ((1 : Int) = (List.getD ([1, 1, 147, 160, 2, 1, 65537, 65536, 1, 3, 1024, 1, 1, 1024, 999, 1000] : List Int) ((nextN l 8) * 2) 0)) ∧ ((1024 : Int) = (List.getD ([1, 1, 147, 160, 2, 1, 65537, 65536, 1, 3, 1024, 1, 1, 1024, 999, 1000] : List Int) (((nextN l 8) * 2) + 1) 0)) ∧ (([D.sl (dI .u8 (nextL l 8)) (List.length (nextL l 8))] : List D) = [D.sl (dI .u8 (nextL l 8)) (List.length (nextL l 8))])) (by kernel_rfl) ⟨(by first | rfl | omega | (rw [show nextN l 8 = 6 by omega]; rfl)), (by first | rfl | omega | (rw [show nextN l 8 = 6 by omega]; rfl)), rfl⟩

set_option maxHeartbeats 4000000 in
set_option maxRecDepth 100000 in
theorem D_Rate7 (l : List Int) (hb : Byt l) (hk : 7 ≤ nextN l 8) : Fun 26 [.c (.ptr 0 0)] (toG [(0, some (72, .ds [D.sl (dI .u8 l) (List.length l)]))]) 1 (.e (.agg [iC 999, iC 1000])) (toG [(0, some (72, .ds [D.sl (dI .u8 (nextL l 8)) (List.length (nextL l 8))]))]) 1 := by
  have hv8 := nextV_in l 8 hb
  refine Fun.mk (n := 16) Try.func26 rfl rfl (Nat.le_of_ble_eq_true rfl) ?_
  intro cx hcx
  refine AW.rgs [.no] [0, 2] [0, 1] (P := True) (l' := [(0, rV 0 0), (2, rV 1 0)]) (g' := [(0, some (72, .ds [D.sl (dI .u8 l) (List.length l)])), (1, some (27, .ds [iD 0, iD 0]))]) (nx' := 2) (by kernel_rfl) trivial ?_
  have hx1 : ((((((nextN l 8) : Nat) : Int) < 8) ∨ ((nextN l 8) = 0)) ∧ ((nextN l 8) ≤ 255)) := nextV_in l (8 : Int) ‹_›
  have hx2 : (Byt (nextL l 8)) := nextL_byt (8 : Int) ‹_›
  refine AW.rgs [.no, .no, .no, .no, .no, .no, .no, .no, .no, .no, .call [0] (iV (((nextN l 8) : Nat) : Int)) [(0, some (72, .ds [D.sl (dI .u8 (nextL l 8)) (List.length (nextL l 8))]))] 1 [] none, .n2 (nextN l 8) ((nextN l 8) * 2), .ds [iD (List.getD ([1, 1, 147, 160, 2, 1, 65537, 65536, 1, 3, 1024, 1, 1, 1024, 999, 1000] : List Int) ((nextN l 8) * 2) 0), iD (List.getD ([1, 1, 147, 160, 2, 1, 65537, 65536, 1, 3, 1024, 1, 1, 1024, 999, 1000] : List Int) (((nextN l 8) * 2) + 1) 0)], .no] [2] [0, 1] (P := (_) ∧ (((((nextN l 8) : Nat) : Int) : Int) = (((nextN l 8) : Nat) : Int)) ∧ ((nextN l 8) < 8) ∧ ((0 : Nat) + (nextN l 8) * 2 = ((nextN l 8) * 2)) ∧ (List.take 2 (List.drop ((nextN l 8) * 2) [iD 1, iD 1, iD 147, iD 160, iD 2, iD 1, iD 65537, iD 65536, iD 1, iD 3, iD 1024, iD 1, iD 1, iD 1024, iD 999, iD 1000]) = [iD (List.getD ([1, 1, 147, 160, 2, 1, 65537, 65536, 1, 3, 1024, 1, 1, 1024, 999, 1000] : List Int) ((nextN l 8) * 2) 0), iD (List.getD ([1, 1, 147, 160, 2, 1, 65537, 65536, 1, 3, 1024, 1, 1, 1024, 999, 1000] : List Int) (((nextN l 8) * 2) + 1) 0)]) ∧ (([iD (List.getD ([1, 1, 147, 160, 2, 1, 65537, 65536, 1, 3, 1024, 1, 1, 1024, 999, 1000] : List Int) ((nextN l 8) * 2) 0), iD (List.getD ([1, 1, 147, 160, 2, 1, 65537, 65536, 1, 3, 1024, 1, 1, 1024, 999, 1000] : List Int) (((nextN l 8) * 2) + 1) 0)] : List D).length = 2)) (l' := [(2, rV 1 0)]) (g' := [(0, some (72, .ds [D.sl (dI .u8 (nextL l 8)) (List.length (nextL l 8))])), (1, some (27, .ds [iD (List.getD ([1, 1, 147, 160, 2, 1, 65537, 65536, 1, 3, 1024, 1, 1, 1024, 999, 1000] : List Int) ((nextN l 8) * 2) 0), iD (List.getD ([1, 1, 147, 160, 2, 1, 65537, 65536, 1, 3, 1024, 1, 1, 1024, 999, 1000] : List Int) (((nextN l 8) * 2) + 1) 0)]))]) (nx' := 3) (by kernel_rfl) ⟨(G_Next l 8 (by first | omega | with_reducible assumption | (simp <;> omega) | rfl | assumption)), rfl, (by omega), (by omega), (dI_lds .i64 ([1, 1, 147, 160, 2, 1, 65537, 65536, 1, 3, 1024, 1, 1, 1024, 999, 1000] : List Int) ((nextN l 8) * 2) 2 (by first | omega | (rw [dI_len]; omega) | (simp [dI_len] <;> omega) | rfl)), rfl⟩ ?_
  refine AW.ret ?_
  exact EndP.of (.inr rfl) [] (P := ((999 : Int) = (List.getD ([1, 1, 147, 160, 2, 1, 65537, 65536, 1, 3, 1024, 1, 1, 1024, 999, 1000] : List Int) ((nextN l 8) * 2) 0)) ∧ ((1000 : Int) = (List.getD ([1, 1, 147, 160, 2, 1, 65537, 65536, 1, 3, 1024, 1, 1, 1024, 999, 1000] : List Int) (((nextN l 8) * 2) + 1) 0)) ∧ (([D.sl (dI .u8 (nextL l 8)) (List.length (nextL l 8))] : List D) = [D.sl (dI .u8 (nextL l 8)) (List.length (nextL l 8))])) (by kernel_rfl) ⟨(by first | rfl | omega | (rw [show nextN l 8 = 7 by omega]; rfl)), (by first | rfl | omega | (rw [show nextN l 8 = 7 by omega]; rfl)), rfl⟩

theorem D_Rate (l : List Int) (hb : Byt l) : Fun 26 [.c (.ptr 0 0)] (toG [(0, some (72, .ds [D.sl (dI .u8 l) (List.length l)]))]) 1 (.e (.agg [iC (rtN (nextN l 8)), iC (rtW (nextN l 8))])) (toG [(0, some (72, .ds [D.sl (dI .u8 (nextL l 8)) (List.length (nextL l 8))]))]) 1 := by
  by_cases h0 : nextN l 8 = 0
  · have h9 := D_Rate0 l hb h0
    rw [show rtN (nextN l 8) = 1 by rw [h0]; rfl, show rtW (nextN l 8) = 1 by rw [h0]; rfl]; exact h9
  by_cases h1 : nextN l 8 = 1
  · have h9 := D_Rate1 l hb h1
    rw [show rtN (nextN l 8) = 147 by rw [h1]; rfl, show rtW (nextN l 8) = 160 by rw [h1]; rfl]; exact h9
  by_cases h2 : nextN l 8 = 2
  · have h9 := D_Rate2 l hb h2
    rw [show rtN (nextN l 8) = 2 by rw [h2]; rfl, show rtW (nextN l 8) = 1 by rw [h2]; rfl]; exact h9
  by_cases h3 : nextN l 8 = 3
  · have h9 := D_Rate3 l hb h3
    rw [show rtN (nextN l 8) = 65537 by rw [h3]; rfl, show rtW (nextN l 8) = 65536 by rw [h3]; rfl]; exact h9
  by_cases h4 : nextN l 8 = 4
  · have h9 := D_Rate4 l hb h4
    rw [show rtN (nextN l 8) = 1 by rw [h4]; rfl, show rtW (nextN l 8) = 3 by rw [h4]; rfl]; exact h9
  by_cases h5 : nextN l 8 = 5
  · have h9 := D_Rate5 l hb h5
    rw [show rtN (nextN l 8) = 1024 by rw [h5]; rfl, show rtW (nextN l 8) = 1 by rw [h5]; rfl]; exact h9
  by_cases h6 : nextN l 8 = 6
  · have h9 := D_Rate6 l hb h6
    rw [show rtN (nextN l 8) = 1 by rw [h6]; rfl, show rtW (nextN l 8) = 1024 by rw [h6]; rfl]; exact h9
  have h9 := D_Rate7 l hb (by omega)
  rw [show rtN (nextN l 8) = 999 by unfold rtN; rw [if_neg h0, if_neg h1, if_neg h2, if_neg h3, if_neg h4, if_neg h5, if_neg h6], show rtW (nextN l 8) = 1000 by unfold rtW; rw [if_neg h0, if_neg h1, if_neg h2, if_neg h3, if_neg h4, if_neg h5, if_neg h6]]; exact h9

set_option maxHeartbeats 4000000 in
set_option maxRecDepth 100000 in
theorem D_Clock (l : List Int) (hb : Byt l) : Fun 28 [.c (.ptr 0 0)] (toG [(0, some (72, .ds [D.sl (dI .u8 l) (List.length l)]))]) 1 (.e (.agg [.d (D.sl (dI .i64 (ckL l (nextN (nextL l 8) 5))) (ckN l (nextN (nextL l 8) 5)))])) (toG [(0, some (72, .ds [D.sl (dI .u8 (ckD l (nextN (nextL l 8) 5))) (List.length (ckD l (nextN (nextL l 8) 5)))]))]) 1 := by
  have hall : ∀ k, ckB (ckL l k) (ckN l k) = true ∧ List.length (ckL l k) = ckN l k * 3 ∧ ckN l k ≤ k + 1 ∧ (0 ≤ ckA l k ∧ ckA l k ≤ k * 256) ∧ Byt (ckD l k) := ckS_ok hb
  have hm5 : nextN (nextL l 8) 5 ≤ 4 := (by have := nextV_in (nextL l 8) 5 (nextL_byt 8 hb); omega)
  refine Fun.mk (n := 38) Try.func28 rfl rfl (Nat.le_of_ble_eq_true rfl) ?_
  intro cx hcx
  refine AW.rgs [.no] [0, 2] [0, 1] (P := True) (l' := [(0, rV 0 0), (2, rV 1 0)]) (g' := [(0, some (72, .ds [D.sl (dI .u8 l) (List.length l)])), (1, some (24, .ds [D.lit (.slice none 0 0)]))]) (nx' := 2) (by kernel_rfl) trivial ?_
  have hx1 : rtB (rtN (nextN l 8)) (rtW (nextN l 8)) = true := (rt_all _)
  have hx2 : (Byt (nextL l 8)) := (nextL_byt 8 ((by first | omega | with_reducible assumption | (simp <;> omega) | rfl | assumption)))
  refine AW.rgs [.no, .call [0] (.e (.agg [iC (rtN (nextN l 8)), iC (rtW (nextN l 8))])) [(0, some (72, .ds [D.sl (dI .u8 (nextL l 8)) (List.length (nextL l 8))]))] 1 [] none, .call [] (.tup [.agg [.d (D.sl (dI .i64 (nwL (rtN (nextN l 8)) (rtW (nextN l 8)))) (nwN (rtN (nextN l 8)) (rtW (nextN l 8))))], iE (nwE (rtN (nextN l 8)) (rtW (nextN l 8)))]) [] 0 [] none, .no, .no, .no, .no, .no, .no] [0, 2, 3] [0, 1, 2] (P := (_) ∧ (_)) (l' := [(0, rV 0 0), (2, rV 1 0), (3, rV 2 0)]) (g' := [(0, some (72, .ds [D.sl (dI .u8 (nextL l 8)) (List.length (nextL l 8))])), (1, some (24, .ds [D.lit (.slice none 0 0)])), (2, some (24, .ds [D.sl (dI .i64 (nwL (rtN (nextN l 8)) (rtW (nextN l 8)))) (nwN (rtN (nextN l 8)) (rtW (nextN l 8)))]))]) (nx' := 3) (by kernel_rfl) ⟨(D_Rate l (by first | omega | with_reducible assumption | (simp <;> omega) | rfl | assumption)), (N_New_r (rtN (nextN l 8)) (rtW (nextN l 8)))⟩ ?_
  refine AW.rgs [.no] [0, 2, 3, 5] [0, 1, 2] (P := True) (l' := [(0, rV 0 0), (2, rV 1 0), (3, rV 2 0), (5, iV 0)]) (g' := [(0, some (72, .ds [D.sl (dI .u8 (nextL l 8)) (List.length (nextL l 8))])), (1, some (24, .ds [D.lit (.slice none 0 0)])), (2, some (24, .ds [D.sl (dI .i64 (nwL (rtN (nextN l 8)) (rtW (nextN l 8)))) (nwN (rtN (nextN l 8)) (rtW (nextN l 8)))]))]) (nx' := 3) (by kernel_rfl) trivial ?_
  refine AW.seq ?_
  have hx3 : ((((((nextN (nextL l 8) 5) : Nat) : Int) < 5) ∨ ((nextN (nextL l 8) 5) = 0)) ∧ ((nextN (nextL l 8) 5) ≤ 255)) := nextV_in (nextL l 8) (5 : Int) ‹_›
  have hx4 : (Byt (nextL (nextL l 8) 5)) := nextL_byt (5 : Int) ‹_›
  refine AW.rgs [.no, .call [0] (iV (((nextN (nextL l 8) 5) : Nat) : Int)) [(0, some (72, .ds [D.sl (dI .u8 (nextL (nextL l 8) 5)) (List.length (nextL (nextL l 8) 5))]))] 1 [] none, .no] [0, 2, 3, 5, 6] [0, 1, 2] (P := (_)) (l' := [(0, rV 0 0), (2, rV 1 0), (3, rV 2 0), (5, iV 0), (6, iV (((nextN (nextL l 8) 5) : Nat) : Int))]) (g' := [(0, some (72, .ds [D.sl (dI .u8 (nextL (nextL l 8) 5)) (List.length (nextL (nextL l 8) 5))])), (1, some (24, .ds [D.lit (.slice none 0 0)])), (2, some (24, .ds [D.sl (dI .i64 (nwL (rtN (nextN l 8)) (rtW (nextN l 8)))) (nwN (rtN (nextN l 8)) (rtW (nextN l 8)))]))]) (nx' := 3) (by kernel_rfl) (G_Next (nextL l 8) 5 (by first | omega | with_reducible assumption | (simp <;> omega) | rfl | assumption)) ?_
  refine AW.block ?_
  refine AW.loopE 1 hcx (fun (x : {x : Nat // match x with | k => (k ≤ nextN (nextL l 8) 5)}) => match x with | ⟨k, _⟩ => (⟨[(0, rV 0 0), (2, rV 1 0), (3, rV 2 0), (5, iV (ckA l k)), (6, iV ((((nextN (nextL l 8) 5) - k) : Nat) : Int))], [(0, some (72, .ds [D.sl (dI .u8 (ckD l k)) (List.length (ckD l k))])), (1, some (24, .ds [D.lit (.slice none 0 0)])), (2, some (24, .ds [D.sl (dI .i64 (ckL l k)) (ckN l k)]))], 3⟩ : ES)) (fun (x : {x : Nat // match x with | k => (k ≤ nextN (nextL l 8) 5)}) => match x with | ⟨k, _⟩ => nextN (nextL l 8) 5 - k) ⟨(0 : Nat), (show ((0 : Nat) ≤ nextN (nextL l 8) 5) from (by first | omega | assumption | simp))⟩ [] (P := ((0 : Nat) = 0) ∧ ((0 : Nat) = 0) ∧ ((0 : Nat) = 0) ∧ (((ckA l 0) : Int) = 0) ∧ ((((((nextN (nextL l 8) 5) - 0) : Nat) : Int) : Int) = (((nextN (nextL l 8) 5) : Nat) : Int)) ∧ (([D.sl (dI .u8 (ckD l 0)) (List.length (ckD l 0))] : List D) = [D.sl (dI .u8 (nextL (nextL l 8) 5)) (List.length (nextL (nextL l 8) 5))]) ∧ (([D.lit (.slice none 0 0)] : List D) = [D.lit (.slice none 0 0)]) ∧ (([D.sl (dI .i64 (ckL l 0)) (ckN l 0)] : List D) = [D.sl (dI .i64 (nwL (rtN (nextN l 8)) (rtW (nextN l 8)))) (nwN (rtN (nextN l 8)) (rtW (nextN l 8)))])) (by kernel_rfl) ⟨rfl, rfl, rfl, (by first | rfl | omega | assumption | (simp; done) | (simp; omega)), (by first | rfl | omega | assumption | (simp; done) | (simp; omega)), (by first | rfl | (rw [(ckS_a l k).2]; done) | (rw [(ckS_y (z := l) (k := k) (by assumption)).1, (ckS_y (z := l) (k := k) (by assumption)).2]; done) | (rw [(ckS_y (z := l) (k := k) (by assumption)).1, (ckS_y (z := l) (k := k) (by assumption)).2]; rfl) | (rw [(ckS_n (z := l) (k := k) (by assumption)).1, (ckS_n (z := l) (k := k) (by assumption)).2]; done)), rfl, (by first | rfl | (rw [(ckS_a l k).2]; done) | (rw [(ckS_y (z := l) (k := k) (by assumption)).1, (ckS_y (z := l) (k := k) (by assumption)).2]; done) | (rw [(ckS_y (z := l) (k := k) (by assumption)).1, (ckS_y (z := l) (k := k) (by assumption)).2]; rfl) | (rw [(ckS_n (z := l) (k := k) (by assumption)).1, (ckS_n (z := l) (k := k) (by assumption)).2]; done))⟩ ?_
  rintro ⟨k, hinv0⟩
  have hk : (k ≤ nextN (nextL l 8) 5) := hinv0
  refine AW.es (l := [(0, rV 0 0), (2, rV 1 0), (3, rV 2 0), (5, iV (ckA l k)), (6, iV ((((nextN (nextL l 8) 5) - k) : Nat) : Int))]) (g := [(0, some (72, .ds [D.sl (dI .u8 (ckD l k)) (List.length (ckD l k))])), (1, some (24, .ds [D.lit (.slice none 0 0)])), (2, some (24, .ds [D.sl (dI .i64 (ckL l k)) (ckN l k)]))]) (nx := 3) rfl rfl rfl ?_
  refine AW.seq ?_
  by_cases hx5 : ((0 : Int) < ((((nextN (nextL l 8) 5) - k) : Nat) : Int))
  · refine AW.rgs [.no, .b true] [0, 2, 3, 5, 6, 18] [0, 1, 2] (P := (((0 : Int) < ((((nextN (nextL l 8) 5) - k) : Nat) : Int)))) (l' := [(0, rV 0 0), (2, rV 1 0), (3, rV 2 0), (5, iV (ckA l k)), (6, iV ((((nextN (nextL l 8) 5) - k) : Nat) : Int)), (18, bV true)]) (g' := [(0, some (72, .ds [D.sl (dI .u8 (ckD l k)) (List.length (ckD l k))])), (1, some (24, .ds [D.lit (.slice none 0 0)])), (2, some (24, .ds [D.sl (dI .i64 (ckL l k)) (ckN l k)]))]) (nx' := 3) (by kernel_rfl) (by omega) ?_
    refine AW.cond_t (.tmp (Look.of rfl)) ?_
    refine AW.skip ?_
    refine AW.seq ?_
    refine AW.block ?_
    have hkk : List.length (ckL l k) = ckN l k * 3 ∧ ckN l k ≤ k + 1 ∧ 0 ≤ ckA l k ∧ ckA l k ≤ k * 256 ∧ Byt (ckD l k) := ⟨(hall k).2.1, (hall k).2.2.1, (hall k).2.2.2.1.1, (hall k).2.2.2.1.2, (hall k).2.2.2.2⟩
    have hbk : Byt (ckD l k) := hkk.2.2.2.2
    have hA1 : ckA l (k + 1) = ckA l k + (1 + ((nextN (ckD l k) 90 : Nat) : Int)) := (ckS_a l k).1
    have hbk2 : Byt (nextL (ckD l k) 90) := nextL_byt 90 hbk
    have hx6 : ((((((nextN (ckD l k) 90) : Nat) : Int) < 90) ∨ ((nextN (ckD l k) 90) = 0)) ∧ ((nextN (ckD l k) 90) ≤ 255)) := nextV_in (ckD l k) (90 : Int) ‹_›
    have hx7 : (Byt (nextL (ckD l k) 90)) := nextL_byt (90 : Int) ‹_›
    refine AW.rgs [.no, .no, .call [0] (iV (((nextN (ckD l k) 90) : Nat) : Int)) [(0, some (72, .ds [D.sl (dI .u8 (nextL (ckD l k) 90)) (List.length (nextL (ckD l k) 90))]))] 1 [] none, .w, .w, .no] [0, 2, 3, 5, 6] [0, 1, 2] (P := (_) ∧ ((-9223372036854775808) ≤ (1 + (((nextN (ckD l k) 90) : Nat) : Int)) ∧ (1 + (((nextN (ckD l k) 90) : Nat) : Int)) ≤ 9223372036854775807) ∧ ((-9223372036854775808) ≤ ((ckA l k) + (1 + (((nextN (ckD l k) 90) : Nat) : Int))) ∧ ((ckA l k) + (1 + (((nextN (ckD l k) 90) : Nat) : Int))) ≤ 9223372036854775807)) (l' := [(0, rV 0 0), (2, rV 1 0), (3, rV 2 0), (5, iV ((ckA l k) + (1 + (((nextN (ckD l k) 90) : Nat) : Int)))), (6, iV ((((nextN (nextL l 8) 5) - k) : Nat) : Int))]) (g' := [(0, some (72, .ds [D.sl (dI .u8 (nextL (ckD l k) 90)) (List.length (nextL (ckD l k) 90))])), (1, some (24, .ds [D.lit (.slice none 0 0)])), (2, some (24, .ds [D.sl (dI .i64 (ckL l k)) (ckN l k)]))]) (nx' := 3) (by kernel_rfl) ⟨(G_Next (ckD l k) 90 (by first | omega | with_reducible assumption | (simp <;> omega) | rfl | assumption)), ⟨by omega, by omega⟩, ⟨by omega, by omega⟩⟩ ?_
    have hx8 : rtB (rtN (nextN (nextL (ckD l k) 90) 8)) (rtW (nextN (nextL (ckD l k) 90) 8)) = true := (rt_all _)
    have hx9 : (Byt (nextL (nextL (ckD l k) 90) 8)) := (nextL_byt 8 ((by first | omega | with_reducible assumption | (simp <;> omega) | rfl | assumption)))
    refine AW.rgs [.no, .no, .no, .call [0] (.e (.agg [iC (rtN (nextN (nextL (ckD l k) 90) 8)), iC (rtW (nextN (nextL (ckD l k) 90) 8))])) [(0, some (72, .ds [D.sl (dI .u8 (nextL (nextL (ckD l k) 90) 8)) (List.length (nextL (nextL (ckD l k) 90) 8))]))] 1 [] none, .call [] (.tup [.agg [.d (D.sl (dI .i64 (cgL (ckL l k) (ckN l k) ((ckA l k) + (1 + (((nextN (ckD l k) 90) : Nat) : Int))) (rtN (nextN (nextL (ckD l k) 90) 8)) (rtW (nextN (nextL (ckD l k) 90) 8)))) (cgN (ckL l k) (ckN l k) ((ckA l k) + (1 + (((nextN (ckD l k) 90) : Nat) : Int))) (rtN (nextN (nextL (ckD l k) 90) 8)) (rtW (nextN (nextL (ckD l k) 90) 8))))], iE (cgE (ckL l k) (ckN l k) ((ckA l k) + (1 + (((nextN (ckD l k) 90) : Nat) : Int))) (rtN (nextN (nextL (ckD l k) 90) 8)) (rtW (nextN (nextL (ckD l k) 90) 8)))]) [] 0 [] none, .no, .no, .no, .no, .no, .no] [0, 2, 3, 5, 6, 7, 8] [0, 1, 2, 3] (P := (_) ∧ (_)) (l' := [(0, rV 0 0), (2, rV 1 0), (3, rV 2 0), (5, iV ((ckA l k) + (1 + (((nextN (ckD l k) 90) : Nat) : Int)))), (6, iV ((((nextN (nextL l 8) 5) - k) : Nat) : Int)), (7, rV 3 0), (8, iV (cgE (ckL l k) (ckN l k) ((ckA l k) + (1 + (((nextN (ckD l k) 90) : Nat) : Int))) (rtN (nextN (nextL (ckD l k) 90) 8)) (rtW (nextN (nextL (ckD l k) 90) 8))))]) (g' := [(0, some (72, .ds [D.sl (dI .u8 (nextL (nextL (ckD l k) 90) 8)) (List.length (nextL (nextL (ckD l k) 90) 8))])), (1, some (24, .ds [D.lit (.slice none 0 0)])), (2, some (24, .ds [D.sl (dI .i64 (ckL l k)) (ckN l k)])), (3, some (24, .ds [D.sl (dI .i64 (cgL (ckL l k) (ckN l k) ((ckA l k) + (1 + (((nextN (ckD l k) 90) : Nat) : Int))) (rtN (nextN (nextL (ckD l k) 90) 8)) (rtW (nextN (nextL (ckD l k) 90) 8)))) (cgN (ckL l k) (ckN l k) ((ckA l k) + (1 + (((nextN (ckD l k) 90) : Nat) : Int))) (rtN (nextN (nextL (ckD l k) 90) 8)) (rtW (nextN (nextL (ckD l k) 90) 8)))]))]) (nx' := 4) (by kernel_rfl) ⟨(D_Rate (nextL (ckD l k) 90) (by first | omega | with_reducible assumption | (simp <;> omega) | rfl | assumption)), (N_Ch_r (ckL l k) (ckN l k) ((ckA l k) + (1 + (((nextN (ckD l k) 90) : Nat) : Int))) (rtN (nextN (nextL (ckD l k) 90) 8)) (rtW (nextN (nextL (ckD l k) 90) 8)) (by first | omega | with_reducible assumption | (simp <;> omega) | rfl | assumption) (by first | omega | with_reducible assumption | (simp <;> omega) | rfl | assumption))⟩ ?_
    by_cases hx10 : ((cgE (ckL l k) (ckN l k) ((ckA l k) + (1 + (((nextN (ckD l k) 90) : Nat) : Int))) (rtN (nextN (nextL (ckD l k) 90) 8)) (rtW (nextN (nextL (ckD l k) 90) 8))) = 0)
    · refine AW.rgs [.no, .b true] [0, 2, 3, 5, 6, 7, 35] [0, 1, 2, 3] (P := (((cgE (ckL l k) (ckN l k) ((ckA l k) + (1 + (((nextN (ckD l k) 90) : Nat) : Int))) (rtN (nextN (nextL (ckD l k) 90) 8)) (rtW (nextN (nextL (ckD l k) 90) 8))) = 0))) (l' := [(0, rV 0 0), (2, rV 1 0), (3, rV 2 0), (5, iV ((ckA l k) + (1 + (((nextN (ckD l k) 90) : Nat) : Int)))), (6, iV ((((nextN (nextL l 8) 5) - k) : Nat) : Int)), (7, rV 3 0), (35, bV true)]) (g' := [(0, some (72, .ds [D.sl (dI .u8 (nextL (nextL (ckD l k) 90) 8)) (List.length (nextL (nextL (ckD l k) 90) 8))])), (1, some (24, .ds [D.lit (.slice none 0 0)])), (2, some (24, .ds [D.sl (dI .i64 (ckL l k)) (ckN l k)])), (3, some (24, .ds [D.sl (dI .i64 (cgL (ckL l k) (ckN l k) ((ckA l k) + (1 + (((nextN (ckD l k) 90) : Nat) : Int))) (rtN (nextN (nextL (ckD l k) 90) 8)) (rtW (nextN (nextL (ckD l k) 90) 8)))) (cgN (ckL l k) (ckN l k) ((ckA l k) + (1 + (((nextN (ckD l k) 90) : Nat) : Int))) (rtN (nextN (nextL (ckD l k) 90) 8)) (rtW (nextN (nextL (ckD l k) 90) 8)))]))]) (nx' := 4) (by kernel_rfl) (by omega) ?_
      refine AW.cond_t (.tmp (Look.of rfl)) ?_
      refine AW.rg [.no, .no] [0, 2, 3, 5, 6] [0, 1, 2] (P := True) (l' := [(0, rV 0 0), (2, rV 1 0), (3, rV 2 0), (5, iV ((ckA l k) + (1 + (((nextN (ckD l k) 90) : Nat) : Int)))), (6, iV ((((nextN (nextL l 8) 5) - k) : Nat) : Int))]) (g' := [(0, some (72, .ds [D.sl (dI .u8 (nextL (nextL (ckD l k) 90) 8)) (List.length (nextL (nextL (ckD l k) 90) 8))])), (1, some (24, .ds [D.lit (.slice none 0 0)])), (2, some (24, .ds [D.sl (dI .i64 (cgL (ckL l k) (ckN l k) ((ckA l k) + (1 + (((nextN (ckD l k) 90) : Nat) : Int))) (rtN (nextN (nextL (ckD l k) 90) 8)) (rtW (nextN (nextL (ckD l k) 90) 8)))) (cgN (ckL l k) (ckN l k) ((ckA l k) + (1 + (((nextN (ckD l k) 90) : Nat) : Int))) (rtN (nextN (nextL (ckD l k) 90) 8)) (rtW (nextN (nextL (ckD l k) 90) 8)))]))]) (nx' := 4) (by kernel_rfl) trivial ?_
      refine AW.rg [.no, .w, .no] [0, 2, 3, 5, 6] [0, 1, 2] (P := ((-9223372036854775808) ≤ (((((nextN (nextL l 8) 5) - k) : Nat) : Int) - 1) ∧ (((((nextN (nextL l 8) 5) - k) : Nat) : Int) - 1) ≤ 9223372036854775807)) (l' := [(0, rV 0 0), (2, rV 1 0), (3, rV 2 0), (5, iV ((ckA l k) + (1 + (((nextN (ckD l k) 90) : Nat) : Int)))), (6, iV (((((nextN (nextL l 8) 5) - k) : Nat) : Int) - 1))]) (g' := [(0, some (72, .ds [D.sl (dI .u8 (nextL (nextL (ckD l k) 90) 8)) (List.length (nextL (nextL (ckD l k) 90) 8))])), (1, some (24, .ds [D.lit (.slice none 0 0)])), (2, some (24, .ds [D.sl (dI .i64 (cgL (ckL l k) (ckN l k) ((ckA l k) + (1 + (((nextN (ckD l k) 90) : Nat) : Int))) (rtN (nextN (nextL (ckD l k) 90) 8)) (rtW (nextN (nextL (ckD l k) 90) 8)))) (cgN (ckL l k) (ckN l k) ((ckA l k) + (1 + (((nextN (ckD l k) 90) : Nat) : Int))) (rtN (nextN (nextL (ckD l k) 90) 8)) (rtW (nextN (nextL (ckD l k) 90) 8)))]))]) (nx' := 4) (by kernel_rfl) ⟨by omega, by omega⟩ ?_
      exact Rd.of ⟨((k + 1) : Nat), (show ((k + 1) ≤ nextN (nextL l 8) 5) from (by first | omega | assumption | simp))⟩ [] (P := ((0 : Nat) = 0) ∧ ((0 : Nat) = 0) ∧ ((0 : Nat) = 0) ∧ (((ckA l (k + 1)) : Int) = ((ckA l k) + (1 + (((nextN (ckD l k) 90) : Nat) : Int)))) ∧ ((((((nextN (nextL l 8) 5) - (k + 1)) : Nat) : Int) : Int) = (((((nextN (nextL l 8) 5) - k) : Nat) : Int) - 1)) ∧ (([D.sl (dI .u8 (ckD l (k + 1))) (List.length (ckD l (k + 1)))] : List D) = [D.sl (dI .u8 (nextL (nextL (ckD l k) 90) 8)) (List.length (nextL (nextL (ckD l k) 90) 8))]) ∧ (([D.lit (.slice none 0 0)] : List D) = [D.lit (.slice none 0 0)]) ∧ (([D.sl (dI .i64 (ckL l (k + 1))) (ckN l (k + 1))] : List D) = [D.sl (dI .i64 (cgL (ckL l k) (ckN l k) ((ckA l k) + (1 + (((nextN (ckD l k) 90) : Nat) : Int))) (rtN (nextN (nextL (ckD l k) 90) 8)) (rtW (nextN (nextL (ckD l k) 90) 8)))) (cgN (ckL l k) (ckN l k) ((ckA l k) + (1 + (((nextN (ckD l k) 90) : Nat) : Int))) (rtN (nextN (nextL (ckD l k) 90) 8)) (rtW (nextN (nextL (ckD l k) 90) 8)))])) (by kernel_rfl) ⟨rfl, rfl, rfl, (by first | rfl | omega | assumption | (simp; done) | (simp; omega)), (by first | rfl | omega | assumption | (simp; done) | (simp; omega)), (by first | rfl | (rw [(ckS_a l k).2]; done) | (rw [(ckS_y (z := l) (k := k) (by assumption)).1, (ckS_y (z := l) (k := k) (by assumption)).2]; done) | (rw [(ckS_y (z := l) (k := k) (by assumption)).1, (ckS_y (z := l) (k := k) (by assumption)).2]; rfl) | (rw [(ckS_n (z := l) (k := k) (by assumption)).1, (ckS_n (z := l) (k := k) (by assumption)).2]; done)), rfl, (by first | rfl | (rw [(ckS_a l k).2]; done) | (rw [(ckS_y (z := l) (k := k) (by assumption)).1, (ckS_y (z := l) (k := k) (by assumption)).2]; done) | (rw [(ckS_y (z := l) (k := k) (by assumption)).1, (ckS_y (z := l) (k := k) (by assumption)).2]; rfl) | (rw [(ckS_n (z := l) (k := k) (by assumption)).1, (ckS_n (z := l) (k := k) (by assumption)).2]; done))⟩ (show nextN (nextL l 8) 5 - (k + 1) < nextN (nextL l 8) 5 - k from (by first | omega | (show _ < _; simp; omega)))
    · refine AW.rgs [.no, .b false] [0, 2, 3, 5, 6, 7, 35] [0, 1, 2, 3] (P := (¬ ((cgE (ckL l k) (ckN l k) ((ckA l k) + (1 + (((nextN (ckD l k) 90) : Nat) : Int))) (rtN (nextN (nextL (ckD l k) 90) 8)) (rtW (nextN (nextL (ckD l k) 90) 8))) = 0))) (l' := [(0, rV 0 0), (2, rV 1 0), (3, rV 2 0), (5, iV ((ckA l k) + (1 + (((nextN (ckD l k) 90) : Nat) : Int)))), (6, iV ((((nextN (nextL l 8) 5) - k) : Nat) : Int)), (7, rV 3 0), (35, bV false)]) (g' := [(0, some (72, .ds [D.sl (dI .u8 (nextL (nextL (ckD l k) 90) 8)) (List.length (nextL (nextL (ckD l k) 90) 8))])), (1, some (24, .ds [D.lit (.slice none 0 0)])), (2, some (24, .ds [D.sl (dI .i64 (ckL l k)) (ckN l k)])), (3, some (24, .ds [D.sl (dI .i64 (cgL (ckL l k) (ckN l k) ((ckA l k) + (1 + (((nextN (ckD l k) 90) : Nat) : Int))) (rtN (nextN (nextL (ckD l k) 90) 8)) (rtW (nextN (nextL (ckD l k) 90) 8)))) (cgN (ckL l k) (ckN l k) ((ckA l k) + (1 + (((nextN (ckD l k) 90) : Nat) : Int))) (rtN (nextN (nextL (ckD l k) 90) 8)) (rtW (nextN (nextL (ckD l k) 90) 8)))]))]) (nx' := 4) (by kernel_rfl) (by omega) ?_
      refine AW.cond_f (.tmp (Look.of rfl)) ?_
      refine AW.skip ?_
      refine AW.rg [.no, .w, .no] [0, 2, 3, 5, 6] [0, 1, 2] (P := ((-9223372036854775808) ≤ (((((nextN (nextL l 8) 5) - k) : Nat) : Int) - 1) ∧ (((((nextN (nextL l 8) 5) - k) : Nat) : Int) - 1) ≤ 9223372036854775807)) (l' := [(0, rV 0 0), (2, rV 1 0), (3, rV 2 0), (5, iV ((ckA l k) + (1 + (((nextN (ckD l k) 90) : Nat) : Int)))), (6, iV (((((nextN (nextL l 8) 5) - k) : Nat) : Int) - 1))]) (g' := [(0, some (72, .ds [D.sl (dI .u8 (nextL (nextL (ckD l k) 90) 8)) (List.length (nextL (nextL (ckD l k) 90) 8))])), (1, some (24, .ds [D.lit (.slice none 0 0)])), (2, some (24, .ds [D.sl (dI .i64 (ckL l k)) (ckN l k)]))]) (nx' := 4) (by kernel_rfl) ⟨by omega, by omega⟩ ?_
      exact Rd.of ⟨((k + 1) : Nat), (show ((k + 1) ≤ nextN (nextL l 8) 5) from (by first | omega | assumption | simp))⟩ [] (P := ((0 : Nat) = 0) ∧ ((0 : Nat) = 0) ∧ ((0 : Nat) = 0) ∧ (((ckA l (k + 1)) : Int) = ((ckA l k) + (1 + (((nextN (ckD l k) 90) : Nat) : Int)))) ∧ ((((((nextN (nextL l 8) 5) - (k + 1)) : Nat) : Int) : Int) = (((((nextN (nextL l 8) 5) - k) : Nat) : Int) - 1)) ∧ (([D.sl (dI .u8 (ckD l (k + 1))) (List.length (ckD l (k + 1)))] : List D) = [D.sl (dI .u8 (nextL (nextL (ckD l k) 90) 8)) (List.length (nextL (nextL (ckD l k) 90) 8))]) ∧ (([D.lit (.slice none 0 0)] : List D) = [D.lit (.slice none 0 0)]) ∧ (([D.sl (dI .i64 (ckL l (k + 1))) (ckN l (k + 1))] : List D) = [D.sl (dI .i64 (ckL l k)) (ckN l k)])) (by kernel_rfl) ⟨rfl, rfl, rfl, (by first | rfl | omega | assumption | (simp; done) | (simp; omega)), (by first | rfl | omega | assumption | (simp; done) | (simp; omega)), (by first | rfl | (rw [(ckS_a l k).2]; done) | (rw [(ckS_y (z := l) (k := k) (by assumption)).1, (ckS_y (z := l) (k := k) (by assumption)).2]; done) | (rw [(ckS_y (z := l) (k := k) (by assumption)).1, (ckS_y (z := l) (k := k) (by assumption)).2]; rfl) | (rw [(ckS_n (z := l) (k := k) (by assumption)).1, (ckS_n (z := l) (k := k) (by assumption)).2]; done)), rfl, (by first | rfl | (rw [(ckS_a l k).2]; done) | (rw [(ckS_y (z := l) (k := k) (by assumption)).1, (ckS_y (z := l) (k := k) (by assumption)).2]; done) | (rw [(ckS_y (z := l) (k := k) (by assumption)).1, (ckS_y (z := l) (k := k) (by assumption)).2]; rfl) | (rw [(ckS_n (z := l) (k := k) (by assumption)).1, (ckS_n (z := l) (k := k) (by assumption)).2]; done))⟩ (show nextN (nextL l 8) 5 - (k + 1) < nextN (nextL l 8) 5 - k from (by first | omega | (show _ < _; simp; omega)))
  · refine AW.rgs [.no, .b false] [0, 2, 3, 5, 6, 18] [0, 1, 2] (P := (¬ ((0 : Int) < ((((nextN (nextL l 8) 5) - k) : Nat) : Int)))) (l' := [(0, rV 0 0), (2, rV 1 0), (3, rV 2 0), (5, iV (ckA l k)), (6, iV ((((nextN (nextL l 8) 5) - k) : Nat) : Int)), (18, bV false)]) (g' := [(0, some (72, .ds [D.sl (dI .u8 (ckD l k)) (List.length (ckD l k))])), (1, some (24, .ds [D.lit (.slice none 0 0)])), (2, some (24, .ds [D.sl (dI .i64 (ckL l k)) (ckN l k)]))]) (nx' := 3) (by kernel_rfl) (by omega) ?_
    refine AW.cond_f (.tmp (Look.of rfl)) ?_
    refine AW.exit ?_
    refine AW.rgs [.no, .no] [2] [0, 1] (P := True) (l' := [(2, rV 1 0)]) (g' := [(0, some (72, .ds [D.sl (dI .u8 (ckD l k)) (List.length (ckD l k))])), (1, some (24, .ds [D.sl (dI .i64 (ckL l k)) (ckN l k)]))]) (nx' := 3) (by kernel_rfl) trivial ?_
    refine AW.ret ?_
    exact EndP.of (.inr rfl) [] (P := (((dI .i64 (ckL l (nextN (nextL l 8) 5))) : List D) = (dI .i64 (ckL l k))) ∧ (((ckN l (nextN (nextL l 8) 5)) : Nat) = (ckN l k)) ∧ (([D.sl (dI .u8 (ckD l (nextN (nextL l 8) 5))) (List.length (ckD l (nextN (nextL l 8) 5)))] : List D) = [D.sl (dI .u8 (ckD l k)) (List.length (ckD l k))])) (by kernel_rfl) ⟨(by rw [show nextN (nextL l 8) 5 = k by omega]), (by first | rfl | omega | (rw [show nextN (nextL l 8) 5 = k by omega])), (by rw [show nextN (nextL l 8) 5 = k by omega])⟩

end Go.Proofs.Yteggelophhpnfaa
