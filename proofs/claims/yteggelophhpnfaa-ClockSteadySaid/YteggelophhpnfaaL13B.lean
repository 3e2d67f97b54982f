/- Clocks made, changed, read. No statement is proved here. -/
import Derived.Test.YteggelophhpnfaaClm
import Derived.Test.YteggelophhpnfaaL13A
namespace Go.Proofs.Yteggelophhpnfaa
open Go.ChangeShapes Go.WideShapes Go.ChangeAt Go.RowKit
set_option linter.unusedVariables false
set_option linter.unusedSimpArgs false


theorem fl_eq {l : List Int} {n : Nat} {t d : Int} {k : Nat} (h : d = toV l n t k - List.getD l (k * 3) 0) : vR d (List.getD l (k * 3 + 1) 0) (List.getD l (k * 3 + 2) 0) ((d * List.getD l (k * 3 + 1) 0) / List.getD l (k * 3 + 2) 0) ((d * List.getD l (k * 3 + 1) 0) / List.getD l (k * 3 + 2) 0) = flV l n t k := by subst h; rfl
theorem pos_step {l : List Int} {n k : Nat} {t : Int} (h : ckB l n = true) (ht : 0 ≤ t ∧ t ≤ 1099511627776) (hk : k < n) (hi : ∀ i, i ≤ k → List.getD l (i * 3) 0 ≤ t) :
    psV l n t (k + 1) = psV l n t k + flV l n t k ∧ 0 ≤ flV l n t k ∧ 0 ≤ psV l n t k ∧ psV l n t k ≤ 1125899906842624 ∧ flV l n t k ≤ 1125899906842624 ∧ 0 ≤ List.getD l (k * 3) 0 ∧ (n ≤ k + 1 ∨ List.getD l (k * 3) 0 < List.getD l ((k + 1) * 3) 0) := by
  obtain ⟨h1, h2, h3, h4, h5⟩ := ps_step h ht k hk hi
  have h6 := ck_rg h k hk
  have h7 := (to_in (l := l) (n := n) (t := t) (i := k)).1
  exact ⟨h1, h2, h3, by omega, by omega, h6.1, (Nat.lt_or_ge (k + 1) n).elim (fun h9 => .inr (ck_asc h h9)) .inl⟩


theorem tm_yes {l : List Int} {n : Nat} {f : Int} (h : ckB l n = true) (hf : 0 ≤ f) (hy : f ≤ posV l n 1099511627776) : tmE l n f = 0 ∧ 0 ≤ tmV l n f ∧ tmV l n f ≤ 1099511627776 := by
  rcases tm_iff h hf with ⟨_, _, h3⟩ | ⟨h1, h2, h3, _⟩
  · omega
  · exact ⟨h1, h2, h3⟩
theorem tm_no {l : List Int} {n : Nat} {f : Int} (h : ckB l n = true) (hf : 0 ≤ f) (hy : posV l n 1099511627776 < f) : tmV l n f = 0 ∧ tmE l n f = 13 := by
  rcases tm_iff h hf with ⟨h1, h2, h3⟩ | ⟨h1, h2, h3, h4⟩
  · exact ⟨h1, h2⟩
  · have := (h4 1099511627776 (by omega) (by omega)).2 h3; omega
theorem tm_or {l : List Int} {n : Nat} {f m : Int} (h : ckB l n = true) (hf : 0 ≤ f) (hy : f ≤ posV l n 1099511627776) (hm : 0 ≤ m ∧ m ≤ 1099511627776) : (f ≤ posV l n m ∧ tmV l n f ≤ m) ∨ (posV l n m < f ∧ m < tmV l n f) := by
  rcases tm_iff h hf with ⟨_, _, h3⟩ | ⟨h1, h2, h3, h4⟩
  · omega
  · have := h4 m hm.1 hm.2; omega
def okT (t : Int) : Bool := decide (0 ≤ t ∧ t ≤ 1099511627776)
def poV (l : List Int) (n : Nat) (t : Int) : Int := if ckB l n = true ∧ (0 ≤ t ∧ t ≤ 1099511627776) then posV l n t else 0
def poE (l : List Int) (n : Nat) (t : Int) : Int := if ckB l n = true then (if 0 ≤ t ∧ t ≤ 1099511627776 then 0 else 2) else 1
def btV (l : List Int) (n : Nat) (s t : Int) : Int := if ckB l n = true ∧ (0 ≤ s ∧ s ≤ t ∧ t ≤ 1099511627776) then posV l n t - posV l n s else 0
def btE (l : List Int) (n : Nat) (s t : Int) : Int := if ckB l n = true then (if 0 ≤ s ∧ s ≤ t ∧ t ≤ 1099511627776 then 0 else 2) else 1

set_option maxHeartbeats 4000000 in
set_option maxRecDepth 100000 in
theorem Q_rpos (l : List Int) (n : Nat) (t : Int) (hl : List.length l = n * 3) (hb : n ≤ 1000000) (hc : ckB l n = true) (ht : 0 ≤ t ∧ t ≤ 1099511627776) : Fun 35 [.agg [.d (D.sl (dI .i64 l) n)], iE t] (toG []) 0 (iV (posV l n t)) (toG []) 0 := by
  have hn1 : 1 ≤ n ∧ n ≤ 64 := (ck_of hc).1
  refine Fun.mk (n := 54) Try.func35 rfl rfl (Nat.le_of_ble_eq_true rfl) ?_
  intro cx hcx
  refine AW.rgs [.no, .no] [1, 2] [0] (P := True) (l' := [(1, iV t), (2, rV 0 0)]) (g' := [(0, some (24, .ds [D.sl (dI .i64 l) n]))]) (nx' := 1) (by kernel_rfl) trivial ?_
  refine AW.rgs [.no] [1, 2, 5] [0] (P := True) (l' := [(1, iV t), (2, rV 0 0), (5, iV 0)]) (g' := [(0, some (24, .ds [D.sl (dI .i64 l) n]))]) (nx' := 1) (by kernel_rfl) trivial ?_
  refine AW.seq ?_
  refine AW.rgs [.no, .no, .no, .no] [1, 2, 5, 12, 13, 14] [0] (P := True) (l' := [(1, iV t), (2, rV 0 0), (5, iV 0), (12, sV .i64 l n), (13, iV ↑n), (14, iV 0)]) (g' := [(0, some (24, .ds [D.sl (dI .i64 l) n]))]) (nx' := 1) (by kernel_rfl) trivial ?_
  refine AW.block ?_
  refine AW.loopE 0 hcx (fun (x : {x : Nat // match x with | k => (k ≤ n) ∧ (∀ j, j < k → List.getD l (j * 3) 0 ≤ t)}) => match x with | ⟨k, _⟩ => (⟨[(1, iV t), (2, rV 0 0), (5, iV (psV l n t k)), (12, sV .i64 l n), (13, iV ((n : Nat) : Int)), (14, iV ((k : Nat) : Int))], [(0, some (24, .ds [D.sl (dI .i64 l) n]))], 1⟩ : ES)) (fun (x : {x : Nat // match x with | k => (k ≤ n) ∧ (∀ j, j < k → List.getD l (j * 3) 0 ≤ t)}) => match x with | ⟨k, _⟩ => n - k) ⟨(0 : Nat), (show ((0 : Nat) ≤ n) ∧ (∀ j, j < (0 : Nat) → List.getD l (j * 3) 0 ≤ t) from ⟨(by first | omega | assumption | simp), (fun j hj => absurd hj (Nat.not_lt_zero j))⟩)⟩ [] (P := ((t : Int) = t) ∧ ((0 : Nat) = 0) ∧ (((psV l n t 0) : Int) = 0) ∧ (((dI .i64 l) : List D) = (dI .i64 l)) ∧ ((n : Nat) = n) ∧ ((((n : Nat) : Int) : Int) = ((n : Nat) : Int)) ∧ ((0 : Int) = 0) ∧ (([D.sl (dI .i64 l) n] : List D) = [D.sl (dI .i64 l) n])) (by kernel_rfl) ⟨rfl, rfl, (by first | rfl | omega | assumption | (simp; done) | (simp; omega)), rfl, rfl, rfl, rfl, rfl⟩ ?_
  rintro ⟨k, hinv0⟩
  obtain ⟨hk, ha⟩ : (k ≤ n) ∧ (∀ j, j < k → List.getD l (j * 3) 0 ≤ t) := hinv0
  refine AW.es (l := [(1, iV t), (2, rV 0 0), (5, iV (psV l n t k)), (12, sV .i64 l n), (13, iV ((n : Nat) : Int)), (14, iV ((k : Nat) : Int))]) (g := [(0, some (24, .ds [D.sl (dI .i64 l) n]))]) (nx := 1) rfl rfl rfl ?_
  by_cases hx1 : (((k : Nat) : Int) < ((n : Nat) : Int))
  · refine AW.rgs [.b true] [1, 2, 5, 12, 13, 14, 15] [0] (P := ((((k : Nat) : Int) < ((n : Nat) : Int)))) (l' := [(1, iV t), (2, rV 0 0), (5, iV (psV l n t k)), (12, sV .i64 l n), (13, iV ↑n), (14, iV ↑k), (15, bV true)]) (g' := [(0, some (24, .ds [D.sl (dI .i64 l) n]))]) (nx' := 1) (by kernel_rfl) (by omega) ?_
    refine AW.seq ?_
    refine AW.cond_t (.tmp (Look.of rfl)) ?_
    refine AW.skip ?_
    refine AW.seq ?_
    refine AW.block ?_
    refine AW.rgs [.no, .n k, .ds [iD (List.getD l (k * 3) 0), iD (List.getD l ((k * 3) + 1) 0), iD (List.getD l ((k * 3) + 2) 0)], .no, .no, .no] [1, 2, 5, 6, 7, 12, 13, 14] [0, 1] (P := ((((k : Nat) : Int) : Int) = ((k : Nat) : Int)) ∧ (k < n) ∧ (List.take 3 (List.drop (k * 3) (dI .i64 l)) = [iD (List.getD l (k * 3) 0), iD (List.getD l ((k * 3) + 1) 0), iD (List.getD l ((k * 3) + 2) 0)]) ∧ (([iD (List.getD l (k * 3) 0), iD (List.getD l ((k * 3) + 1) 0), iD (List.getD l ((k * 3) + 2) 0)] : List D).length = 3)) (l' := [(1, iV t), (2, rV 0 0), (5, iV (psV l n t k)), (6, iV ↑k), (7, rV 1 0), (12, sV .i64 l n), (13, iV ↑n), (14, iV ↑k)]) (g' := [(0, some (24, .ds [D.sl (dI .i64 l) n])), (1, some (60, .ds [iD (List.getD l (k * 3) 0), iD (List.getD l ((k * 3) + 1) 0), iD (List.getD l ((k * 3) + 2) 0)]))]) (nx' := 2) (by kernel_rfl) ⟨rfl, (by omega), (dI_lds .i64 l (k * 3) 3 (by first | omega | (rw [dI_len]; omega) | (simp [dI_len] <;> omega) | rfl)), rfl⟩ ?_
    refine AW.seq ?_
    by_cases hx2 : (t < (List.getD l (k * 3) 0))
    · refine AW.rgs [.no, .no, .no, .b true] [1, 2, 5, 6, 7, 12, 13, 14, 22] [0, 1] (P := ((t < (List.getD l (k * 3) 0)))) (l' := [(1, iV t), (2, rV 0 0), (5, iV (psV l n t k)), (6, iV ↑k), (7, rV 1 0), (12, sV .i64 l n), (13, iV ↑n), (14, iV ↑k), (22, bV true)]) (g' := [(0, some (24, .ds [D.sl (dI .i64 l) n])), (1, some (60, .ds [iD (List.getD l (k * 3) 0), iD (List.getD l ((k * 3) + 1) 0), iD (List.getD l ((k * 3) + 2) 0)]))]) (nx' := 2) (by kernel_rfl) (by omega) ?_
      refine AW.cond_t (.tmp (Look.of rfl)) ?_
      refine AW.exit ?_
      refine AW.rgs [.no, .no] [4] [] (P := True) (l' := [(4, iV (psV l n t k))]) (g' := []) (nx' := 2) (by kernel_rfl) trivial ?_
      refine AW.ret ?_
      exact EndP.of (.inr rfl) [] (P := (((posV l n t) : Int) = (psV l n t k))) (by kernel_rfl) (by first | rfl | omega | exact (posV_of (k := k) (by omega) ha (by omega)).symm | exact posV_of (k := k) (by omega) ha (by omega))
    · refine AW.rgs [.no, .no, .no, .b false] [1, 2, 5, 6, 7, 12, 13, 14, 22] [0, 1] (P := (¬ (t < (List.getD l (k * 3) 0)))) (l' := [(1, iV t), (2, rV 0 0), (5, iV (psV l n t k)), (6, iV ↑k), (7, rV 1 0), (12, sV .i64 l n), (13, iV ↑n), (14, iV ↑k), (22, bV false)]) (g' := [(0, some (24, .ds [D.sl (dI .i64 l) n])), (1, some (60, .ds [iD (List.getD l (k * 3) 0), iD (List.getD l ((k * 3) + 1) 0), iD (List.getD l ((k * 3) + 2) 0)]))]) (nx' := 2) (by kernel_rfl) (by omega) ?_
      refine AW.cond_f (.tmp (Look.of rfl)) ?_
      refine AW.skip ?_
      have hfl9 : psV l n t (k + 1) = psV l n t k + flV l n t k ∧ 0 ≤ flV l n t k ∧ 0 ≤ psV l n t k ∧ psV l n t k ≤ 1125899906842624 ∧ flV l n t k ≤ 1125899906842624 ∧ 0 ≤ List.getD l (k * 3) 0 ∧ (n ≤ k + 1 ∨ List.getD l (k * 3) 0 < List.getD l ((k + 1) * 3) 0) := pos_step hc ht (by omega) (fun i hi => (Nat.lt_succ_iff_lt_or_eq.1 (Nat.lt_succ_of_le hi)).elim (ha i) (fun e9 => by rw [e9]; omega))
      refine AW.rgs [.no, .no] [1, 2, 5, 6, 7, 8, 12, 13, 14] [0, 1] (P := True) (l' := [(1, iV t), (2, rV 0 0), (5, iV (psV l n t k)), (6, iV ↑k), (7, rV 1 0), (8, iV t), (12, sV .i64 l n), (13, iV ↑n), (14, iV ↑k)]) (g' := [(0, some (24, .ds [D.sl (dI .i64 l) n])), (1, some (60, .ds [iD (List.getD l (k * 3) 0), iD (List.getD l ((k * 3) + 1) 0), iD (List.getD l ((k * 3) + 2) 0)]))]) (nx' := 2) (by kernel_rfl) trivial ?_
      refine AW.seq ?_
      by_cases hx3 : ((((k : Nat) : Int) + 1) < ((n : Nat) : Int))
      · refine AW.rgs [.no, .w, .no, .no, .no, .b true] [1, 2, 5, 6, 7, 8, 12, 13, 14, 29] [0, 1] (P := ((-9223372036854775808) ≤ (((k : Nat) : Int) + 1) ∧ (((k : Nat) : Int) + 1) ≤ 9223372036854775807) ∧ (((((k : Nat) : Int) + 1) < ((n : Nat) : Int)))) (l' := [(1, iV t), (2, rV 0 0), (5, iV (psV l n t k)), (6, iV ↑k), (7, rV 1 0), (8, iV t), (12, sV .i64 l n), (13, iV ↑n), (14, iV ↑k), (29, bV true)]) (g' := [(0, some (24, .ds [D.sl (dI .i64 l) n])), (1, some (60, .ds [iD (List.getD l (k * 3) 0), iD (List.getD l ((k * 3) + 1) 0), iD (List.getD l ((k * 3) + 2) 0)]))]) (nx' := 2) (by kernel_rfl) ⟨⟨by omega, by omega⟩, (by omega)⟩ ?_
        refine AW.cond_t (.tmp (Look.of rfl)) ?_
        refine AW.rg [.no, .no, .no, .no, .w, .n (k + 1), .no, .d (D.lit (.int .i64 (List.getD l ((k + 1) * 3) 0))), .no, .no] [1, 2, 5, 7, 8, 12, 13, 14] [0, 1] (P := ((-9223372036854775808) ≤ (((k : Nat) : Int) + 1) ∧ (((k : Nat) : Int) + 1) ≤ 9223372036854775807) ∧ (((((k : Nat) : Int) + 1) : Int) = (((k + 1) : Nat) : Int)) ∧ ((k + 1) < n) ∧ ((List.drop 0 (List.drop ((k + 1) * 3) (dI .i64 l)))[0]? = some (D.lit (.int .i64 (List.getD l ((k + 1) * 3) 0))))) (l' := [(1, iV t), (2, rV 0 0), (5, iV (psV l n t k)), (7, rV 1 0), (8, iV (min t (List.getD l ((k + 1) * 3) 0))), (12, sV .i64 l n), (13, iV ↑n), (14, iV ↑k)]) (g' := [(0, some (24, .ds [D.sl (dI .i64 l) n])), (1, some (60, .ds [iD (List.getD l (k * 3) 0), iD (List.getD l ((k * 3) + 1) 0), iD (List.getD l ((k * 3) + 2) 0)]))]) (nx' := 2) (by kernel_rfl) ⟨⟨by omega, by omega⟩, (by first | rfl | omega), (by omega), (by first | (rw [List.drop_drop]; exact dI_at _ _ _ (by first | omega | (rw [dI_len]; omega) | (simp [dI_len] <;> omega) | rfl)) | (rw [List.drop_drop, Nat.add_comm]; exact dI_at _ _ _ (by first | omega | (rw [dI_len]; omega) | (simp [dI_len] <;> omega) | rfl)))⟩ ?_
        refine AW.rgs [.no, .no, .no, .w, .no, .no, .call [] (.tup [iE (vR ((min t (List.getD l ((k + 1) * 3) 0)) - (List.getD l (k * 3) 0)) (List.getD l ((k * 3) + 1) 0) (List.getD l ((k * 3) + 2) 0) ((((min t (List.getD l ((k + 1) * 3) 0)) - (List.getD l (k * 3) 0)) * (List.getD l ((k * 3) + 1) 0)) / (List.getD l ((k * 3) + 2) 0)) ((((min t (List.getD l ((k + 1) * 3) 0)) - (List.getD l (k * 3) 0)) * (List.getD l ((k * 3) + 1) 0)) / (List.getD l ((k * 3) + 2) 0))), iE (eR ((min t (List.getD l ((k + 1) * 3) 0)) - (List.getD l (k * 3) 0)) (List.getD l ((k * 3) + 1) 0) (List.getD l ((k * 3) + 2) 0) ((((min t (List.getD l ((k + 1) * 3) 0)) - (List.getD l (k * 3) 0)) * (List.getD l ((k * 3) + 1) 0)) / (List.getD l ((k * 3) + 2) 0)))]) [] 0 [] none, .no, .no, .no, .no, .no] [1, 2, 5, 9, 12, 13, 14] [0] (P := ((-9223372036854775808) ≤ ((min t (List.getD l ((k + 1) * 3) 0)) - (List.getD l (k * 3) 0)) ∧ ((min t (List.getD l ((k + 1) * 3) 0)) - (List.getD l (k * 3) 0)) ≤ 9223372036854775807) ∧ (_)) (l' := [(1, iV t), (2, rV 0 0), (5, iV (psV l n t k)), (9, iV (vR ((min t (List.getD l ((k + 1) * 3) 0)) - (List.getD l (k * 3) 0)) (List.getD l ((k * 3) + 1) 0) (List.getD l ((k * 3) + 2) 0) ((((min t (List.getD l ((k + 1) * 3) 0)) - (List.getD l (k * 3) 0)) * (List.getD l ((k * 3) + 1) 0)) / (List.getD l ((k * 3) + 2) 0)) ((((min t (List.getD l ((k + 1) * 3) 0)) - (List.getD l (k * 3) 0)) * (List.getD l ((k * 3) + 1) 0)) / (List.getD l ((k * 3) + 2) 0)))), (12, sV .i64 l n), (13, iV ↑n), (14, iV ↑k)]) (g' := [(0, some (24, .ds [D.sl (dI .i64 l) n]))]) (nx' := 2) (by kernel_rfl) ⟨⟨by omega, by omega⟩, (F_Floor_r ((min t (List.getD l ((k + 1) * 3) 0)) - (List.getD l (k * 3) 0)) (List.getD l ((k * 3) + 1) 0) (List.getD l ((k * 3) + 2) 0))⟩ ?_
        obtain ⟨g, eq_g⟩ : ∃ z9 : Int, z9 = (vR ((min t (List.getD l ((k + 1) * 3) 0)) - (List.getD l (k * 3) 0)) (List.getD l ((k * 3) + 1) 0) (List.getD l ((k * 3) + 2) 0) ((((min t (List.getD l ((k + 1) * 3) 0)) - (List.getD l (k * 3) 0)) * (List.getD l ((k * 3) + 1) 0)) / (List.getD l ((k * 3) + 2) 0)) ((((min t (List.getD l ((k + 1) * 3) 0)) - (List.getD l (k * 3) 0)) * (List.getD l ((k * 3) + 1) 0)) / (List.getD l ((k * 3) + 2) 0))) := ⟨_, rfl⟩
        rw [← eq_g]
        have hx4 : g = flV l n t k := (eq_g.trans (fl_eq (l := l) (n := n) (t := t) (k := k) (by unfold toV; split <;> omega)))
        refine AW.rg [.no, .no, .w, .no] [1, 2, 5, 12, 13, 14] [0] (P := ((-9223372036854775808) ≤ ((psV l n t k) + g) ∧ ((psV l n t k) + g) ≤ 9223372036854775807)) (l' := [(1, iV t), (2, rV 0 0), (5, iV ((psV l n t k) + g)), (12, sV .i64 l n), (13, iV ↑n), (14, iV ↑k)]) (g' := [(0, some (24, .ds [D.sl (dI .i64 l) n]))]) (nx' := 2) (by kernel_rfl) ⟨by omega, by omega⟩ ?_
        refine AW.rg [.w, .no] [1, 2, 5, 12, 13, 14] [0] (P := ((-9223372036854775808) ≤ (((k : Nat) : Int) + 1) ∧ (((k : Nat) : Int) + 1) ≤ 9223372036854775807)) (l' := [(1, iV t), (2, rV 0 0), (5, iV ((psV l n t k) + g)), (12, sV .i64 l n), (13, iV ↑n), (14, iV (↑k + 1))]) (g' := [(0, some (24, .ds [D.sl (dI .i64 l) n]))]) (nx' := 2) (by kernel_rfl) ⟨by omega, by omega⟩ ?_
        exact Rd.of ⟨((k + 1) : Nat), (show ((k + 1) ≤ n) ∧ (∀ j, j < (k + 1) → List.getD l (j * 3) 0 ≤ t) from ⟨(by first | omega | assumption | simp), (fun j hj => (Nat.lt_succ_iff_lt_or_eq.1 hj).elim (ha j) (fun e9 => by rw [e9]; omega))⟩)⟩ [] (P := ((t : Int) = t) ∧ ((0 : Nat) = 0) ∧ (((psV l n t (k + 1)) : Int) = ((psV l n t k) + g)) ∧ (((dI .i64 l) : List D) = (dI .i64 l)) ∧ ((n : Nat) = n) ∧ ((((n : Nat) : Int) : Int) = ((n : Nat) : Int)) ∧ (((((k + 1) : Nat) : Int) : Int) = (((k : Nat) : Int) + 1)) ∧ (([D.sl (dI .i64 l) n] : List D) = [D.sl (dI .i64 l) n])) (by kernel_rfl) ⟨rfl, rfl, (by first | rfl | omega | assumption | (simp; done) | (simp; omega)), rfl, rfl, rfl, (by first | rfl | omega | assumption | (simp; done) | (simp; omega)), rfl⟩ (show n - (k + 1) < n - k from (by first | omega | (show _ < _; simp; omega)))
      · refine AW.rgs [.no, .w, .no, .no, .no, .b false] [1, 2, 5, 6, 7, 8, 12, 13, 14, 29] [0, 1] (P := ((-9223372036854775808) ≤ (((k : Nat) : Int) + 1) ∧ (((k : Nat) : Int) + 1) ≤ 9223372036854775807) ∧ (¬ ((((k : Nat) : Int) + 1) < ((n : Nat) : Int)))) (l' := [(1, iV t), (2, rV 0 0), (5, iV (psV l n t k)), (6, iV ↑k), (7, rV 1 0), (8, iV t), (12, sV .i64 l n), (13, iV ↑n), (14, iV ↑k), (29, bV false)]) (g' := [(0, some (24, .ds [D.sl (dI .i64 l) n])), (1, some (60, .ds [iD (List.getD l (k * 3) 0), iD (List.getD l ((k * 3) + 1) 0), iD (List.getD l ((k * 3) + 2) 0)]))]) (nx' := 2) (by kernel_rfl) ⟨⟨by omega, by omega⟩, (by omega)⟩ ?_
        refine AW.cond_f (.tmp (Look.of rfl)) ?_
        refine AW.skip ?_
        refine AW.rgs [.no, .no, .no, .w, .no, .no, .call [] (.tup [iE (vR (t - (List.getD l (k * 3) 0)) (List.getD l ((k * 3) + 1) 0) (List.getD l ((k * 3) + 2) 0) (((t - (List.getD l (k * 3) 0)) * (List.getD l ((k * 3) + 1) 0)) / (List.getD l ((k * 3) + 2) 0)) (((t - (List.getD l (k * 3) 0)) * (List.getD l ((k * 3) + 1) 0)) / (List.getD l ((k * 3) + 2) 0))), iE (eR (t - (List.getD l (k * 3) 0)) (List.getD l ((k * 3) + 1) 0) (List.getD l ((k * 3) + 2) 0) (((t - (List.getD l (k * 3) 0)) * (List.getD l ((k * 3) + 1) 0)) / (List.getD l ((k * 3) + 2) 0)))]) [] 0 [] none, .no, .no, .no, .no, .no] [1, 2, 5, 9, 12, 13, 14] [0] (P := ((-9223372036854775808) ≤ (t - (List.getD l (k * 3) 0)) ∧ (t - (List.getD l (k * 3) 0)) ≤ 9223372036854775807) ∧ (_)) (l' := [(1, iV t), (2, rV 0 0), (5, iV (psV l n t k)), (9, iV (vR (t - (List.getD l (k * 3) 0)) (List.getD l ((k * 3) + 1) 0) (List.getD l ((k * 3) + 2) 0) (((t - (List.getD l (k * 3) 0)) * (List.getD l ((k * 3) + 1) 0)) / (List.getD l ((k * 3) + 2) 0)) (((t - (List.getD l (k * 3) 0)) * (List.getD l ((k * 3) + 1) 0)) / (List.getD l ((k * 3) + 2) 0)))), (12, sV .i64 l n), (13, iV ↑n), (14, iV ↑k)]) (g' := [(0, some (24, .ds [D.sl (dI .i64 l) n]))]) (nx' := 2) (by kernel_rfl) ⟨⟨by omega, by omega⟩, (F_Floor_r (t - (List.getD l (k * 3) 0)) (List.getD l ((k * 3) + 1) 0) (List.getD l ((k * 3) + 2) 0))⟩ ?_
        obtain ⟨g, eq_g⟩ : ∃ z9 : Int, z9 = (vR (t - (List.getD l (k * 3) 0)) (List.getD l ((k * 3) + 1) 0) (List.getD l ((k * 3) + 2) 0) (((t - (List.getD l (k * 3) 0)) * (List.getD l ((k * 3) + 1) 0)) / (List.getD l ((k * 3) + 2) 0)) (((t - (List.getD l (k * 3) 0)) * (List.getD l ((k * 3) + 1) 0)) / (List.getD l ((k * 3) + 2) 0))) := ⟨_, rfl⟩
        rw [← eq_g]
        have hx5 : g = flV l n t k := (eq_g.trans (fl_eq (l := l) (n := n) (t := t) (k := k) (by unfold toV; split <;> omega)))
        refine AW.rg [.no, .no, .w, .no] [1, 2, 5, 12, 13, 14] [0] (P := ((-9223372036854775808) ≤ ((psV l n t k) + g) ∧ ((psV l n t k) + g) ≤ 9223372036854775807)) (l' := [(1, iV t), (2, rV 0 0), (5, iV ((psV l n t k) + g)), (12, sV .i64 l n), (13, iV ↑n), (14, iV ↑k)]) (g' := [(0, some (24, .ds [D.sl (dI .i64 l) n]))]) (nx' := 2) (by kernel_rfl) ⟨by omega, by omega⟩ ?_
        refine AW.rg [.w, .no] [1, 2, 5, 12, 13, 14] [0] (P := ((-9223372036854775808) ≤ (((k : Nat) : Int) + 1) ∧ (((k : Nat) : Int) + 1) ≤ 9223372036854775807)) (l' := [(1, iV t), (2, rV 0 0), (5, iV ((psV l n t k) + g)), (12, sV .i64 l n), (13, iV ↑n), (14, iV (↑k + 1))]) (g' := [(0, some (24, .ds [D.sl (dI .i64 l) n]))]) (nx' := 2) (by kernel_rfl) ⟨by omega, by omega⟩ ?_
        exact Rd.of ⟨((k + 1) : Nat), (show ((k + 1) ≤ n) ∧ (∀ j, j < (k + 1) → List.getD l (j * 3) 0 ≤ t) from ⟨(by first | omega | assumption | simp), (fun j hj => (Nat.lt_succ_iff_lt_or_eq.1 hj).elim (ha j) (fun e9 => by rw [e9]; omega))⟩)⟩ [] (P := ((t : Int) = t) ∧ ((0 : Nat) = 0) ∧ (((psV l n t (k + 1)) : Int) = ((psV l n t k) + g)) ∧ (((dI .i64 l) : List D) = (dI .i64 l)) ∧ ((n : Nat) = n) ∧ ((((n : Nat) : Int) : Int) = ((n : Nat) : Int)) ∧ (((((k + 1) : Nat) : Int) : Int) = (((k : Nat) : Int) + 1)) ∧ (([D.sl (dI .i64 l) n] : List D) = [D.sl (dI .i64 l) n])) (by kernel_rfl) ⟨rfl, rfl, (by first | rfl | omega | assumption | (simp; done) | (simp; omega)), rfl, rfl, rfl, (by first | rfl | omega | assumption | (simp; done) | (simp; omega)), rfl⟩ (show n - (k + 1) < n - k from (by first | omega | (show _ < _; simp; omega)))
  · refine AW.rgs [.b false] [1, 2, 5, 12, 13, 14, 15] [0] (P := (¬ (((k : Nat) : Int) < ((n : Nat) : Int)))) (l' := [(1, iV t), (2, rV 0 0), (5, iV (psV l n t k)), (12, sV .i64 l n), (13, iV ↑n), (14, iV ↑k), (15, bV false)]) (g' := [(0, some (24, .ds [D.sl (dI .i64 l) n]))]) (nx' := 1) (by kernel_rfl) (by omega) ?_
    refine AW.seq ?_
    refine AW.cond_f (.tmp (Look.of rfl)) ?_
    refine AW.exit ?_
    refine AW.rgs [.no, .no] [4] [] (P := True) (l' := [(4, iV (psV l n t k))]) (g' := []) (nx' := 1) (by kernel_rfl) trivial ?_
    refine AW.ret ?_
    exact EndP.of (.inr rfl) [] (P := (((posV l n t) : Int) = (psV l n t k))) (by kernel_rfl) (by first | rfl | omega | exact (posV_of (k := k) (by omega) ha (by omega)).symm | exact posV_of (k := k) (by omega) ha (by omega))

set_option maxHeartbeats 4000000 in
set_option maxRecDepth 100000 in
theorem Q_isT (t : Int)  : Fun 33 [iE t] (toG []) 0 (.e (.c (.d (D.lit (.bool (decide (0 ≤ t ∧ t ≤ 1099511627776))))))) (toG []) 0 := by
  refine Fun.mk (n := 9) Try.func33 rfl rfl (Nat.le_of_ble_eq_true rfl) ?_
  intro cx hcx
  refine AW.rgs [.no] [0] [] (P := True) (l' := [(0, iV t)]) (g' := []) (nx' := 0) (by kernel_rfl) trivial ?_
  by_cases hx1 : ((0 : Int) ≤ t)
  · by_cases hx2 : (t ≤ 1099511627776)
    · refine AW.rgs [.no, .b true, .no, .no, .b true, .no, .no] [2] [] (P := (((0 : Int) ≤ t)) ∧ ((t ≤ 1099511627776))) (l' := [(2, bV true)]) (g' := []) (nx' := 0) (by kernel_rfl) ⟨(by omega), (by omega)⟩ ?_
      refine AW.ret ?_
      exact EndP.of (.inr rfl) [] (P := ((decide (0 ≤ t ∧ t ≤ 1099511627776)) = true)) (by kernel_rfl) (by first | exact decide_eq_true (by omega) | exact decide_eq_false (by omega))
    · refine AW.rgs [.no, .b true, .no, .no, .b false, .no, .no] [2] [] (P := (((0 : Int) ≤ t)) ∧ (¬ (t ≤ 1099511627776))) (l' := [(2, bV false)]) (g' := []) (nx' := 0) (by kernel_rfl) ⟨(by omega), (by omega)⟩ ?_
      refine AW.ret ?_
      exact EndP.of (.inr rfl) [] (P := ((decide (0 ≤ t ∧ t ≤ 1099511627776)) = false)) (by kernel_rfl) (by first | exact decide_eq_true (by omega) | exact decide_eq_false (by omega))
  · refine AW.rgs [.no, .b false, .no, .no, .no] [2] [] (P := (¬ ((0 : Int) ≤ t))) (l' := [(2, bV false)]) (g' := []) (nx' := 0) (by kernel_rfl) (by omega) ?_
    refine AW.ret ?_
    exact EndP.of (.inr rfl) [] (P := ((decide (0 ≤ t ∧ t ≤ 1099511627776)) = false)) (by kernel_rfl) (by first | exact decide_eq_true (by omega) | exact decide_eq_false (by omega))

set_option maxHeartbeats 4000000 in
set_option maxRecDepth 100000 in
theorem Q_Pop1 (l : List Int) (n : Nat) (t : Int) (hl : List.length l = n * 3) (hb : n ≤ 1000000) (hc : ckB l n = false) : Fun 19 [.agg [.d (D.sl (dI .i64 l) n)], iE t] (toG []) 0 (.tup [iE 0, iE 1]) (toG []) 0 := by
  refine Fun.mk (n := 15) Try.func19 rfl rfl (Nat.le_of_ble_eq_true rfl) ?_
  intro cx hcx
  refine AW.rgs [.no, .no, .no] [1, 2] [0] (P := True) (l' := [(1, iV t), (2, rV 0 0)]) (g' := [(0, some (24, .ds [D.sl (dI .i64 l) n]))]) (nx' := 1) (by kernel_rfl) trivial ?_
  refine AW.seq ?_
  refine AW.rgs [.no, .call [] (bV false) [] 0 [] none, .no] [1, 2, 8] [0] (P := (Fun 17 [.agg [.d (D.sl (dI .i64 l) n)]] (toG []) 0 (bV false) (toG []) 0)) (l' := [(1, iV t), (2, rV 0 0), (8, bV true)]) (g' := [(0, some (24, .ds [D.sl (dI .i64 l) n]))]) (nx' := 1) (by kernel_rfl) (by have h0 := (T_Valid l n (by omega) (by omega)); rw [hc] at h0; exact h0) ?_
  refine AW.cond_t (.tmp (Look.of rfl)) ?_
  refine AW.rgs [.no, .no] [4, 5] [] (P := True) (l' := [(4, iV 0), (5, iV 1)]) (g' := []) (nx' := 1) (by kernel_rfl) trivial ?_
  refine AW.ret ?_
  exact EndP.of (.inr rfl) [] (P := ((0 : Int) = 0) ∧ ((1 : Int) = 1)) (by kernel_rfl) ⟨rfl, rfl⟩

set_option maxHeartbeats 4000000 in
set_option maxRecDepth 100000 in
theorem Q_Pop2 (l : List Int) (n : Nat) (t : Int) (hl : List.length l = n * 3) (hb : n ≤ 1000000) (hc : ckB l n = true) (ht : ¬ (0 ≤ t ∧ t ≤ 1099511627776)) : Fun 19 [.agg [.d (D.sl (dI .i64 l) n)], iE t] (toG []) 0 (.tup [iE 0, iE 2]) (toG []) 0 := by
  refine Fun.mk (n := 15) Try.func19 rfl rfl (Nat.le_of_ble_eq_true rfl) ?_
  intro cx hcx
  refine AW.rgs [.no, .no, .no] [1, 2] [0] (P := True) (l' := [(1, iV t), (2, rV 0 0)]) (g' := [(0, some (24, .ds [D.sl (dI .i64 l) n]))]) (nx' := 1) (by kernel_rfl) trivial ?_
  refine AW.seq ?_
  refine AW.rgs [.no, .call [] (bV true) [] 0 [] none, .no] [1, 2, 8] [0] (P := (Fun 17 [.agg [.d (D.sl (dI .i64 l) n)]] (toG []) 0 (bV true) (toG []) 0)) (l' := [(1, iV t), (2, rV 0 0), (8, bV false)]) (g' := [(0, some (24, .ds [D.sl (dI .i64 l) n]))]) (nx' := 1) (by kernel_rfl) (by have h0 := (T_Valid l n (by omega) (by omega)); rw [hc] at h0; exact h0) ?_
  refine AW.cond_f (.tmp (Look.of rfl)) ?_
  refine AW.skip ?_
  refine AW.seq ?_
  refine AW.rgs [.no, .call [] (bV false) [] 0 [] none, .no] [1, 2, 11] [0] (P := (_)) (l' := [(1, iV t), (2, rV 0 0), (11, bV true)]) (g' := [(0, some (24, .ds [D.sl (dI .i64 l) n]))]) (nx' := 1) (by kernel_rfl) (Fun.y (Q_isT t) (y' := bV false) (congrArg (fun b => LV (.bool b)) (decide_eq_false (by omega)))) ?_
  refine AW.cond_t (.tmp (Look.of rfl)) ?_
  refine AW.rgs [.no, .no] [4, 5] [] (P := True) (l' := [(4, iV 0), (5, iV 2)]) (g' := []) (nx' := 1) (by kernel_rfl) trivial ?_
  refine AW.ret ?_
  exact EndP.of (.inr rfl) [] (P := ((0 : Int) = 0) ∧ ((2 : Int) = 2)) (by kernel_rfl) ⟨rfl, rfl⟩

set_option maxHeartbeats 4000000 in
set_option maxRecDepth 100000 in
theorem Q_Pop3 (l : List Int) (n : Nat) (t : Int) (hl : List.length l = n * 3) (hb : n ≤ 1000000) (hc : ckB l n = true) (ht : 0 ≤ t ∧ t ≤ 1099511627776) : Fun 19 [.agg [.d (D.sl (dI .i64 l) n)], iE t] (toG []) 0 (.tup [iE (posV l n t), iE 0]) (toG []) 0 := by
  refine Fun.mk (n := 15) Try.func19 rfl rfl (Nat.le_of_ble_eq_true rfl) ?_
  intro cx hcx
  refine AW.rgs [.no, .no, .no] [1, 2] [0] (P := True) (l' := [(1, iV t), (2, rV 0 0)]) (g' := [(0, some (24, .ds [D.sl (dI .i64 l) n]))]) (nx' := 1) (by kernel_rfl) trivial ?_
  refine AW.seq ?_
  refine AW.rgs [.no, .call [] (bV true) [] 0 [] none, .no] [1, 2, 8] [0] (P := (Fun 17 [.agg [.d (D.sl (dI .i64 l) n)]] (toG []) 0 (bV true) (toG []) 0)) (l' := [(1, iV t), (2, rV 0 0), (8, bV false)]) (g' := [(0, some (24, .ds [D.sl (dI .i64 l) n]))]) (nx' := 1) (by kernel_rfl) (by have h0 := (T_Valid l n (by omega) (by omega)); rw [hc] at h0; exact h0) ?_
  refine AW.cond_f (.tmp (Look.of rfl)) ?_
  refine AW.skip ?_
  refine AW.seq ?_
  refine AW.rgs [.no, .call [] (bV true) [] 0 [] none, .no] [1, 2, 11] [0] (P := (_)) (l' := [(1, iV t), (2, rV 0 0), (11, bV false)]) (g' := [(0, some (24, .ds [D.sl (dI .i64 l) n]))]) (nx' := 1) (by kernel_rfl) (Fun.y (Q_isT t) (y' := bV true) (congrArg (fun b => LV (.bool b)) (decide_eq_true (by omega)))) ?_
  refine AW.cond_f (.tmp (Look.of rfl)) ?_
  refine AW.skip ?_
  have hx1 : (((0 : Int) ≤ (posV l n t)) ∧ ((posV l n t) ≤ 1125899906842624)) := (pos_in2 (hc) ((by omega)))
  refine AW.rgs [.no, .no, .call [] (iV (posV l n t)) [] 0 [] none, .no, .no] [4, 5] [] (P := (_)) (l' := [(4, iV (posV l n t)), (5, iV 0)]) (g' := []) (nx' := 1) (by kernel_rfl) (F_pos l n t (by omega) hc (by omega)) ?_
  refine AW.ret ?_
  exact EndP.of (.inr rfl) [] (P := (((posV l n t) : Int) = (posV l n t)) ∧ ((0 : Int) = 0)) (by kernel_rfl) ⟨rfl, rfl⟩

theorem Q_PopT (l : List Int) (n : Nat) (t : Int) (hl : List.length l = n * 3) (hb : n ≤ 1000000) : Fun 19 [.agg [.d (D.sl (dI .i64 l) n)], iE t] (toG []) 0 (.tup [iE (poV l n t), iE (poE l n t)]) (toG []) 0 := by
  by_cases h1 : ckB l n = true
  · by_cases h2 : 0 ≤ t ∧ t ≤ 1099511627776
    · unfold poV poE; rw [if_pos ⟨h1, h2⟩, if_pos h1, if_pos h2]; exact Q_Pop3 l n t hl hb h1 h2
    · unfold poV poE; rw [if_neg (fun h => h2 h.2), if_pos h1, if_neg h2]; exact Q_Pop2 l n t hl hb h1 h2
  · unfold poV poE; rw [if_neg (fun h => h1 h.1), if_neg h1]; exact Q_Pop1 l n t hl hb (by simpa using h1)

set_option maxHeartbeats 4000000 in
set_option maxRecDepth 100000 in
theorem Q_Por1 (l : List Int) (n : Nat) (t : Int) (hl : List.length l = n * 3) (hb : n ≤ 1000000) (hc : ckB l n = false) : Fun 20 [.agg [.d (D.sl (dI .i64 l) n)], iE t] (toG []) 0 (.tup [iE 0, iE 1]) (toG []) 0 := by
  refine Fun.mk (n := 18) Try.func20 rfl rfl (Nat.le_of_ble_eq_true rfl) ?_
  intro cx hcx
  refine AW.rgs [.no, .no, .no] [1, 2] [0] (P := True) (l' := [(1, iV t), (2, rV 0 0)]) (g' := [(0, some (24, .ds [D.sl (dI .i64 l) n]))]) (nx' := 1) (by kernel_rfl) trivial ?_
  refine AW.seq ?_
  refine AW.rgs [.no, .call [] (bV false) [] 0 [] none, .no] [1, 2, 8] [0] (P := (Fun 18 [.agg [.d (D.sl (dI .i64 l) n)]] (toG []) 0 (bV false) (toG []) 0)) (l' := [(1, iV t), (2, rV 0 0), (8, bV true)]) (g' := [(0, some (24, .ds [D.sl (dI .i64 l) n]))]) (nx' := 1) (by kernel_rfl) (by have h0 := (T_rValid l n (by omega) (by omega)); rw [hc] at h0; exact h0) ?_
  refine AW.cond_t (.tmp (Look.of rfl)) ?_
  refine AW.rgs [.no, .no] [4, 5] [] (P := True) (l' := [(4, iV 0), (5, iV 1)]) (g' := []) (nx' := 1) (by kernel_rfl) trivial ?_
  refine AW.ret ?_
  exact EndP.of (.inr rfl) [] (P := ((0 : Int) = 0) ∧ ((1 : Int) = 1)) (by kernel_rfl) ⟨rfl, rfl⟩

set_option maxHeartbeats 4000000 in
set_option maxRecDepth 100000 in
theorem Q_Por2 (l : List Int) (n : Nat) (t : Int) (hl : List.length l = n * 3) (hb : n ≤ 1000000) (hc : ckB l n = true) (ht : ¬ (0 ≤ t ∧ t ≤ 1099511627776)) : Fun 20 [.agg [.d (D.sl (dI .i64 l) n)], iE t] (toG []) 0 (.tup [iE 0, iE 2]) (toG []) 0 := by
  refine Fun.mk (n := 18) Try.func20 rfl rfl (Nat.le_of_ble_eq_true rfl) ?_
  intro cx hcx
  refine AW.rgs [.no, .no, .no] [1, 2] [0] (P := True) (l' := [(1, iV t), (2, rV 0 0)]) (g' := [(0, some (24, .ds [D.sl (dI .i64 l) n]))]) (nx' := 1) (by kernel_rfl) trivial ?_
  refine AW.seq ?_
  refine AW.rgs [.no, .call [] (bV true) [] 0 [] none, .no] [1, 2, 8] [0] (P := (Fun 18 [.agg [.d (D.sl (dI .i64 l) n)]] (toG []) 0 (bV true) (toG []) 0)) (l' := [(1, iV t), (2, rV 0 0), (8, bV false)]) (g' := [(0, some (24, .ds [D.sl (dI .i64 l) n]))]) (nx' := 1) (by kernel_rfl) (by have h0 := (T_rValid l n (by omega) (by omega)); rw [hc] at h0; exact h0) ?_
  refine AW.cond_f (.tmp (Look.of rfl)) ?_
  refine AW.skip ?_
  refine AW.seq ?_
  by_cases hx1 : (t < 0)
  · refine AW.rgs [.no, .b true, .no, .no] [1, 2, 14] [0] (P := ((t < 0))) (l' := [(1, iV t), (2, rV 0 0), (14, bV true)]) (g' := [(0, some (24, .ds [D.sl (dI .i64 l) n]))]) (nx' := 1) (by kernel_rfl) (by omega) ?_
    refine AW.cond_t (.tmp (Look.of rfl)) ?_
    refine AW.rgs [.no, .no] [4, 5] [] (P := True) (l' := [(4, iV 0), (5, iV 2)]) (g' := []) (nx' := 1) (by kernel_rfl) trivial ?_
    refine AW.ret ?_
    exact EndP.of (.inr rfl) [] (P := ((0 : Int) = 0) ∧ ((2 : Int) = 2)) (by kernel_rfl) ⟨rfl, rfl⟩
  · refine AW.rgs [.no, .b false, .no, .no, .b true, .no] [1, 2, 14] [0] (P := (¬ (t < 0)) ∧ (((1099511627776 : Int) < t))) (l' := [(1, iV t), (2, rV 0 0), (14, bV true)]) (g' := [(0, some (24, .ds [D.sl (dI .i64 l) n]))]) (nx' := 1) (by kernel_rfl) ⟨(by omega), (by omega)⟩ ?_
    refine AW.cond_t (.tmp (Look.of rfl)) ?_
    refine AW.rgs [.no, .no] [4, 5] [] (P := True) (l' := [(4, iV 0), (5, iV 2)]) (g' := []) (nx' := 1) (by kernel_rfl) trivial ?_
    refine AW.ret ?_
    exact EndP.of (.inr rfl) [] (P := ((0 : Int) = 0) ∧ ((2 : Int) = 2)) (by kernel_rfl) ⟨rfl, rfl⟩

set_option maxHeartbeats 4000000 in
set_option maxRecDepth 100000 in
theorem Q_Por3 (l : List Int) (n : Nat) (t : Int) (hl : List.length l = n * 3) (hb : n ≤ 1000000) (hc : ckB l n = true) (ht : 0 ≤ t ∧ t ≤ 1099511627776) : Fun 20 [.agg [.d (D.sl (dI .i64 l) n)], iE t] (toG []) 0 (.tup [iE (posV l n t), iE 0]) (toG []) 0 := by
  refine Fun.mk (n := 18) Try.func20 rfl rfl (Nat.le_of_ble_eq_true rfl) ?_
  intro cx hcx
  refine AW.rgs [.no, .no, .no] [1, 2] [0] (P := True) (l' := [(1, iV t), (2, rV 0 0)]) (g' := [(0, some (24, .ds [D.sl (dI .i64 l) n]))]) (nx' := 1) (by kernel_rfl) trivial ?_
  refine AW.seq ?_
  refine AW.rgs [.no, .call [] (bV true) [] 0 [] none, .no] [1, 2, 8] [0] (P := (Fun 18 [.agg [.d (D.sl (dI .i64 l) n)]] (toG []) 0 (bV true) (toG []) 0)) (l' := [(1, iV t), (2, rV 0 0), (8, bV false)]) (g' := [(0, some (24, .ds [D.sl (dI .i64 l) n]))]) (nx' := 1) (by kernel_rfl) (by have h0 := (T_rValid l n (by omega) (by omega)); rw [hc] at h0; exact h0) ?_
  refine AW.cond_f (.tmp (Look.of rfl)) ?_
  refine AW.skip ?_
  refine AW.seq ?_
  refine AW.rgs [.no, .b false, .no, .no, .b false, .no] [1, 2, 14] [0] (P := (¬ (t < 0)) ∧ (¬ ((1099511627776 : Int) < t))) (l' := [(1, iV t), (2, rV 0 0), (14, bV false)]) (g' := [(0, some (24, .ds [D.sl (dI .i64 l) n]))]) (nx' := 1) (by kernel_rfl) ⟨(by omega), (by omega)⟩ ?_
  refine AW.cond_f (.tmp (Look.of rfl)) ?_
  refine AW.skip ?_
  have hx1 : (((0 : Int) ≤ (posV l n t)) ∧ ((posV l n t) ≤ 1125899906842624)) := (pos_in2 (hc) ((by omega)))
  refine AW.rgs [.no, .no, .call [] (iV (posV l n t)) [] 0 [] none, .no, .no] [4, 5] [] (P := (_)) (l' := [(4, iV (posV l n t)), (5, iV 0)]) (g' := []) (nx' := 1) (by kernel_rfl) (Q_rpos l n t (by omega) (by omega) hc (by omega)) ?_
  refine AW.ret ?_
  exact EndP.of (.inr rfl) [] (P := (((posV l n t) : Int) = (posV l n t)) ∧ ((0 : Int) = 0)) (by kernel_rfl) ⟨rfl, rfl⟩

theorem Q_PorT (l : List Int) (n : Nat) (t : Int) (hl : List.length l = n * 3) (hb : n ≤ 1000000) : Fun 20 [.agg [.d (D.sl (dI .i64 l) n)], iE t] (toG []) 0 (.tup [iE (poV l n t), iE (poE l n t)]) (toG []) 0 := by
  by_cases h1 : ckB l n = true
  · by_cases h2 : 0 ≤ t ∧ t ≤ 1099511627776
    · unfold poV poE; rw [if_pos ⟨h1, h2⟩, if_pos h1, if_pos h2]; exact Q_Por3 l n t hl hb h1 h2
    · unfold poV poE; rw [if_neg (fun h => h2 h.2), if_pos h1, if_neg h2]; exact Q_Por2 l n t hl hb h1 h2
  · unfold poV poE; rw [if_neg (fun h => h1 h.1), if_neg h1]; exact Q_Por1 l n t hl hb (by simpa using h1)

set_option maxHeartbeats 4000000 in
set_option maxRecDepth 100000 in
theorem Q_Btp1 (l : List Int) (n : Nat) (s t : Int) (hl : List.length l = n * 3) (hb : n ≤ 1000000) (hc : ckB l n = false) : Fun 21 [.agg [.d (D.sl (dI .i64 l) n)], iE s, iE t] (toG []) 0 (.tup [iE 0, iE 1]) (toG []) 0 := by
  refine Fun.mk (n := 31) Try.func21 rfl rfl (Nat.le_of_ble_eq_true rfl) ?_
  intro cx hcx
  refine AW.rgs [.no, .no, .no] [1, 2, 3] [0] (P := True) (l' := [(1, iV s), (2, iV t), (3, rV 0 0)]) (g' := [(0, some (24, .ds [D.sl (dI .i64 l) n]))]) (nx' := 1) (by kernel_rfl) trivial ?_
  refine AW.seq ?_
  refine AW.rgs [.no, .call [] (bV false) [] 0 [] none, .no] [1, 2, 3, 10] [0] (P := (Fun 17 [.agg [.d (D.sl (dI .i64 l) n)]] (toG []) 0 (bV false) (toG []) 0)) (l' := [(1, iV s), (2, iV t), (3, rV 0 0), (10, bV true)]) (g' := [(0, some (24, .ds [D.sl (dI .i64 l) n]))]) (nx' := 1) (by kernel_rfl) (by have h0 := (T_Valid l n (by omega) (by omega)); rw [hc] at h0; exact h0) ?_
  refine AW.cond_t (.tmp (Look.of rfl)) ?_
  refine AW.rgs [.no, .no] [6, 7] [] (P := True) (l' := [(6, iV 0), (7, iV 1)]) (g' := []) (nx' := 1) (by kernel_rfl) trivial ?_
  refine AW.ret ?_
  exact EndP.of (.inr rfl) [] (P := ((0 : Int) = 0) ∧ ((1 : Int) = 1)) (by kernel_rfl) ⟨rfl, rfl⟩

set_option maxHeartbeats 4000000 in
set_option maxRecDepth 100000 in
theorem Q_Btp2 (l : List Int) (n : Nat) (s t : Int) (hl : List.length l = n * 3) (hb : n ≤ 1000000) (hc : ckB l n = true) (ht : ¬ (0 ≤ s ∧ s ≤ t ∧ t ≤ 1099511627776)) : Fun 21 [.agg [.d (D.sl (dI .i64 l) n)], iE s, iE t] (toG []) 0 (.tup [iE 0, iE 2]) (toG []) 0 := by
  refine Fun.mk (n := 31) Try.func21 rfl rfl (Nat.le_of_ble_eq_true rfl) ?_
  intro cx hcx
  refine AW.rgs [.no, .no, .no] [1, 2, 3] [0] (P := True) (l' := [(1, iV s), (2, iV t), (3, rV 0 0)]) (g' := [(0, some (24, .ds [D.sl (dI .i64 l) n]))]) (nx' := 1) (by kernel_rfl) trivial ?_
  refine AW.seq ?_
  refine AW.rgs [.no, .call [] (bV true) [] 0 [] none, .no] [1, 2, 3, 10] [0] (P := (Fun 17 [.agg [.d (D.sl (dI .i64 l) n)]] (toG []) 0 (bV true) (toG []) 0)) (l' := [(1, iV s), (2, iV t), (3, rV 0 0), (10, bV false)]) (g' := [(0, some (24, .ds [D.sl (dI .i64 l) n]))]) (nx' := 1) (by kernel_rfl) (by have h0 := (T_Valid l n (by omega) (by omega)); rw [hc] at h0; exact h0) ?_
  refine AW.cond_f (.tmp (Look.of rfl)) ?_
  refine AW.skip ?_
  refine AW.seq ?_
  rcases Bool.eq_false_or_eq_true (decide (0 ≤ s ∧ s ≤ 1099511627776)) with hx1 | hx1
  · have hx2 : (((0 : Int) ≤ s) ∧ (s ≤ 1099511627776)) := of_decide_eq_true hx1
    rcases Bool.eq_false_or_eq_true (decide (0 ≤ t ∧ t ≤ 1099511627776)) with hx3 | hx3
    · have hx4 : (((0 : Int) ≤ t) ∧ (t ≤ 1099511627776)) := of_decide_eq_true hx3
      refine AW.rgs [.no, .call [] (bV true) [] 0 [] none, .no, .no, .no, .call [] (bV true) [] 0 [] none, .no, .no, .no, .no, .no, .b true, .no] [1, 2, 3, 23] [0] (P := (Fun 33 [iE s] (toG []) 0 (bV true) (toG []) 0) ∧ (Fun 33 [iE t] (toG []) 0 (bV true) (toG []) 0) ∧ ((t < s))) (l' := [(1, iV s), (2, iV t), (3, rV 0 0), (23, bV true)]) (g' := [(0, some (24, .ds [D.sl (dI .i64 l) n]))]) (nx' := 1) (by kernel_rfl) ⟨(by have h0 := (Q_isT s); rw [hx1] at h0; exact h0), (by have h0 := (Q_isT t); rw [hx3] at h0; exact h0), (by omega)⟩ ?_
      refine AW.cond_t (.tmp (Look.of rfl)) ?_
      refine AW.rgs [.no, .no] [6, 7] [] (P := True) (l' := [(6, iV 0), (7, iV 2)]) (g' := []) (nx' := 1) (by kernel_rfl) trivial ?_
      refine AW.ret ?_
      exact EndP.of (.inr rfl) [] (P := ((0 : Int) = 0) ∧ ((2 : Int) = 2)) (by kernel_rfl) ⟨rfl, rfl⟩
    · have hx5 : ¬ (((0 : Int) ≤ t) ∧ (t ≤ 1099511627776)) := of_decide_eq_false hx3
      refine AW.rgs [.no, .call [] (bV true) [] 0 [] none, .no, .no, .no, .call [] (bV false) [] 0 [] none, .no, .no, .no, .no] [1, 2, 3, 23] [0] (P := (Fun 33 [iE s] (toG []) 0 (bV true) (toG []) 0) ∧ (Fun 33 [iE t] (toG []) 0 (bV false) (toG []) 0)) (l' := [(1, iV s), (2, iV t), (3, rV 0 0), (23, bV true)]) (g' := [(0, some (24, .ds [D.sl (dI .i64 l) n]))]) (nx' := 1) (by kernel_rfl) ⟨(by have h0 := (Q_isT s); rw [hx1] at h0; exact h0), (by have h0 := (Q_isT t); rw [hx3] at h0; exact h0)⟩ ?_
      refine AW.cond_t (.tmp (Look.of rfl)) ?_
      refine AW.rgs [.no, .no] [6, 7] [] (P := True) (l' := [(6, iV 0), (7, iV 2)]) (g' := []) (nx' := 1) (by kernel_rfl) trivial ?_
      refine AW.ret ?_
      exact EndP.of (.inr rfl) [] (P := ((0 : Int) = 0) ∧ ((2 : Int) = 2)) (by kernel_rfl) ⟨rfl, rfl⟩
  · have hx6 : ¬ (((0 : Int) ≤ s) ∧ (s ≤ 1099511627776)) := of_decide_eq_false hx1
    refine AW.rgs [.no, .call [] (bV false) [] 0 [] none, .no, .no, .no, .no, .no] [1, 2, 3, 23] [0] (P := (Fun 33 [iE s] (toG []) 0 (bV false) (toG []) 0)) (l' := [(1, iV s), (2, iV t), (3, rV 0 0), (23, bV true)]) (g' := [(0, some (24, .ds [D.sl (dI .i64 l) n]))]) (nx' := 1) (by kernel_rfl) (by have h0 := (Q_isT s); rw [hx1] at h0; exact h0) ?_
    refine AW.cond_t (.tmp (Look.of rfl)) ?_
    refine AW.rgs [.no, .no] [6, 7] [] (P := True) (l' := [(6, iV 0), (7, iV 2)]) (g' := []) (nx' := 1) (by kernel_rfl) trivial ?_
    refine AW.ret ?_
    exact EndP.of (.inr rfl) [] (P := ((0 : Int) = 0) ∧ ((2 : Int) = 2)) (by kernel_rfl) ⟨rfl, rfl⟩

set_option maxHeartbeats 4000000 in
set_option maxRecDepth 100000 in
theorem Q_Btp3 (l : List Int) (n : Nat) (s t : Int) (hl : List.length l = n * 3) (hb : n ≤ 1000000) (hc : ckB l n = true) (ht : 0 ≤ s ∧ s ≤ t ∧ t ≤ 1099511627776) : Fun 21 [.agg [.d (D.sl (dI .i64 l) n)], iE s, iE t] (toG []) 0 (.tup [iE ((posV l n t) - (posV l n s)), iE 0]) (toG []) 0 := by
  refine Fun.mk (n := 31) Try.func21 rfl rfl (Nat.le_of_ble_eq_true rfl) ?_
  intro cx hcx
  refine AW.rgs [.no, .no, .no] [1, 2, 3] [0] (P := True) (l' := [(1, iV s), (2, iV t), (3, rV 0 0)]) (g' := [(0, some (24, .ds [D.sl (dI .i64 l) n]))]) (nx' := 1) (by kernel_rfl) trivial ?_
  refine AW.seq ?_
  refine AW.rgs [.no, .call [] (bV true) [] 0 [] none, .no] [1, 2, 3, 10] [0] (P := (Fun 17 [.agg [.d (D.sl (dI .i64 l) n)]] (toG []) 0 (bV true) (toG []) 0)) (l' := [(1, iV s), (2, iV t), (3, rV 0 0), (10, bV false)]) (g' := [(0, some (24, .ds [D.sl (dI .i64 l) n]))]) (nx' := 1) (by kernel_rfl) (by have h0 := (T_Valid l n (by omega) (by omega)); rw [hc] at h0; exact h0) ?_
  refine AW.cond_f (.tmp (Look.of rfl)) ?_
  refine AW.skip ?_
  refine AW.seq ?_
  refine AW.rgs [.no, .call [] (bV true) [] 0 [] none, .no, .no, .no, .call [] (bV true) [] 0 [] none, .no, .no, .no, .no, .no, .b false, .no] [1, 2, 3, 23] [0] (P := (_) ∧ (_) ∧ (¬ (t < s))) (l' := [(1, iV s), (2, iV t), (3, rV 0 0), (23, bV false)]) (g' := [(0, some (24, .ds [D.sl (dI .i64 l) n]))]) (nx' := 1) (by kernel_rfl) ⟨(Fun.y (Q_isT s) (y' := bV true) (congrArg (fun b => LV (.bool b)) (decide_eq_true (by omega)))), (Fun.y (Q_isT t) (y' := bV true) (congrArg (fun b => LV (.bool b)) (decide_eq_true (by omega)))), (by omega)⟩ ?_
  refine AW.cond_f (.tmp (Look.of rfl)) ?_
  refine AW.skip ?_
  have hx1 : (((0 : Int) ≤ (posV l n t)) ∧ ((posV l n t) ≤ 1125899906842624)) := (pos_in2 (hc) ((by omega)))
  have hx2 : (((0 : Int) ≤ (posV l n s)) ∧ ((posV l n s) ≤ 1125899906842624)) := (pos_in2 (hc) ((by omega)))
  refine AW.rgs [.no, .no, .call [] (iV (posV l n t)) [] 0 [] none, .no, .no, .call [] (iV (posV l n s)) [] 0 [] none, .w, .no, .no] [6, 7] [] (P := (_) ∧ (_) ∧ ((-9223372036854775808) ≤ ((posV l n t) - (posV l n s)) ∧ ((posV l n t) - (posV l n s)) ≤ 9223372036854775807)) (l' := [(6, iV ((posV l n t) - (posV l n s))), (7, iV 0)]) (g' := []) (nx' := 1) (by kernel_rfl) ⟨(F_pos l n t (by omega) hc (by omega)), (F_pos l n s (by omega) hc (by omega)), ⟨by omega, by omega⟩⟩ ?_
  refine AW.ret ?_
  exact EndP.of (.inr rfl) [] (P := ((((posV l n t) - (posV l n s)) : Int) = ((posV l n t) - (posV l n s))) ∧ ((0 : Int) = 0)) (by kernel_rfl) ⟨rfl, rfl⟩

theorem Q_BtpT (l : List Int) (n : Nat) (s t : Int) (hl : List.length l = n * 3) (hb : n ≤ 1000000) : Fun 21 [.agg [.d (D.sl (dI .i64 l) n)], iE s, iE t] (toG []) 0 (.tup [iE (btV l n s t), iE (btE l n s t)]) (toG []) 0 := by
  by_cases h1 : ckB l n = true
  · by_cases h2 : 0 ≤ s ∧ s ≤ t ∧ t ≤ 1099511627776
    · unfold btV btE; rw [if_pos ⟨h1, h2⟩, if_pos h1, if_pos h2]; exact Q_Btp3 l n s t hl hb h1 h2
    · unfold btV btE; rw [if_neg (fun h => h2 h.2), if_pos h1, if_neg h2]; exact Q_Btp2 l n s t hl hb h1 h2
  · unfold btV btE; rw [if_neg (fun h => h1 h.1), if_neg h1]; exact Q_Btp1 l n s t hl hb (by simpa using h1)

set_option maxHeartbeats 4000000 in
set_option maxRecDepth 100000 in
theorem Q_Btr1 (l : List Int) (n : Nat) (s t : Int) (hl : List.length l = n * 3) (hb : n ≤ 1000000) (hc : ckB l n = false) : Fun 22 [.agg [.d (D.sl (dI .i64 l) n)], iE s, iE t] (toG []) 0 (.tup [iE 0, iE 1]) (toG []) 0 := by
  refine Fun.mk (n := 29) Try.func22 rfl rfl (Nat.le_of_ble_eq_true rfl) ?_
  intro cx hcx
  refine AW.rgs [.no, .no, .no] [1, 2, 3] [0] (P := True) (l' := [(1, iV s), (2, iV t), (3, rV 0 0)]) (g' := [(0, some (24, .ds [D.sl (dI .i64 l) n]))]) (nx' := 1) (by kernel_rfl) trivial ?_
  refine AW.seq ?_
  refine AW.rgs [.no, .call [] (bV false) [] 0 [] none, .no] [1, 2, 3, 10] [0] (P := (Fun 18 [.agg [.d (D.sl (dI .i64 l) n)]] (toG []) 0 (bV false) (toG []) 0)) (l' := [(1, iV s), (2, iV t), (3, rV 0 0), (10, bV true)]) (g' := [(0, some (24, .ds [D.sl (dI .i64 l) n]))]) (nx' := 1) (by kernel_rfl) (by have h0 := (T_rValid l n (by omega) (by omega)); rw [hc] at h0; exact h0) ?_
  refine AW.cond_t (.tmp (Look.of rfl)) ?_
  refine AW.rgs [.no, .no] [6, 7] [] (P := True) (l' := [(6, iV 0), (7, iV 1)]) (g' := []) (nx' := 1) (by kernel_rfl) trivial ?_
  refine AW.ret ?_
  exact EndP.of (.inr rfl) [] (P := ((0 : Int) = 0) ∧ ((1 : Int) = 1)) (by kernel_rfl) ⟨rfl, rfl⟩

set_option maxHeartbeats 4000000 in
set_option maxRecDepth 100000 in
theorem Q_Btr2 (l : List Int) (n : Nat) (s t : Int) (hl : List.length l = n * 3) (hb : n ≤ 1000000) (hc : ckB l n = true) (ht : ¬ (0 ≤ s ∧ s ≤ t ∧ t ≤ 1099511627776)) : Fun 22 [.agg [.d (D.sl (dI .i64 l) n)], iE s, iE t] (toG []) 0 (.tup [iE 0, iE 2]) (toG []) 0 := by
  refine Fun.mk (n := 29) Try.func22 rfl rfl (Nat.le_of_ble_eq_true rfl) ?_
  intro cx hcx
  refine AW.rgs [.no, .no, .no] [1, 2, 3] [0] (P := True) (l' := [(1, iV s), (2, iV t), (3, rV 0 0)]) (g' := [(0, some (24, .ds [D.sl (dI .i64 l) n]))]) (nx' := 1) (by kernel_rfl) trivial ?_
  refine AW.seq ?_
  refine AW.rgs [.no, .call [] (bV true) [] 0 [] none, .no] [1, 2, 3, 10] [0] (P := (Fun 18 [.agg [.d (D.sl (dI .i64 l) n)]] (toG []) 0 (bV true) (toG []) 0)) (l' := [(1, iV s), (2, iV t), (3, rV 0 0), (10, bV false)]) (g' := [(0, some (24, .ds [D.sl (dI .i64 l) n]))]) (nx' := 1) (by kernel_rfl) (by have h0 := (T_rValid l n (by omega) (by omega)); rw [hc] at h0; exact h0) ?_
  refine AW.cond_f (.tmp (Look.of rfl)) ?_
  refine AW.skip ?_
  refine AW.seq ?_
  by_cases hx1 : (s < 0)
  · refine AW.rgs [.no, .b true, .no, .no, .no, .no] [1, 2, 3, 21] [0] (P := ((s < 0))) (l' := [(1, iV s), (2, iV t), (3, rV 0 0), (21, bV true)]) (g' := [(0, some (24, .ds [D.sl (dI .i64 l) n]))]) (nx' := 1) (by kernel_rfl) (by omega) ?_
    refine AW.cond_t (.tmp (Look.of rfl)) ?_
    refine AW.rgs [.no, .no] [6, 7] [] (P := True) (l' := [(6, iV 0), (7, iV 2)]) (g' := []) (nx' := 1) (by kernel_rfl) trivial ?_
    refine AW.ret ?_
    exact EndP.of (.inr rfl) [] (P := ((0 : Int) = 0) ∧ ((2 : Int) = 2)) (by kernel_rfl) ⟨rfl, rfl⟩
  · by_cases hx2 : ((1099511627776 : Int) < t)
    · refine AW.rgs [.no, .b false, .no, .no, .b true, .no, .no, .no] [1, 2, 3, 21] [0] (P := (¬ (s < 0)) ∧ (((1099511627776 : Int) < t))) (l' := [(1, iV s), (2, iV t), (3, rV 0 0), (21, bV true)]) (g' := [(0, some (24, .ds [D.sl (dI .i64 l) n]))]) (nx' := 1) (by kernel_rfl) ⟨(by omega), (by omega)⟩ ?_
      refine AW.cond_t (.tmp (Look.of rfl)) ?_
      refine AW.rgs [.no, .no] [6, 7] [] (P := True) (l' := [(6, iV 0), (7, iV 2)]) (g' := []) (nx' := 1) (by kernel_rfl) trivial ?_
      refine AW.ret ?_
      exact EndP.of (.inr rfl) [] (P := ((0 : Int) = 0) ∧ ((2 : Int) = 2)) (by kernel_rfl) ⟨rfl, rfl⟩
    · refine AW.rgs [.no, .b false, .no, .no, .b false, .no, .no, .no, .no, .b true, .no] [1, 2, 3, 21] [0] (P := (¬ (s < 0)) ∧ (¬ ((1099511627776 : Int) < t)) ∧ ((t < s))) (l' := [(1, iV s), (2, iV t), (3, rV 0 0), (21, bV true)]) (g' := [(0, some (24, .ds [D.sl (dI .i64 l) n]))]) (nx' := 1) (by kernel_rfl) ⟨(by omega), (by omega), (by omega)⟩ ?_
      refine AW.cond_t (.tmp (Look.of rfl)) ?_
      refine AW.rgs [.no, .no] [6, 7] [] (P := True) (l' := [(6, iV 0), (7, iV 2)]) (g' := []) (nx' := 1) (by kernel_rfl) trivial ?_
      refine AW.ret ?_
      exact EndP.of (.inr rfl) [] (P := ((0 : Int) = 0) ∧ ((2 : Int) = 2)) (by kernel_rfl) ⟨rfl, rfl⟩

set_option maxHeartbeats 4000000 in
set_option maxRecDepth 100000 in
theorem Q_Btr3 (l : List Int) (n : Nat) (s t : Int) (hl : List.length l = n * 3) (hb : n ≤ 1000000) (hc : ckB l n = true) (ht : 0 ≤ s ∧ s ≤ t ∧ t ≤ 1099511627776) : Fun 22 [.agg [.d (D.sl (dI .i64 l) n)], iE s, iE t] (toG []) 0 (.tup [iE ((posV l n t) - (posV l n s)), iE 0]) (toG []) 0 := by
  refine Fun.mk (n := 29) Try.func22 rfl rfl (Nat.le_of_ble_eq_true rfl) ?_
  intro cx hcx
  refine AW.rgs [.no, .no, .no] [1, 2, 3] [0] (P := True) (l' := [(1, iV s), (2, iV t), (3, rV 0 0)]) (g' := [(0, some (24, .ds [D.sl (dI .i64 l) n]))]) (nx' := 1) (by kernel_rfl) trivial ?_
  refine AW.seq ?_
  refine AW.rgs [.no, .call [] (bV true) [] 0 [] none, .no] [1, 2, 3, 10] [0] (P := (Fun 18 [.agg [.d (D.sl (dI .i64 l) n)]] (toG []) 0 (bV true) (toG []) 0)) (l' := [(1, iV s), (2, iV t), (3, rV 0 0), (10, bV false)]) (g' := [(0, some (24, .ds [D.sl (dI .i64 l) n]))]) (nx' := 1) (by kernel_rfl) (by have h0 := (T_rValid l n (by omega) (by omega)); rw [hc] at h0; exact h0) ?_
  refine AW.cond_f (.tmp (Look.of rfl)) ?_
  refine AW.skip ?_
  refine AW.seq ?_
  refine AW.rgs [.no, .b false, .no, .no, .b false, .no, .no, .no, .no, .b false, .no] [1, 2, 3, 21] [0] (P := (¬ (s < 0)) ∧ (¬ ((1099511627776 : Int) < t)) ∧ (¬ (t < s))) (l' := [(1, iV s), (2, iV t), (3, rV 0 0), (21, bV false)]) (g' := [(0, some (24, .ds [D.sl (dI .i64 l) n]))]) (nx' := 1) (by kernel_rfl) ⟨(by omega), (by omega), (by omega)⟩ ?_
  refine AW.cond_f (.tmp (Look.of rfl)) ?_
  refine AW.skip ?_
  have hx1 : (((0 : Int) ≤ (posV l n t)) ∧ ((posV l n t) ≤ 1125899906842624)) := (pos_in2 (hc) ((by omega)))
  have hx2 : (((0 : Int) ≤ (posV l n s)) ∧ ((posV l n s) ≤ 1125899906842624)) := (pos_in2 (hc) ((by omega)))
  refine AW.rgs [.no, .no, .call [] (iV (posV l n t)) [] 0 [] none, .no, .no, .call [] (iV (posV l n s)) [] 0 [] none, .w, .no, .no] [6, 7] [] (P := (_) ∧ (_) ∧ ((-9223372036854775808) ≤ ((posV l n t) - (posV l n s)) ∧ ((posV l n t) - (posV l n s)) ≤ 9223372036854775807)) (l' := [(6, iV ((posV l n t) - (posV l n s))), (7, iV 0)]) (g' := []) (nx' := 1) (by kernel_rfl) ⟨(Q_rpos l n t (by omega) (by omega) hc (by omega)), (Q_rpos l n s (by omega) (by omega) hc (by omega)), ⟨by omega, by omega⟩⟩ ?_
  refine AW.ret ?_
  exact EndP.of (.inr rfl) [] (P := ((((posV l n t) - (posV l n s)) : Int) = ((posV l n t) - (posV l n s))) ∧ ((0 : Int) = 0)) (by kernel_rfl) ⟨rfl, rfl⟩

theorem Q_BtrT (l : List Int) (n : Nat) (s t : Int) (hl : List.length l = n * 3) (hb : n ≤ 1000000) : Fun 22 [.agg [.d (D.sl (dI .i64 l) n)], iE s, iE t] (toG []) 0 (.tup [iE (btV l n s t), iE (btE l n s t)]) (toG []) 0 := by
  by_cases h1 : ckB l n = true
  · by_cases h2 : 0 ≤ s ∧ s ≤ t ∧ t ≤ 1099511627776
    · unfold btV btE; rw [if_pos ⟨h1, h2⟩, if_pos h1, if_pos h2]; exact Q_Btr3 l n s t hl hb h1 h2
    · unfold btV btE; rw [if_neg (fun h => h2 h.2), if_pos h1, if_neg h2]; exact Q_Btr2 l n s t hl hb h1 h2
  · unfold btV btE; rw [if_neg (fun h => h1 h.1), if_neg h1]; exact Q_Btr1 l n s t hl hb (by simpa using h1)

set_option maxHeartbeats 4000000 in
set_option maxRecDepth 100000 in
theorem Q_Tm1 (l : List Int) (n : Nat) (f : Int) (hl : List.length l = n * 3) (hb : n ≤ 1000000) (hc : ckB l n = false) : Fun 24 [.agg [.d (D.sl (dI .i64 l) n)], iE f] (toG []) 0 (.tup [iE 0, iE 1]) (toG []) 0 := by
  refine Fun.mk (n := 37) Try.func24 rfl rfl (Nat.le_of_ble_eq_true rfl) ?_
  intro cx hcx
  refine AW.rgs [.no, .no, .no] [1, 2] [0] (P := True) (l' := [(1, iV f), (2, rV 0 0)]) (g' := [(0, some (24, .ds [D.sl (dI .i64 l) n]))]) (nx' := 1) (by kernel_rfl) trivial ?_
  refine AW.seq ?_
  refine AW.block ?_
  refine AW.rgs [.no, .call [] (bV false) [] 0 [] none, .no, .no] [1, 2, 9] [0] (P := (Fun 18 [.agg [.d (D.sl (dI .i64 l) n)]] (toG []) 0 (bV false) (toG []) 0)) (l' := [(1, iV f), (2, rV 0 0), (9, bV true)]) (g' := [(0, some (24, .ds [D.sl (dI .i64 l) n]))]) (nx' := 1) (by kernel_rfl) (by have h0 := (T_rValid l n (by omega) (by omega)); rw [hc] at h0; exact h0) ?_
  refine AW.cond_t (.tmp (Look.of rfl)) ?_
  refine AW.rgs [.no, .no] [4, 5] [] (P := True) (l' := [(4, iV 0), (5, iV 1)]) (g' := []) (nx' := 1) (by kernel_rfl) trivial ?_
  refine AW.ret ?_
  exact EndP.of (.inr rfl) [] (P := ((0 : Int) = 0) ∧ ((1 : Int) = 1)) (by kernel_rfl) ⟨rfl, rfl⟩

set_option maxHeartbeats 4000000 in
set_option maxRecDepth 100000 in
theorem Q_Tm2 (l : List Int) (n : Nat) (f : Int) (hl : List.length l = n * 3) (hb : n ≤ 1000000) (hc : ckB l n = true) (hf : f < 0) : Fun 24 [.agg [.d (D.sl (dI .i64 l) n)], iE f] (toG []) 0 (.tup [iE 0, iE 2]) (toG []) 0 := by
  refine Fun.mk (n := 37) Try.func24 rfl rfl (Nat.le_of_ble_eq_true rfl) ?_
  intro cx hcx
  refine AW.rgs [.no, .no, .no] [1, 2] [0] (P := True) (l' := [(1, iV f), (2, rV 0 0)]) (g' := [(0, some (24, .ds [D.sl (dI .i64 l) n]))]) (nx' := 1) (by kernel_rfl) trivial ?_
  refine AW.seq ?_
  refine AW.block ?_
  refine AW.rgs [.no, .call [] (bV true) [] 0 [] none, .no, .no] [1, 2, 9] [0] (P := (Fun 18 [.agg [.d (D.sl (dI .i64 l) n)]] (toG []) 0 (bV true) (toG []) 0)) (l' := [(1, iV f), (2, rV 0 0), (9, bV false)]) (g' := [(0, some (24, .ds [D.sl (dI .i64 l) n]))]) (nx' := 1) (by kernel_rfl) (by have h0 := (T_rValid l n (by omega) (by omega)); rw [hc] at h0; exact h0) ?_
  refine AW.cond_f (.tmp (Look.of rfl)) ?_
  refine AW.rgs [.no, .b true, .no] [1, 2, 13] [0] (P := ((f < 0))) (l' := [(1, iV f), (2, rV 0 0), (13, bV true)]) (g' := [(0, some (24, .ds [D.sl (dI .i64 l) n]))]) (nx' := 1) (by kernel_rfl) (by omega) ?_
  refine AW.cond_t (.tmp (Look.of rfl)) ?_
  refine AW.rgs [.no, .no] [4, 5] [] (P := True) (l' := [(4, iV 0), (5, iV 2)]) (g' := []) (nx' := 1) (by kernel_rfl) trivial ?_
  refine AW.ret ?_
  exact EndP.of (.inr rfl) [] (P := ((0 : Int) = 0) ∧ ((2 : Int) = 2)) (by kernel_rfl) ⟨rfl, rfl⟩

set_option maxHeartbeats 4000000 in
set_option maxRecDepth 100000 in
theorem Q_Tm3 (l : List Int) (n : Nat) (f : Int) (hl : List.length l = n * 3) (hb : n ≤ 1000000) (hc : ckB l n = true) (hf : 0 ≤ f) (hy : posV l n 1099511627776 < f) : Fun 24 [.agg [.d (D.sl (dI .i64 l) n)], iE f] (toG []) 0 (.tup [iE 0, iE 13]) (toG []) 0 := by
  have hn1 : 1 ≤ n ∧ n ≤ 64 := (ck_of hc).1
  have hpe : 0 ≤ posV l n 1099511627776 ∧ posV l n 1099511627776 ≤ 1125899906842624 := pos_in2 hc (by omega)
  refine Fun.mk (n := 37) Try.func24 rfl rfl (Nat.le_of_ble_eq_true rfl) ?_
  intro cx hcx
  refine AW.rgs [.no, .no, .no] [1, 2] [0] (P := True) (l' := [(1, iV f), (2, rV 0 0)]) (g' := [(0, some (24, .ds [D.sl (dI .i64 l) n]))]) (nx' := 1) (by kernel_rfl) trivial ?_
  refine AW.seq ?_
  refine AW.block ?_
  refine AW.rgs [.no, .call [] (bV true) [] 0 [] none, .no, .no] [1, 2, 9] [0] (P := (Fun 18 [.agg [.d (D.sl (dI .i64 l) n)]] (toG []) 0 (bV true) (toG []) 0)) (l' := [(1, iV f), (2, rV 0 0), (9, bV false)]) (g' := [(0, some (24, .ds [D.sl (dI .i64 l) n]))]) (nx' := 1) (by kernel_rfl) (by have h0 := (T_rValid l n (by omega) (by omega)); rw [hc] at h0; exact h0) ?_
  refine AW.cond_f (.tmp (Look.of rfl)) ?_
  refine AW.rgs [.no, .b false, .no] [1, 2, 13] [0] (P := (¬ (f < 0))) (l' := [(1, iV f), (2, rV 0 0), (13, bV false)]) (g' := [(0, some (24, .ds [D.sl (dI .i64 l) n]))]) (nx' := 1) (by kernel_rfl) (by omega) ?_
  refine AW.cond_f (.tmp (Look.of rfl)) ?_
  have hx1 : (((0 : Int) ≤ (posV l n 1099511627776)) ∧ ((posV l n 1099511627776) ≤ 1125899906842624)) := (pos_in2 (hc) ((by omega)))
  refine AW.rgs [.no, .call [] (iV (posV l n 1099511627776)) [] 0 [] none, .no, .b true, .no] [1, 2, 16] [0] (P := (_) ∧ (((posV l n 1099511627776) < f))) (l' := [(1, iV f), (2, rV 0 0), (16, bV true)]) (g' := [(0, some (24, .ds [D.sl (dI .i64 l) n]))]) (nx' := 1) (by kernel_rfl) ⟨(Q_rpos l n 1099511627776 (by omega) (by omega) hc (by omega)), (by omega)⟩ ?_
  refine AW.cond_t (.tmp (Look.of rfl)) ?_
  refine AW.rgs [.no, .no] [4, 5] [] (P := True) (l' := [(4, iV 0), (5, iV 13)]) (g' := []) (nx' := 1) (by kernel_rfl) trivial ?_
  refine AW.ret ?_
  exact EndP.of (.inr rfl) [] (P := ((0 : Int) = 0) ∧ ((13 : Int) = 13)) (by kernel_rfl) ⟨rfl, rfl⟩

set_option maxHeartbeats 4000000 in
set_option maxRecDepth 100000 in
theorem Q_Tm4 (l : List Int) (n : Nat) (f : Int) (hl : List.length l = n * 3) (hb : n ≤ 1000000) (hc : ckB l n = true) (hf : 0 ≤ f) (hy : f ≤ posV l n 1099511627776) : Fun 24 [.agg [.d (D.sl (dI .i64 l) n)], iE f] (toG []) 0 (.tup [iE (tmV l n f), iE 0]) (toG []) 0 := by
  have hn1 : 1 ≤ n ∧ n ≤ 64 := (ck_of hc).1
  have hpe : 0 ≤ posV l n 1099511627776 ∧ posV l n 1099511627776 ≤ 1125899906842624 := pos_in2 hc (by omega)
  have hT : 0 ≤ tmV l n f ∧ tmV l n f ≤ 1099511627776 := (tm_yes hc hf hy).2
  refine Fun.mk (n := 37) Try.func24 rfl rfl (Nat.le_of_ble_eq_true rfl) ?_
  intro cx hcx
  refine AW.rgs [.no, .no, .no] [1, 2] [0] (P := True) (l' := [(1, iV f), (2, rV 0 0)]) (g' := [(0, some (24, .ds [D.sl (dI .i64 l) n]))]) (nx' := 1) (by kernel_rfl) trivial ?_
  refine AW.seq ?_
  refine AW.block ?_
  refine AW.rgs [.no, .call [] (bV true) [] 0 [] none, .no, .no] [1, 2, 9] [0] (P := (Fun 18 [.agg [.d (D.sl (dI .i64 l) n)]] (toG []) 0 (bV true) (toG []) 0)) (l' := [(1, iV f), (2, rV 0 0), (9, bV false)]) (g' := [(0, some (24, .ds [D.sl (dI .i64 l) n]))]) (nx' := 1) (by kernel_rfl) (by have h0 := (T_rValid l n (by omega) (by omega)); rw [hc] at h0; exact h0) ?_
  refine AW.cond_f (.tmp (Look.of rfl)) ?_
  refine AW.rgs [.no, .b false, .no] [1, 2, 13] [0] (P := (¬ (f < 0))) (l' := [(1, iV f), (2, rV 0 0), (13, bV false)]) (g' := [(0, some (24, .ds [D.sl (dI .i64 l) n]))]) (nx' := 1) (by kernel_rfl) (by omega) ?_
  refine AW.cond_f (.tmp (Look.of rfl)) ?_
  have hx1 : (((0 : Int) ≤ (posV l n 1099511627776)) ∧ ((posV l n 1099511627776) ≤ 1125899906842624)) := (pos_in2 (hc) ((by omega)))
  refine AW.rgs [.no, .call [] (iV (posV l n 1099511627776)) [] 0 [] none, .no, .b false, .no] [1, 2, 16] [0] (P := (_) ∧ (¬ ((posV l n 1099511627776) < f))) (l' := [(1, iV f), (2, rV 0 0), (16, bV false)]) (g' := [(0, some (24, .ds [D.sl (dI .i64 l) n]))]) (nx' := 1) (by kernel_rfl) ⟨(Q_rpos l n 1099511627776 (by omega) (by omega) hc (by omega)), (by omega)⟩ ?_
  refine AW.cond_f (.tmp (Look.of rfl)) ?_
  refine AW.skip ?_
  refine AW.rgs [.no, .no] [1, 2, 6, 7] [0] (P := True) (l' := [(1, iV f), (2, rV 0 0), (6, iV 0), (7, iV 1099511627776)]) (g' := [(0, some (24, .ds [D.sl (dI .i64 l) n]))]) (nx' := 1) (by kernel_rfl) trivial ?_
  refine AW.seq ?_
  refine AW.block ?_
  refine AW.loopE 0 hcx (fun (x : {x : Int × Int // match x with | (a, b) => (0 ≤ a ∧ a ≤ tmV l n f ∧ tmV l n f ≤ b ∧ b ≤ 1099511627776)}) => match x with | ⟨(a, b), _⟩ => (⟨[(1, iV f), (2, rV 0 0), (6, iV a), (7, iV b)], [(0, some (24, .ds [D.sl (dI .i64 l) n]))], 1⟩ : ES)) (fun (x : {x : Int × Int // match x with | (a, b) => (0 ≤ a ∧ a ≤ tmV l n f ∧ tmV l n f ≤ b ∧ b ≤ 1099511627776)}) => match x with | ⟨(a, b), _⟩ => Int.toNat (b - a)) ⟨((0 : Int), (1099511627776 : Int)), (show (0 ≤ (0 : Int) ∧ (0 : Int) ≤ tmV l n f ∧ tmV l n f ≤ (1099511627776 : Int) ∧ (1099511627776 : Int) ≤ 1099511627776) from (by first | omega | assumption | simp))⟩ [] (P := ((f : Int) = f) ∧ ((0 : Nat) = 0) ∧ ((0 : Int) = 0) ∧ ((1099511627776 : Int) = 1099511627776) ∧ (([D.sl (dI .i64 l) n] : List D) = [D.sl (dI .i64 l) n])) (by kernel_rfl) ⟨rfl, rfl, rfl, rfl, rfl⟩ ?_
  rintro ⟨⟨a, b⟩, hinv0⟩
  have ha : (0 ≤ a ∧ a ≤ tmV l n f ∧ tmV l n f ≤ b ∧ b ≤ 1099511627776) := hinv0
  refine AW.es (l := [(1, iV f), (2, rV 0 0), (6, iV a), (7, iV b)]) (g := [(0, some (24, .ds [D.sl (dI .i64 l) n]))]) (nx := 1) rfl rfl rfl ?_
  refine AW.seq ?_
  by_cases hx2 : (a < b)
  · refine AW.rgs [.no, .no, .b true] [1, 2, 6, 7, 23] [0] (P := ((a < b))) (l' := [(1, iV f), (2, rV 0 0), (6, iV a), (7, iV b), (23, bV true)]) (g' := [(0, some (24, .ds [D.sl (dI .i64 l) n]))]) (nx' := 1) (by kernel_rfl) (by omega) ?_
    refine AW.cond_t (.tmp (Look.of rfl)) ?_
    refine AW.skip ?_
    refine AW.block ?_
    refine AW.rgs [.no, .no, .w, .ps, .no] [1, 2, 6, 7, 8] [0] (P := ((-9223372036854775808) ≤ (a + b) ∧ (a + b) ≤ 9223372036854775807) ∧ ((0 : Int) ≤ ((a + b) : Int)) ∧ ((0 : Int) < (2 : Int)) ∧ ((-9223372036854775808) ≤ (a + b) ∧ (a + b) ≤ 9223372036854775807)) (l' := [(1, iV f), (2, rV 0 0), (6, iV a), (7, iV b), (8, iV ((a + b) / 2))]) (g' := [(0, some (24, .ds [D.sl (dI .i64 l) n]))]) (nx' := 1) (by kernel_rfl) ⟨⟨by omega, by omega⟩, (by omega), (by omega), ⟨by omega, by omega⟩⟩ ?_
    by_cases hx4 : (f ≤ (posV l n ((a + b) / 2)))
    · have hmo : (f ≤ posV l n ((a + b) / 2) ∧ tmV l n f ≤ (a + b) / 2) ∨ (posV l n ((a + b) / 2) < f ∧ (a + b) / 2 < tmV l n f) := tm_or hc hf hy (by omega)
      have hx5 : (((0 : Int) ≤ (posV l n ((a + b) / 2))) ∧ ((posV l n ((a + b) / 2)) ≤ 1125899906842624)) := (pos_in2 (hc) ((by omega)))
      refine AW.rgs [.no, .no, .call [] (iV (posV l n ((a + b) / 2))) [] 0 [] none, .no, .b true] [1, 2, 6, 7, 8, 32] [0] (P := (_) ∧ ((f ≤ (posV l n ((a + b) / 2))))) (l' := [(1, iV f), (2, rV 0 0), (6, iV a), (7, iV b), (8, iV ((a + b) / 2)), (32, bV true)]) (g' := [(0, some (24, .ds [D.sl (dI .i64 l) n]))]) (nx' := 1) (by kernel_rfl) ⟨(Q_rpos l n ((a + b) / 2) (by omega) (by omega) hc (by omega)), (by omega)⟩ ?_
      refine AW.cond_t (.tmp (Look.of rfl)) ?_
      refine AW.rg [.no, .no] [1, 2, 6, 7] [0] (P := True) (l' := [(1, iV f), (2, rV 0 0), (6, iV a), (7, iV ((a + b) / 2))]) (g' := [(0, some (24, .ds [D.sl (dI .i64 l) n]))]) (nx' := 1) (by kernel_rfl) trivial ?_
      exact Rd.of ⟨((a : Int), (((a + b) / 2) : Int)), (show (0 ≤ a ∧ a ≤ tmV l n f ∧ tmV l n f ≤ ((a + b) / 2) ∧ ((a + b) / 2) ≤ 1099511627776) from (by first | omega | assumption | simp))⟩ [] (P := ((f : Int) = f) ∧ ((0 : Nat) = 0) ∧ ((a : Int) = a) ∧ ((((a + b) / 2) : Int) = ((a + b) / 2)) ∧ (([D.sl (dI .i64 l) n] : List D) = [D.sl (dI .i64 l) n])) (by kernel_rfl) ⟨rfl, rfl, rfl, rfl, rfl⟩ (show Int.toNat (((a + b) / 2) - a) < Int.toNat (b - a) from (by first | omega | (show _ < _; simp; omega)))
    · have hmo : (f ≤ posV l n ((a + b) / 2) ∧ tmV l n f ≤ (a + b) / 2) ∨ (posV l n ((a + b) / 2) < f ∧ (a + b) / 2 < tmV l n f) := tm_or hc hf hy (by omega)
      have hx6 : (((0 : Int) ≤ (posV l n ((a + b) / 2))) ∧ ((posV l n ((a + b) / 2)) ≤ 1125899906842624)) := (pos_in2 (hc) ((by omega)))
      refine AW.rgs [.no, .no, .call [] (iV (posV l n ((a + b) / 2))) [] 0 [] none, .no, .b false] [1, 2, 6, 7, 8, 32] [0] (P := (_) ∧ (¬ (f ≤ (posV l n ((a + b) / 2))))) (l' := [(1, iV f), (2, rV 0 0), (6, iV a), (7, iV b), (8, iV ((a + b) / 2)), (32, bV false)]) (g' := [(0, some (24, .ds [D.sl (dI .i64 l) n]))]) (nx' := 1) (by kernel_rfl) ⟨(Q_rpos l n ((a + b) / 2) (by omega) (by omega) hc (by omega)), (by omega)⟩ ?_
      refine AW.cond_f (.tmp (Look.of rfl)) ?_
      refine AW.rg [.no, .w, .no] [1, 2, 6, 7] [0] (P := ((-9223372036854775808) ≤ (((a + b) / 2) + 1) ∧ (((a + b) / 2) + 1) ≤ 9223372036854775807)) (l' := [(1, iV f), (2, rV 0 0), (6, iV (((a + b) / 2) + 1)), (7, iV b)]) (g' := [(0, some (24, .ds [D.sl (dI .i64 l) n]))]) (nx' := 1) (by kernel_rfl) ⟨by omega, by omega⟩ ?_
      exact Rd.of ⟨(((((a + b) / 2) + 1) : Int), (b : Int)), (show (0 ≤ (((a + b) / 2) + 1) ∧ (((a + b) / 2) + 1) ≤ tmV l n f ∧ tmV l n f ≤ b ∧ b ≤ 1099511627776) from (by first | omega | assumption | simp))⟩ [] (P := ((f : Int) = f) ∧ ((0 : Nat) = 0) ∧ (((((a + b) / 2) + 1) : Int) = (((a + b) / 2) + 1)) ∧ ((b : Int) = b) ∧ (([D.sl (dI .i64 l) n] : List D) = [D.sl (dI .i64 l) n])) (by kernel_rfl) ⟨rfl, rfl, rfl, rfl, rfl⟩ (show Int.toNat (b - (((a + b) / 2) + 1)) < Int.toNat (b - a) from (by first | omega | (show _ < _; simp; omega)))
  · refine AW.rgs [.no, .no, .b false] [1, 2, 6, 7, 23] [0] (P := (¬ (a < b))) (l' := [(1, iV f), (2, rV 0 0), (6, iV a), (7, iV b), (23, bV false)]) (g' := [(0, some (24, .ds [D.sl (dI .i64 l) n]))]) (nx' := 1) (by kernel_rfl) (by omega) ?_
    refine AW.cond_f (.tmp (Look.of rfl)) ?_
    refine AW.exit ?_
    refine AW.rgs [.no, .no, .no] [4, 5] [] (P := True) (l' := [(4, iV a), (5, iV 0)]) (g' := []) (nx' := 1) (by kernel_rfl) trivial ?_
    refine AW.ret ?_
    exact EndP.of (.inr rfl) [] (P := (((tmV l n f) : Int) = a) ∧ ((0 : Int) = 0)) (by kernel_rfl) ⟨(by first | omega | rfl | assumption | (simp; done) | (simp; omega)), rfl⟩

theorem Q_TmT (l : List Int) (n : Nat) (f : Int) (hl : List.length l = n * 3) (hb : n ≤ 1000000) : Fun 24 [.agg [.d (D.sl (dI .i64 l) n)], iE f] (toG []) 0 (.tup [iE (tmV l n f), iE (tmE l n f)]) (toG []) 0 := by
  by_cases h1 : ckB l n = true
  · by_cases h2 : 0 ≤ f
    · by_cases h3 : f ≤ posV l n 1099511627776
      · rw [(tm_yes h1 h2 h3).1]; exact Q_Tm4 l n f hl hb h1 h2 h3
      · rw [(tm_no h1 h2 (by omega)).1, (tm_no h1 h2 (by omega)).2]; exact Q_Tm3 l n f hl hb h1 h2 (by omega)
    · have hV : tmV l n f = 0 := by unfold tmV; rw [if_neg (fun h => h2 h.2.1)]
      have hE : tmE l n f = 2 := by unfold tmE; rw [if_pos h1, if_neg h2]
      rw [hV, hE]; exact Q_Tm2 l n f hl hb h1 (by omega)
  · have hV : tmV l n f = 0 := by unfold tmV; rw [if_neg (fun h => h1 h.1)]
    have hE : tmE l n f = 1 := by unfold tmE; rw [if_neg h1]
    rw [hV, hE]; exact Q_Tm1 l n f hl hb (by simpa using h1)

end Go.Proofs.Yteggelophhpnfaa
