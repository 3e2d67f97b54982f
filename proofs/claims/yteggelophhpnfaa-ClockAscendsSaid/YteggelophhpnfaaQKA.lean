/- A law of clocks. No statement is proved here. -/
import Derived.Test.YteggelophhpnfaaL13L
namespace Go.Proofs.Yteggelophhpnfaa
open Go.ChangeShapes Go.WideShapes Go.ChangeAt Go.RowKit
set_option linter.unusedVariables false
set_option linter.unusedSimpArgs false


theorem pos_zero {l : List Int} {n : Nat} (h : ckB l n = true) : posV l n 0 = 0 := by
  have h1 := pos_at h (t := 0) (by omega) (ck_of h).1.1 (by rw [ck_zero h]; exact Int.le_refl _) (fun hh => (ck_rg h 1 hh).1)
  rw [h1, ck_zero h]
  have e : psV l n 1099511627776 0 = 0 := rfl
  rw [e, Int.sub_self, Int.zero_mul, Int.zero_ediv]; rfl
theorem tm_first {l : List Int} {n : Nat} {f : Int} (h : ckB l n = true) (hf : 0 ≤ f) :
    tmE l n f = 13 ∨ (tmE l n f = 0 ∧ 0 ≤ tmV l n f ∧ tmV l n f ≤ 1099511627776 ∧ f ≤ posV l n (tmV l n f) ∧ (1 ≤ tmV l n f ∨ (tmV l n f = 0 ∧ f = 0)) ∧ (tmV l n f = 0 ∨ posV l n (tmV l n f - 1) < f)) := by
  rcases tm_iff h hf with ⟨_, h2, _⟩ | ⟨h1, h2, h3, h4⟩
  · exact .inl h2
  · right
    have a := (h4 _ h2 h3).2 (Int.le_refl _)
    refine ⟨h1, h2, h3, a, ?_, ?_⟩
    · by_cases e : tmV l n f = 0
      · right; rw [e, pos_zero h] at a; exact ⟨e, by omega⟩
      · left; omega
    · by_cases e : tmV l n f = 0
      · exact .inl e
      · right; have := h4 (tmV l n f - 1) (by omega) (by omega); omega

set_option maxHeartbeats 4000000 in
set_option maxRecDepth 100000 in
theorem L_Asc (sd : List Int) (m : Nat) (t x g : Int) (hm : List.length sd = m) (hb : m ≤ 9223372036854775807) (hy : Byt sd) (ht : 0 ≤ t ∧ t ≤ 65535) (hx : 0 ≤ x ∧ x ≤ 255) (hg : 0 ≤ g ∧ g ≤ 65535) : Fun 5 [.c (.d (D.sl (dI .u8 sd) m)), .c (.d (D.lit (.int .u16 t))), .c (.d (D.lit (.int .u8 x))), .c (.d (D.lit (.int .u16 g)))] (toG []) 0 (bV true) (toG []) 0 := by
  refine Fun.mk (n := 122) Try.func5 rfl rfl (Nat.le_of_ble_eq_true rfl) ?_
  intro cx hcx
  refine AW.rgs [.no] [0, 1, 2, 3] [] (P := True) (l' := [(0, sV .u8 sd m), (1, .e (.c (.d (D.lit (.int .u16 t))))), (2, .e (.c (.d (D.lit (.int .u8 x))))), (3, .e (.c (.d (D.lit (.int .u16 g)))))]) (g' := []) (nx' := 0) (by kernel_rfl) trivial ?_
  refine AW.seq ?_
  rcases Bool.eq_false_or_eq_true (true) with hx1 | hx1
  · refine AW.rgs [.call [] (bV true) [] 0 [] none, .no] [0, 1, 2, 3, 25] [] (P := (Fun 9 [] (toG []) 0 (bV true) (toG []) 0)) (l' := [(0, sV .u8 sd m), (1, .e (.c (.d (D.lit (.int .u16 t))))), (2, .e (.c (.d (D.lit (.int .u8 x))))), (3, .e (.c (.d (D.lit (.int .u16 g))))), (25, bV false)]) (g' := []) (nx' := 0) (by kernel_rfl) (by have h0 := (L_sane); rw [hx1] at h0; exact h0) ?_
    refine AW.cond_f (.tmp (Look.of rfl)) ?_
    refine AW.skip ?_
    obtain ⟨k1, m2, hx2, hx3, hx4, hF2⟩ := (X_made13 sd m (by omega) (by omega) (by first | omega | with_reducible assumption | (simp <;> omega) | rfl | assumption))
    refine AW.rgs [.no, .call [] (.e (.agg [.d (D.sl (dI .i64 k1) m2)])) [] 0 [] none, .no, .no] [1, 2, 3, 9] [0] (P := (_)) (l' := [(1, .e (.c (.d (D.lit (.int .u16 t))))), (2, .e (.c (.d (D.lit (.int .u8 x))))), (3, .e (.c (.d (D.lit (.int .u16 g))))), (9, rV 0 0)]) (g' := [(0, some (24, .ds [D.sl (dI .i64 k1) m2]))]) (nx' := 1) (by kernel_rfl) hF2 ?_
    have hx5 : posV k1 m2 (t % 700) ≤ posV k1 m2 (t % 700 + x) := (pos_mono ‹ckB k1 m2 = true› (by omega) (by omega) (by omega))
    have hx6 : tmE k1 m2 g = 13 ∨ (tmE k1 m2 g = 0 ∧ 0 ≤ tmV k1 m2 g ∧ tmV k1 m2 g ≤ 1099511627776 ∧ g ≤ posV k1 m2 (tmV k1 m2 g) ∧ (1 ≤ tmV k1 m2 g ∨ (tmV k1 m2 g = 0 ∧ g = 0)) ∧ (tmV k1 m2 g = 0 ∨ posV k1 m2 (tmV k1 m2 g - 1) < g)) := (tm_first ‹ckB k1 m2 = true› (by omega))
    refine AW.rgs [.no, .ps, .w, .no, .ps, .w, .no, .w, .w, .no, .no] [3, 9, 10, 11] [0] (P := ((0 : Int) ≤ (t : Int)) ∧ ((0 : Int) < (700 : Int)) ∧ ((-9223372036854775808) ≤ (t % 700) ∧ (t % 700) ≤ 9223372036854775807) ∧ ((0 : Int) ≤ (t : Int)) ∧ ((0 : Int) < (700 : Int)) ∧ ((-9223372036854775808) ≤ (t % 700) ∧ (t % 700) ≤ 9223372036854775807) ∧ ((-9223372036854775808) ≤ x ∧ x ≤ 9223372036854775807) ∧ ((-9223372036854775808) ≤ ((t % 700) + x) ∧ ((t % 700) + x) ≤ 9223372036854775807)) (l' := [(3, .e (.c (.d (D.lit (.int .u16 g))))), (9, rV 0 0), (10, iV (t % 700)), (11, iV ((t % 700) + x))]) (g' := [(0, some (24, .ds [D.sl (dI .i64 k1) m2]))]) (nx' := 1) (by kernel_rfl) ⟨(by omega), (by omega), ⟨by omega, by omega⟩, (by omega), (by omega), ⟨by omega, by omega⟩, ⟨by omega, by omega⟩, ⟨by omega, by omega⟩⟩ ?_
    have hx7 : (((0 : Int) ≤ (posV k1 m2 (t % 700))) ∧ ((posV k1 m2 (t % 700)) ≤ 1125899906842624)) := (pos_in2 (hx2) ((by omega)))
    refine AW.rgs [.no, .no, .call [] (.tup [iE (posV k1 m2 (t % 700)), iE 0]) [] 0 [] none, .no, .no, .no, .no, .no] [3, 9, 10, 11, 12, 13] [0] (P := (_)) (l' := [(3, .e (.c (.d (D.lit (.int .u16 g))))), (9, rV 0 0), (10, iV (t % 700)), (11, iV ((t % 700) + x)), (12, iV (posV k1 m2 (t % 700))), (13, iV 0)]) (g' := [(0, some (24, .ds [D.sl (dI .i64 k1) m2]))]) (nx' := 1) (by kernel_rfl) (Q_Pop3 k1 m2 (t % 700) (by omega) (by omega) hx2 (by omega)) ?_
    have hx8 : (((0 : Int) ≤ (posV k1 m2 ((t % 700) + x))) ∧ ((posV k1 m2 ((t % 700) + x)) ≤ 1125899906842624)) := (pos_in2 (hx2) ((by omega)))
    refine AW.rgs [.no, .no, .call [] (.tup [iE (posV k1 m2 ((t % 700) + x)), iE 0]) [] 0 [] none, .no, .no, .no, .no, .no] [3, 9, 10, 11, 12, 13, 14, 15] [0] (P := (_)) (l' := [(3, .e (.c (.d (D.lit (.int .u16 g))))), (9, rV 0 0), (10, iV (t % 700)), (11, iV ((t % 700) + x)), (12, iV (posV k1 m2 (t % 700))), (13, iV 0), (14, iV (posV k1 m2 ((t % 700) + x))), (15, iV 0)]) (g' := [(0, some (24, .ds [D.sl (dI .i64 k1) m2]))]) (nx' := 1) (by kernel_rfl) (Q_Pop3 k1 m2 ((t % 700) + x) (by omega) (by omega) hx2 (by omega)) ?_
    refine AW.rgs [.no, .no, .no, .call [] (.tup [iE ((posV k1 m2 ((t % 700) + x)) - (posV k1 m2 (t % 700))), iE 0]) [] 0 [] none, .no, .no, .no, .no, .no] [3, 9, 12, 13, 14, 15, 16, 17] [0] (P := (_)) (l' := [(3, .e (.c (.d (D.lit (.int .u16 g))))), (9, rV 0 0), (12, iV (posV k1 m2 (t % 700))), (13, iV 0), (14, iV (posV k1 m2 ((t % 700) + x))), (15, iV 0), (16, iV ((posV k1 m2 ((t % 700) + x)) - (posV k1 m2 (t % 700)))), (17, iV 0)]) (g' := [(0, some (24, .ds [D.sl (dI .i64 k1) m2]))]) (nx' := 1) (by kernel_rfl) (Q_Btp3 k1 m2 (t % 700) ((t % 700) + x) (by omega) (by omega) hx2 (by omega)) ?_
    refine AW.rgs [.no, .no, .w, .call [] (.tup [iE (tmV k1 m2 g), iE (tmE k1 m2 g)]) [] 0 [] none, .no, .no, .no, .no, .no] [3, 9, 12, 13, 14, 15, 16, 17, 18, 19] [0] (P := ((-9223372036854775808) ≤ g ∧ g ≤ 9223372036854775807) ∧ (_)) (l' := [(3, .e (.c (.d (D.lit (.int .u16 g))))), (9, rV 0 0), (12, iV (posV k1 m2 (t % 700))), (13, iV 0), (14, iV (posV k1 m2 ((t % 700) + x))), (15, iV 0), (16, iV ((posV k1 m2 ((t % 700) + x)) - (posV k1 m2 (t % 700)))), (17, iV 0), (18, iV (tmV k1 m2 g)), (19, iV (tmE k1 m2 g))]) (g' := [(0, some (24, .ds [D.sl (dI .i64 k1) m2]))]) (nx' := 1) (by kernel_rfl) ⟨⟨by omega, by omega⟩, (F_TimeOf k1 m2 g (by omega) (by omega))⟩ ?_
    refine AW.seq ?_
    refine AW.rgs [.no, .b false, .no, .no, .b false, .no, .no, .no, .b false, .no, .no, .no, .no, .b false, .no, .no, .no, .no, .w, .no, .b false, .no] [3, 9, 18, 19, 84] [0] (P := (¬ ((0 : Int) ≠ 0)) ∧ (¬ ((0 : Int) ≠ 0)) ∧ (¬ ((0 : Int) ≠ 0)) ∧ (¬ ((posV k1 m2 ((t % 700) + x)) < (posV k1 m2 (t % 700)))) ∧ ((-9223372036854775808) ≤ ((posV k1 m2 ((t % 700) + x)) - (posV k1 m2 (t % 700))) ∧ ((posV k1 m2 ((t % 700) + x)) - (posV k1 m2 (t % 700))) ≤ 9223372036854775807) ∧ (¬ (((posV k1 m2 ((t % 700) + x)) - (posV k1 m2 (t % 700))) ≠ ((posV k1 m2 ((t % 700) + x)) - (posV k1 m2 (t % 700)))))) (l' := [(3, .e (.c (.d (D.lit (.int .u16 g))))), (9, rV 0 0), (18, iV (tmV k1 m2 g)), (19, iV (tmE k1 m2 g)), (84, bV false)]) (g' := [(0, some (24, .ds [D.sl (dI .i64 k1) m2]))]) (nx' := 1) (by kernel_rfl) ⟨(by omega), (by omega), (by omega), (by omega), ⟨by omega, by omega⟩, (by omega)⟩ ?_
    refine AW.cond_f (.tmp (Look.of rfl)) ?_
    refine AW.skip ?_
    refine AW.seq ?_
    by_cases hx9 : ((tmE k1 m2 g) ≠ 0)
    · refine AW.rgs [.no, .b true] [3, 9, 18, 19, 86] [0] (P := (((tmE k1 m2 g) ≠ 0))) (l' := [(3, .e (.c (.d (D.lit (.int .u16 g))))), (9, rV 0 0), (18, iV (tmV k1 m2 g)), (19, iV (tmE k1 m2 g)), (86, bV true)]) (g' := [(0, some (24, .ds [D.sl (dI .i64 k1) m2]))]) (nx' := 1) (by kernel_rfl) (by omega) ?_
      refine AW.cond_t (.tmp (Look.of rfl)) ?_
      refine AW.rgs [.no, .b true, .no] [8] [] (P := (((tmE k1 m2 g) = 13))) (l' := [(8, bV true)]) (g' := []) (nx' := 1) (by kernel_rfl) (by omega) ?_
      refine AW.ret ?_
      exact EndP.of (.inr rfl) [] (P := (true = true)) (by kernel_rfl) rfl
    · refine AW.rgs [.no, .b false] [3, 9, 18, 19, 86] [0] (P := (¬ ((tmE k1 m2 g) ≠ 0))) (l' := [(3, .e (.c (.d (D.lit (.int .u16 g))))), (9, rV 0 0), (18, iV (tmV k1 m2 g)), (19, iV (tmE k1 m2 g)), (86, bV false)]) (g' := [(0, some (24, .ds [D.sl (dI .i64 k1) m2]))]) (nx' := 1) (by kernel_rfl) (by omega) ?_
      refine AW.cond_f (.tmp (Look.of rfl)) ?_
      refine AW.skip ?_
      have hx10 : (((0 : Int) ≤ (posV k1 m2 (tmV k1 m2 g))) ∧ ((posV k1 m2 (tmV k1 m2 g)) ≤ 1125899906842624)) := (pos_in2 (hx2) ((by first | omega | with_reducible assumption | (simp <;> omega) | rfl | assumption)))
      refine AW.rgs [.no, .no, .call [] (.tup [iE (posV k1 m2 (tmV k1 m2 g)), iE 0]) [] 0 [] none, .no, .no, .no, .no, .no] [3, 9, 18, 20, 21] [0] (P := (_)) (l' := [(3, .e (.c (.d (D.lit (.int .u16 g))))), (9, rV 0 0), (18, iV (tmV k1 m2 g)), (20, iV (posV k1 m2 (tmV k1 m2 g))), (21, iV 0)]) (g' := [(0, some (24, .ds [D.sl (dI .i64 k1) m2]))]) (nx' := 1) (by kernel_rfl) (Q_Pop3 k1 m2 (tmV k1 m2 g) (by omega) (by omega) hx2 (by first | omega | with_reducible assumption | (simp <;> omega) | rfl | assumption)) ?_
      refine AW.seq ?_
      refine AW.rgs [.no, .b false, .no, .no, .no, .w, .b false, .no] [3, 9, 18, 102] [0] (P := (¬ ((0 : Int) ≠ 0)) ∧ ((-9223372036854775808) ≤ g ∧ g ≤ 9223372036854775807) ∧ (¬ ((posV k1 m2 (tmV k1 m2 g)) < g))) (l' := [(3, .e (.c (.d (D.lit (.int .u16 g))))), (9, rV 0 0), (18, iV (tmV k1 m2 g)), (102, bV false)]) (g' := [(0, some (24, .ds [D.sl (dI .i64 k1) m2]))]) (nx' := 1) (by kernel_rfl) ⟨(by omega), ⟨by omega, by omega⟩, (by omega)⟩ ?_
      refine AW.cond_f (.tmp (Look.of rfl)) ?_
      refine AW.skip ?_
      refine AW.seq ?_
      by_cases hx11 : ((tmV k1 m2 g) = 0)
      · refine AW.rgs [.no, .b true] [3, 9, 18, 104] [0] (P := (((tmV k1 m2 g) = 0))) (l' := [(3, .e (.c (.d (D.lit (.int .u16 g))))), (9, rV 0 0), (18, iV (tmV k1 m2 g)), (104, bV true)]) (g' := [(0, some (24, .ds [D.sl (dI .i64 k1) m2]))]) (nx' := 1) (by kernel_rfl) (by omega) ?_
        refine AW.cond_t (.tmp (Look.of rfl)) ?_
        refine AW.rgs [.no, .b true, .no] [8] [] (P := ((g = 0))) (l' := [(8, bV true)]) (g' := []) (nx' := 1) (by kernel_rfl) (by omega) ?_
        refine AW.ret ?_
        exact EndP.of (.inr rfl) [] (P := (true = true)) (by kernel_rfl) rfl
      · refine AW.rgs [.no, .b false] [3, 9, 18, 104] [0] (P := (¬ ((tmV k1 m2 g) = 0))) (l' := [(3, .e (.c (.d (D.lit (.int .u16 g))))), (9, rV 0 0), (18, iV (tmV k1 m2 g)), (104, bV false)]) (g' := [(0, some (24, .ds [D.sl (dI .i64 k1) m2]))]) (nx' := 1) (by kernel_rfl) (by omega) ?_
        refine AW.cond_f (.tmp (Look.of rfl)) ?_
        refine AW.skip ?_
        have hx12 : (((0 : Int) ≤ (posV k1 m2 ((tmV k1 m2 g) - 1))) ∧ ((posV k1 m2 ((tmV k1 m2 g) - 1)) ≤ 1125899906842624)) := (pos_in2 (hx2) ((by first | omega | with_reducible assumption | (simp <;> omega) | rfl | assumption)))
        refine AW.rgs [.no, .no, .w, .call [] (.tup [iE (posV k1 m2 ((tmV k1 m2 g) - 1)), iE 0]) [] 0 [] none, .no, .no, .no, .no, .no] [3, 22, 23] [] (P := ((-9223372036854775808) ≤ ((tmV k1 m2 g) - 1) ∧ ((tmV k1 m2 g) - 1) ≤ 9223372036854775807) ∧ (_)) (l' := [(3, .e (.c (.d (D.lit (.int .u16 g))))), (22, iV (posV k1 m2 ((tmV k1 m2 g) - 1))), (23, iV 0)]) (g' := []) (nx' := 1) (by kernel_rfl) ⟨⟨by omega, by omega⟩, (Q_Pop3 k1 m2 ((tmV k1 m2 g) - 1) (by omega) (by omega) hx2 (by first | omega | with_reducible assumption | (simp <;> omega) | rfl | assumption))⟩ ?_
        refine AW.rgs [.no, .b true, .no, .no, .no, .w, .b true, .no, .no] [8] [] (P := (((0 : Int) = 0)) ∧ ((-9223372036854775808) ≤ g ∧ g ≤ 9223372036854775807) ∧ (((posV k1 m2 ((tmV k1 m2 g) - 1)) < g))) (l' := [(8, bV true)]) (g' := []) (nx' := 1) (by kernel_rfl) ⟨(by omega), ⟨by omega, by omega⟩, (by omega)⟩ ?_
        refine AW.ret ?_
        exact EndP.of (.inr rfl) [] (P := (true = true)) (by kernel_rfl) rfl
  · refine AW.rgs [.call [] (bV false) [] 0 [] none, .no] [0, 1, 2, 3, 25] [] (P := (Fun 9 [] (toG []) 0 (bV false) (toG []) 0)) (l' := [(0, sV .u8 sd m), (1, .e (.c (.d (D.lit (.int .u16 t))))), (2, .e (.c (.d (D.lit (.int .u8 x))))), (3, .e (.c (.d (D.lit (.int .u16 g))))), (25, bV true)]) (g' := []) (nx' := 0) (by kernel_rfl) (by have h0 := (L_sane); rw [hx1] at h0; exact h0) ?_
    refine AW.cond_t (.tmp (Look.of rfl)) ?_
    refine AW.rgs [.no] [8] [] (P := True) (l' := [(8, bV false)]) (g' := []) (nx' := 0) (by kernel_rfl) trivial ?_
    refine AW.ret ?_
    exact EndP.of (.inr rfl) [] (P := (true = false)) (by kernel_rfl) (by first | rfl | assumption | exact decide_eq_true (by omega) | exact decide_eq_false (by omega) | (simp; omega))

theorem Sl.max {k : IntKind} {w : World} {a : Option Addr} {len cap : Nat} {l : List Int} (h : Sl k w a len cap l) : List.length l ≤ 9223372036854775807 := by
  obtain ⟨h1, h2, h3, _⟩ := h
  unfold maxLen at h3
  omega

theorem L_Asc_walk {w : World} {t : Int} {x : Int} {g : Int} {xa0 : Option Addr} {xl0 xc0 : Nat} {sd : List Int} (hs0 : Sl .u8 w xa0 xl0 xc0 sd) (hi_t : 0 ≤ t ∧ t ≤ 65535) (hi_x : 0 ≤ x ∧ x ≤ 255) (hi_g : 0 ≤ g ∧ g ≤ 65535) : Calls Try.prog 5 #[.slice xa0 xl0 xc0, .int .u16 t, .int .u8 x, .int .u16 g] w fun e w' => e = .returned (.bool true) ∧ Below w.heap.size w w' :=
  (L_Asc sd (List.length sd) t x g rfl hs0.max (Byt.of fun x hx => bounds_u8 (hs0.wf x hx)) hi_t hi_x hi_g).walk ⟨repE_sl hs0, repE_lit rfl, repE_lit rfl, repE_lit rfl, trivial⟩

end Go.Proofs.Yteggelophhpnfaa
