/- Laws of rings. No statement is proved here. -/
import Derived.Test.YtnmenoocpbdekaaLW17n
import Derived.Test.YtnmenoocpbdekaaLW17v
import Derived.Test.YtnmenoocpbdekaaAmD
namespace Go.Proofs.Ytnmenoocpbdekaa
open Go.ChangeShapes Go.WideShapes Go.ChangeAt Go.RowKit
set_option linter.unusedVariables false
set_option linter.unusedSimpArgs false

set_option maxHeartbeats 4000000 in
set_option maxRecDepth 100000 in
theorem G_RM_e (c cp wr rd : Int) (l : List Int) (n : Nat) (c2 : Int) (m : List Int) (p : Nat) (sd : List Int) (sn : Nat) (q nc ncp : Int) (hn : List.length l = n) (hp : List.length m = p) (hs : List.length sd = sn) (hb : n ≤ 9223372036854775807) (hb2 : p ≤ 9223372036854775807) (hb3 : sn ≤ 9223372036854775807) (hy : Byt sd) (hqq : -9223372036854775808 ≤ q ∧ q ≤ 9223372036854775807) (he : 300 < n ∨ 300 < p ∨ (500 < q ∧ q ≤ 65536)) : Fun 6 [.agg [iC c, iC cp, iC wr, iC rd, .d (D.sl (dI .i32 l) n)], .agg [iC c2, .d (D.sl (dI .i32 m) p)], .c (.d (D.sl (dI .u8 sd) sn)), iE q, iE nc, iE ncp] (toG []) 0 (.e (.c (.d (D.lit (.bool true))))) (toG []) 0 := by
  refine Fun.mk (n := 213) Try.func6 rfl rfl (Nat.le_of_ble_eq_true rfl) ?_
  intro cx hcx
  refine AW.rgs [.no, .no, .no] [2, 3, 4, 5, 6, 7] [0, 1] (P := True) (l' := [(2, .e (.c (.d (D.sl (dI .u8 sd) sn)))), (3, iV q), (4, iV nc), (5, iV ncp), (6, rV 0 0), (7, rV 1 0)]) (g' := [(0, some (61, .ds [iD c, iD cp, iD wr, iD rd, D.sl (dI .i32 l) n])), (1, some (26, .ds [iD c2, D.sl (dI .i32 m) p]))]) (nx' := 2) (by kernel_rfl) trivial ?_
  refine AW.seq ?_
  refine AW.rgs [.call [] (.e (.c (.d (D.lit (.bool true))))) [] 0 [] none, .no] [2, 3, 4, 5, 6, 7, 43] [0, 1] (P := (_)) (l' := [(2, .e (.c (.d (D.sl (dI .u8 sd) sn)))), (3, iV q), (4, iV nc), (5, iV ncp), (6, rV 0 0), (7, rV 1 0), (43, .e (.c (.d (D.lit (.bool false)))))]) (g' := [(0, some (61, .ds [iD c, iD cp, iD wr, iD rd, D.sl (dI .i32 l) n])), (1, some (26, .ds [iD c2, D.sl (dI .i32 m) p]))]) (nx' := 2) (by kernel_rfl) (G_sane17) ?_
  refine AW.cond_f (.tmp (Look.of rfl)) ?_
  refine AW.skip ?_
  refine AW.seq ?_
  by_cases hx1 : ((300 : Int) < ((n : Nat) : Int))
  · refine AW.rgs [.no, .no, .no, .b true, .no, .no, .no, .no] [2, 3, 4, 5, 6, 7, 60] [0, 1] (P := (((300 : Int) < ((n : Nat) : Int)))) (l' := [(2, .e (.c (.d (D.sl (dI .u8 sd) sn)))), (3, iV q), (4, iV nc), (5, iV ncp), (6, rV 0 0), (7, rV 1 0), (60, .e (.c (.d (D.lit (.bool true)))))]) (g' := [(0, some (61, .ds [iD c, iD cp, iD wr, iD rd, D.sl (dI .i32 l) n])), (1, some (26, .ds [iD c2, D.sl (dI .i32 m) p]))]) (nx' := 2) (by kernel_rfl) (by omega) ?_
    refine AW.cond_t (.tmp (Look.of rfl)) ?_
    refine AW.rgs [.no] [12] [] (P := True) (l' := [(12, .e (.c (.d (D.lit (.bool true)))))]) (g' := []) (nx' := 2) (by kernel_rfl) trivial ?_
    refine AW.ret ?_
    exact EndP.of (.inr rfl) [] (P := (true = true)) (by kernel_rfl) rfl
  · rcases Bool.eq_false_or_eq_true (decide ((p : Int) ≤ 300)) with hx2 | hx2
    · have hx3 : (((p : Nat) : Int) ≤ 300) := of_decide_eq_true hx2
      refine AW.rgs [.no, .no, .no, .b false, .no, .no, .call [] (.e (.c (.d (D.lit (.bool true))))) [] 0 [] none, .no, .no, .no, .no, .b true, .no, .no, .b true, .no, .no] [2, 3, 4, 5, 6, 7, 60] [0, 1] (P := (¬ ((300 : Int) < ((n : Nat) : Int))) ∧ (Fun 19 [.agg [iC c2, .d (D.sl (dI .i32 m) p)], iE 300] (toG []) 0 (.e (.c (.d (D.lit (.bool true))))) (toG []) 0) ∧ (((500 : Int) < q)) ∧ ((q ≤ 65536))) (l' := [(2, .e (.c (.d (D.sl (dI .u8 sd) sn)))), (3, iV q), (4, iV nc), (5, iV ncp), (6, rV 0 0), (7, rV 1 0), (60, .e (.c (.d (D.lit (.bool true)))))]) (g' := [(0, some (61, .ds [iD c, iD cp, iD wr, iD rd, D.sl (dI .i32 l) n])), (1, some (26, .ds [iD c2, D.sl (dI .i32 m) p]))]) (nx' := 2) (by kernel_rfl) ⟨(by omega), (by have h0 := (G_keepBlock c2 m p 300 (by omega)); rw [hx2] at h0; exact h0), (by omega), (by omega)⟩ ?_
      refine AW.cond_t (.tmp (Look.of rfl)) ?_
      refine AW.rgs [.no] [12] [] (P := True) (l' := [(12, .e (.c (.d (D.lit (.bool true)))))]) (g' := []) (nx' := 2) (by kernel_rfl) trivial ?_
      refine AW.ret ?_
      exact EndP.of (.inr rfl) [] (P := (true = true)) (by kernel_rfl) rfl
    · have hx4 : ¬ (((p : Nat) : Int) ≤ 300) := of_decide_eq_false hx2
      refine AW.rgs [.no, .no, .no, .b false, .no, .no, .call [] (.e (.c (.d (D.lit (.bool false))))) [] 0 [] none, .no, .no, .no, .no] [2, 3, 4, 5, 6, 7, 60] [0, 1] (P := (¬ ((300 : Int) < ((n : Nat) : Int))) ∧ (Fun 19 [.agg [iC c2, .d (D.sl (dI .i32 m) p)], iE 300] (toG []) 0 (.e (.c (.d (D.lit (.bool false))))) (toG []) 0)) (l' := [(2, .e (.c (.d (D.sl (dI .u8 sd) sn)))), (3, iV q), (4, iV nc), (5, iV ncp), (6, rV 0 0), (7, rV 1 0), (60, .e (.c (.d (D.lit (.bool true)))))]) (g' := [(0, some (61, .ds [iD c, iD cp, iD wr, iD rd, D.sl (dI .i32 l) n])), (1, some (26, .ds [iD c2, D.sl (dI .i32 m) p]))]) (nx' := 2) (by kernel_rfl) ⟨(by omega), (by have h0 := (G_keepBlock c2 m p 300 (by omega)); rw [hx2] at h0; exact h0)⟩ ?_
      refine AW.cond_t (.tmp (Look.of rfl)) ?_
      refine AW.rgs [.no] [12] [] (P := True) (l' := [(12, .e (.c (.d (D.lit (.bool true)))))]) (g' := []) (nx' := 2) (by kernel_rfl) trivial ?_
      refine AW.ret ?_
      exact EndP.of (.inr rfl) [] (P := (true = true)) (by kernel_rfl) rfl

theorem G_RingMoves (c cp wr rd : Int) (l : List Int) (n : Nat) (c2 : Int) (m : List Int) (p : Nat) (sd : List Int) (sn : Nat) (q nc ncp : Int) (hn : List.length l = n) (hp : List.length m = p) (hs : List.length sd = sn) (hb : n ≤ 9223372036854775807) (hb2 : p ≤ 9223372036854775807) (hb3 : sn ≤ 9223372036854775807) (hy : Byt sd) (hqq : -9223372036854775808 ≤ q ∧ q ≤ 9223372036854775807) : Fun 6 [.agg [iC c, iC cp, iC wr, iC rd, .d (D.sl (dI .i32 l) n)], .agg [iC c2, .d (D.sl (dI .i32 m) p)], .c (.d (D.sl (dI .u8 sd) sn)), iE q, iE nc, iE ncp] (toG []) 0 (.e (.c (.d (D.lit (.bool true))))) (toG []) 0 := by
  by_cases he : 300 < n ∨ 300 < p ∨ (500 < q ∧ q ≤ 65536)
  · exact G_RM_e c cp wr rd l n c2 m p sd sn q nc ncp hn hp hs hb hb2 hb3 hy hqq he
  cases hr : ringB c cp wr rd l with
  | false => exact G_RM_n c cp wr rd l n c2 m p sd sn q nc ncp hn hp hs (by omega) (by omega) hb3 hy hr hqq (by omega)
  | true =>
    obtain ⟨ch, cap, f, rfl, rfl, rfl, hrv⟩ := RV.of hr
    exact G_RM_v ch cap f rd l n c2 m p sd sn q nc ncp hn hp hs (by omega) (by omega) hb3 hy hrv hqq (by omega)

theorem Sl.max {k : IntKind} {w : World} {a : Option Addr} {len cap : Nat} {l : List Int} (h : Sl k w a len cap l) : List.length l ≤ 9223372036854775807 := by
  obtain ⟨h1, h2, h3, _⟩ := h
  unfold maxLen at h3
  omega

theorem ringMoves_walk {w : World} {c : Int} {cp : Int} {wr : Int} {rd : Int} {c2 : Int} {q : Int} {nc : Int} {ncp : Int} {xa0 : Option Addr} {xl0 xc0 : Nat} {l : List Int} (hs0 : Sl .i32 w xa0 xl0 xc0 l) {xa1 : Option Addr} {xl1 xc1 : Nat} {m : List Int} (hs1 : Sl .i32 w xa1 xl1 xc1 m) {xa2 : Option Addr} {xl2 xc2 : Nat} {sd : List Int} (hs2 : Sl .u8 w xa2 xl2 xc2 sd) (hi_q : -9223372036854775808 ≤ q ∧ q ≤ 9223372036854775807) : Calls Try.prog 6 #[.agg #[.int .i64 c, .int .i64 cp, .int .i64 wr, .int .i64 rd, .slice xa0 xl0 xc0], .agg #[.int .i64 c2, .slice xa1 xl1 xc1], .slice xa2 xl2 xc2, .int .i64 q, .int .i64 nc, .int .i64 ncp] w fun e w' => e = .returned (.bool true) ∧ Below w.heap.size w w' :=
  (G_RingMoves c cp wr rd l (List.length l) c2 m (List.length m) sd (List.length sd) q nc ncp rfl rfl rfl hs0.max hs1.max hs2.max (Byt.of fun x hx => bounds_u8 (hs2.wf x hx)) hi_q).walk ⟨⟨[.int .i64 c, .int .i64 cp, .int .i64 wr, .int .i64 rd, .slice xa0 xl0 xc0], rfl, repE_lit rfl, repE_lit rfl, repE_lit rfl, repE_lit rfl, repE_sl hs0, trivial⟩, ⟨[.int .i64 c2, .slice xa1 xl1 xc1], rfl, repE_lit rfl, repE_sl hs1, trivial⟩, repE_sl hs2, repE_lit rfl, repE_lit rfl, repE_lit rfl, trivial⟩

end Go.Proofs.Ytnmenoocpbdekaa
