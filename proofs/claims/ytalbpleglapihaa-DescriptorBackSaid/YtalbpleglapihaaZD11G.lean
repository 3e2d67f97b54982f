/- Descriptors out of seeds, their bytes. No statement is proved here. -/
import Derived.Test.YtalbpleglapihaaZD11F
namespace Go.Proofs.Ytalbpleglapihaa
open Go.ChangeShapes Go.WideShapes Go.ChangeAt Go.RowKit
open List renaming getD → ka0, length → ka1, length_append → ka4, length_cons → kb1, length_drop → kb2, length_nil → kb6, length_replicate → kb4, length_set → kc2, length_take → kb3, replicate → ka6
set_option linter.unusedVariables false
set_option linter.unusedSimpArgs false
/-! chapter 11: the bytes of valid descriptors -/
set_option maxHeartbeats 4000000
set_option maxRecDepth 100000
def DeB (B : List Int) : Prop := ∃ (id : Int) (nm : List Int) (d1 d2 d3 d4 d5 : Int) (bs : List Bx) (n : Nat), DeW id nm d1 d2 d3 d4 d5 bs n ∧ B = sI id nm d1 d2 d3 d4 d5 bs
theorem u5x : yL 4294967295 8 = 771559538 := by
  have h0 : yL 4294967295 0 = 4294967295 := rfl
  have h1 : yL 4294967295 1 = 2454158559 := (b9 h0 (by kernel_rfl)).trans (by kernel_rfl)
  have h2 : yL 4294967295 2 = 2761637199 := (b9 h1 (by kernel_rfl)).trans (by kernel_rfl)
  have h3 : yL 4294967295 3 = 3220512135 := (b9 h2 (by kernel_rfl)).trans (by kernel_rfl)
  have h4 : yL 4294967295 4 = 2990673379 := (b9 h3 (by kernel_rfl)).trans (by kernel_rfl)
  have h5 : yL 4294967295 5 = 3029960145 := (b9 h4 (by kernel_rfl)).trans (by kernel_rfl)
  have h6 : yL 4294967295 6 = 3086238152 := (b9 h5 (by kernel_rfl)).trans (by kernel_rfl)
  have h7 : yL 4294967295 7 = 1543119076 := (cA h6 (by decide)).trans (by kernel_rfl)
  have h8 : yL 4294967295 8 = 771559538 := (cA h7 (by decide)).trans (by kernel_rfl)
  exact h8
theorem u5w : yL 771559538 8 = 3190222080 := by
  have h0 : yL 771559538 0 = 771559538 := rfl
  have h1 : yL 771559538 1 = 385779769 := (cA h0 (by decide)).trans (by kernel_rfl)
  have h2 : yL 771559538 2 = 3871852348 := (b9 h1 (by kernel_rfl)).trans (by kernel_rfl)
  have h3 : yL 771559538 3 = 1935926174 := (cA h2 (by decide)).trans (by kernel_rfl)
  have h4 : yL 771559538 4 = 967963087 := (cA h3 (by decide)).trans (by kernel_rfl)
  have h5 : yL 771559538 5 = 4049632199 := (b9 h4 (by kernel_rfl)).trans (by kernel_rfl)
  have h6 : yL 771559538 6 = 2500378307 := (b9 h5 (by kernel_rfl)).trans (by kernel_rfl)
  have h7 : yL 771559538 7 = 2805783617 := (b9 h6 (by kernel_rfl)).trans (by kernel_rfl)
  have h8 : yL 771559538 8 = 3190222080 := (b9 h7 (by kernel_rfl)).trans (by kernel_rfl)
  exact h8
theorem u5v : yL 3190222080 8 = 12461805 := by
  have h0 : yL 3190222080 0 = 3190222080 := rfl
  have h1 : yL 3190222080 1 = 1595111040 := (cA h0 (by decide)).trans (by kernel_rfl)
  have h2 : yL 3190222080 2 = 797555520 := (cA h1 (by decide)).trans (by kernel_rfl)
  have h3 : yL 3190222080 3 = 398777760 := (cA h2 (by decide)).trans (by kernel_rfl)
  have h4 : yL 3190222080 4 = 199388880 := (cA h3 (by decide)).trans (by kernel_rfl)
  have h5 : yL 3190222080 5 = 99694440 := (cA h4 (by decide)).trans (by kernel_rfl)
  have h6 : yL 3190222080 6 = 49847220 := (cA h5 (by decide)).trans (by kernel_rfl)
  have h7 : yL 3190222080 7 = 24923610 := (cA h6 (by decide)).trans (by kernel_rfl)
  have h8 : yL 3190222080 8 = 12461805 := (cA h7 (by decide)).trans (by kernel_rfl)
  exact h8
theorem u5u : yL 12461805 8 = 3736805603 := by
  have h0 : yL 12461805 0 = 12461805 := rfl
  have h1 : yL 12461805 1 = 3991375958 := (b9 h0 (by kernel_rfl)).trans (by kernel_rfl)
  have h2 : yL 12461805 2 = 1995687979 := (cA h1 (by decide)).trans (by kernel_rfl)
  have h3 : yL 12461805 3 = 3602999093 := (b9 h2 (by kernel_rfl)).trans (by kernel_rfl)
  have h4 : yL 12461805 4 = 2262315194 := (b9 h3 (by kernel_rfl)).trans (by kernel_rfl)
  have h5 : yL 12461805 5 = 1131157597 := (cA h4 (by decide)).trans (by kernel_rfl)
  have h6 : yL 12461805 6 = 3423506190 := (b9 h5 (by kernel_rfl)).trans (by kernel_rfl)
  have h7 : yL 12461805 7 = 1711753095 := (cA h6 (by decide)).trans (by kernel_rfl)
  have h8 : yL 12461805 8 = 3736805603 := (b9 h7 (by kernel_rfl)).trans (by kernel_rfl)
  exact h8
theorem u5b : gG [0, 0, 0, 0] 0 = 4294967295 := rfl
theorem u5a : gG [0, 0, 0, 0] 1 = 771559538 := k12 u5b ((show yL (vM 4294967295 (ka0 [0, 0, 0, 0] 0 0)) 8 = yL 4294967295 8 from congrArg (fun x => yL x 8) (by kernel_rfl)).trans u5x)
theorem u59 : gG [0, 0, 0, 0] 2 = 3190222080 := k12 u5a ((show yL (vM 771559538 (ka0 [0, 0, 0, 0] 1 0)) 8 = yL 771559538 8 from congrArg (fun x => yL x 8) (by kernel_rfl)).trans u5w)
theorem u58 : gG [0, 0, 0, 0] 3 = 12461805 := k12 u59 ((show yL (vM 3190222080 (ka0 [0, 0, 0, 0] 2 0)) 8 = yL 3190222080 8 from congrArg (fun x => yL x 8) (by kernel_rfl)).trans u5v)
theorem u57 : gG [0, 0, 0, 0] 4 = 3736805603 := k12 u58 ((show yL (vM 12461805 (ka0 [0, 0, 0, 0] 3 0)) 8 = yL 12461805 8 from congrArg (fun x => yL x 8) (by kernel_rfl)).trans u5u)
theorem u5c : kY [0, 0, 0, 0] = 558161692 := (k93 (l := [0, 0, 0, 0]) rfl rfl u57).symm.trans (by kernel_rfl)
theorem u5t : yC [] = 4 := u3o rfl (by decide)
theorem u5s : yC [0, 0, 0, 0, 0, 0, 0, 0] = 6 := u0t rfl (by decide) (by
  show ¬ g32 [0, 0, 0, 0, 0, 0, 0, 0] 4 = kY [0, 0, 0, 0]
  rw [u5c]; decide)
theorem sN (id : Int) (nm : List Int) (d1 d2 d3 d4 d5 : Int) (bs : List Bx) (n : Nat) (hD : DeW id nm d1 d2 d3 d4 d5 bs n) : ∃ (B : List Int) (z : Nat), (B = sI id nm d1 d2 d3 d4 d5 bs) ∧ (DeB B) ∧ (Byt B) ∧ (ka1 B = z) ∧ (26 ≤ z ∧ z ≤ 20000) ∧ (Fun 7 [.agg [.d (D.lit (.int .u64 id)), .d (D.lit (.string (strOfNums nm))), iC d1, iC d2, iC d3, iC d4, iC d5, .d (D.sl (qC bs) n)]] (kG []) 0 (.tup [.c (.d (D.sl (dI .u8 (B ++ (pbL (kY B) 4))) (z + 4))), iE 0]) (kG []) 0) := by
  obtain ⟨h1, h2⟩ := hD.r
  have hl := hD.l; have hn := hD.n; have hd := hD.d; have hi := hD.i
  refine ⟨sI id nm d1 d2 d3 d4 d5 bs, ka1 (vF bs) + ka1 nm + 25, rfl, ⟨id, nm, d1, d2, d3, d4, d5, bs, n, hD, rfl⟩, xZ hD.y hl.2, by rw [oK]; omega, by omega, ?_⟩
  exact k53 id nm d1 d2 d3 d4 d5 bs n hD.y hl.2 hn.1 hn.2.2 hD.w h1 (by omega) (by omega) (by omega) hD.vd
theorem k78 (id : Int) (nm : List Int) (d1 d2 d3 d4 d5 : Int) (bs : List Bx) (n : Nat) (hD : DeW id nm d1 d2 d3 d4 d5 bs n) : Fun 14 [.agg [.d (D.lit (.int .u64 id)), .d (D.lit (.string (strOfNums nm))), iC d1, iC d2, iC d3, iC d4, iC d5, .d (D.sl (qC bs) n)]] (kG []) 0 (bV true) (kG []) 0 := by
  have hl := hD.l; have hn := hD.n
  have h := gR id nm d1 d2 d3 d4 d5 bs n hD.y (by omega) hn.1 (by omega) hD.w
  rw [hD.vd] at h
  exact h
abbrev yT (m : Nat) (sd : List Int) := kA (List.take (min m 300) sd) 2
abbrev yI (m : Nat) (sd : List Int) := kA (kA (kA (yT m sd) 256) 3) 4
theorem u15 (sd : List Int) (m : Nat) (hn : ka1 sd = m) (hb : m ≤ 9223372036854775807) (hy : Byt sd) : Fun 8 [.c (.d (D.sl (dI .u8 sd) m))] (kG []) 0 (.e (.agg [.d (D.lit (.int .u64 (((kB (kA (aL m sd) 2) 256) : Nat) : Int))), .d (D.lit (.string (strOfNums (ka0 lM (kB (kA (kA (aL m sd) 2) 256) 3) ([] : List Int))))), iC (1 + (((kB (aL m sd) 2) : Nat) : Int)), iC (((kB (kA (kA (kA (aL m sd) 2) 256) 3) 4) : Nat) : Int), iC (((kB (kA (kA (kA (kA (aL m sd) 2) 256) 3) 4) 200) : Nat) : Int), iC (ka0 ([0, 66, 200, 7] : List Int) (kB (kA (kA (kA (kA (kA (aL m sd) 2) 256) 3) 4) 200) 4) 0), iC (((kB (kA (kA (kA (kA (kA (kA (aL m sd) 2) 256) 3) 4) 200) 4) 4) : Nat) : Int), .d (D.sl (qC (vL (kA (kA (kA (kA (kA (kA (kA (aL m sd) 2) 256) 3) 4) 200) 4) 4))) (ka1 (vL (kA (kA (kA (kA (kA (kA (kA (aL m sd) 2) 256) 3) 4) 200) 4) 4))))])) (kG []) 0 := by
  refine Fun.mk (n := 11) Try.func8 rfl rfl (Nat.le_of_ble_eq_true rfl) ?_
  intro cx hcx
  refine kK [.no] True [(0, sV .u8 sd m), (2, rV 0 0)] [(0, some (31, .ds [D.lit (.int .u64 0), D.lit (.string { data := #[] }), iD 0, iD 0, iD 0, iD 0, iD 0, qI]))] 1 trivial ?_
  refine kK [.no, .call [] (rV 0 0) [(0, some (66, .ds [db (aL m sd) (ka1 (aL m sd))]))] 1 [] none, .no] _ [(2, rV 0 0), (3, rV 1 0)] [(0, some (31, .ds [D.lit (.int .u64 0), D.lit (.string { data := #[] }), iD 0, iD 0, iD 0, iD 0, iD 0, qI])), (1, some (66, .ds [db (aL m sd) (ka1 (aL m sd))]))] 2 (k8v sd m zo zo) ?_
  have hx1 : ((((((kB (aL m sd) 2) : Nat) : Int) < 2) ∨ ((kB (aL m sd) 2) = 0)) ∧ ((kB (aL m sd) 2) ≤ 255)) := kQ (aL m sd) (2 : Int) ((Byt.take (kP : Byt sd) _))
  have hx2 : (Byt (yT m sd)) := kF (2 : Int) ((Byt.take (kP : Byt sd) _))
  refine kK [.no, .no, .call [1] (uV (kB (aL m sd) 2)) [(0, some (66, .ds [db (yT m sd) (ka1 (yT m sd))]))] 1 [] none, .w, .call [1] (.e (.agg [.d (D.lit (.int .u64 (kB (yT m sd) 256 : Int))), .d (D.lit (.string (strOfNums (ka0 lM (kB (kA (yT m sd) 256) 3) ([] : List Int))))), iC (1 + (kB (aL m sd) 2 : Int)), iC (kB (kA (kA (yT m sd) 256) 3) 4 : Int), uC (kB (yI m sd) 200), iC (ka0 ([0, 66, 200, 7] : List Int) (kB (kA (yI m sd) 200) 4) 0), iC (kB (kA (kA (yI m sd) 200) 4) 4 : Int), .d (D.sl (qC (vL (kA (kA (kA (yI m sd) 200) 4) 4))) (ka1 (vL (kA (kA (kA (yI m sd) 200) 4) 4))))])) [(0, some (66, .ds [db (bcD (kA (kA (kA (yI m sd) 200) 4) 4)) (ka1 (bcD (kA (kA (kA (yI m sd) 200) 4) 4)))]))] 1 [] none, .no] ((_) ∧ (qL (1 + (kB (aL m sd) 2 : Int))) ∧ (_)) [(2, rV 0 0)] [(0, some (31, .ds [D.lit (.int .u64 (kB (yT m sd) 256 : Int)), D.lit (.string (strOfNums (ka0 lM (kB (kA (yT m sd) 256) 3) ([] : List Int)))), iD (1 + (kB (aL m sd) 2 : Int)), iD (kB (kA (kA (yT m sd) 256) 3) 4 : Int), uD (kB (yI m sd) 200), iD (ka0 ([0, 66, 200, 7] : List Int) (kB (kA (yI m sd) 200) 4) 0), iD (kB (kA (kA (yI m sd) 200) 4) 4 : Int), D.sl (qC (vL (kA (kA (kA (yI m sd) 200) 4) 4))) (ka1 (vL (kA (kA (kA (yI m sd) 200) 4) 4)))]))] 2 ⟨(qW (aL m sd) 2 (Byt.take (kP : Byt sd) _)), ⟨by omega, by omega⟩, (x7 (yT m sd) (1 + (kB (aL m sd) 2 : Int)) (kP : Byt (yT m sd)))⟩ ?_
  refine AW.ret ?_
  exact kC (.inr rfl) [] (P := (kM (kB (yT m sd) 256 : Int)) ∧ ((.string (strOfNums (ka0 lM (kB (kA (yT m sd) 256) 3) ([] : List Int))) : Value) = .string (strOfNums (ka0 lM (kB (kA (yT m sd) 256) 3) ([] : List Int)))) ∧ (kM (1 + (kB (aL m sd) 2 : Int))) ∧ (kM (kB (kA (kA (yT m sd) 256) 3) 4 : Int)) ∧ (kM (kB (yI m sd) 200 : Int)) ∧ (kM (ka0 ([0, 66, 200, 7] : List Int) (kB (kA (yI m sd) 200) 4) 0)) ∧ (kM (kB (kA (kA (yI m sd) 200) 4) 4 : Int)) ∧ (k8 (qC (vL (kA (kA (kA (yI m sd) 200) 4) 4)))) ∧ (kN (ka1 (vL (kA (kA (kA (yI m sd) 200) 4) 4))))) zk ⟨rfl, rfl, rfl, rfl, rfl, rfl, rfl, rfl, rfl⟩
theorem u0z (sd : List Int) (m : Nat) (hn : ka1 sd = m) (hb : m ≤ 9223372036854775807) (hy : Byt sd) : ∃ (id : Int) (nm : List Int) (d1 : Int) (d2 : Int) (d3 : Int) (d4 : Int) (d5 : Int) (bs : List Bx) (n : Nat), (DeW id nm d1 d2 d3 d4 d5 bs n) ∧ (Fun 8 [.c (.d (D.sl (dI .u8 sd) m))] (kG []) 0 (.e (.agg [.d (D.lit (.int .u64 id)), .d (D.lit (.string (strOfNums nm))), iC d1, iC d2, iC d3, iC d4, iC d5, .d (D.sl (qC bs) n)])) (kG []) 0) := ⟨(((kB (kA (aL m sd) 2) 256) : Nat) : Int), (ka0 lM (kB (kA (kA (aL m sd) 2) 256) 3) ([] : List Int)), (1 + (((kB (aL m sd) 2) : Nat) : Int)), (((kB (kA (kA (kA (aL m sd) 2) 256) 3) 4) : Nat) : Int), (((kB (kA (kA (kA (kA (aL m sd) 2) 256) 3) 4) 200) : Nat) : Int), (ka0 ([0, 66, 200, 7] : List Int) (kB (kA (kA (kA (kA (kA (aL m sd) 2) 256) 3) 4) 200) 4) 0), (((kB (kA (kA (kA (kA (kA (kA (aL m sd) 2) 256) 3) 4) 200) 4) 4) : Nat) : Int), (vL (kA (kA (kA (kA (kA (kA (kA (aL m sd) 2) 256) 3) 4) 200) 4) 4)), (ka1 (vL (kA (kA (kA (kA (kA (kA (kA (aL m sd) 2) 256) 3) 4) 200) 4) 4))), u3b _ _ (kF 2 (hy.take _)) (by have h9 := kQ (aL m sd) 2 (hy.take _); omega), u15 sd m hn hb hy⟩
theorem fA {p : Prop} (h : p := by first | omega | with_reducible assumption | (simp only [kR, kO, pbL_len, qT, qJ, ka4, kb1, kb6, kb3, kb2, kb4, kc2] <;> omega) | rfl | assumption) : p := h
theorem u11   : Fun 6 [] (kG []) 0 (bV true) (kG []) 0 := by
  have h4a : yC ([] : List Int) = 4 := u5t
  have h4b : yC (ka6 8 0) = 6 := u5s
  refine Fun.mk (n := 43) Try.func6 rfl rfl (Nat.le_of_ble_eq_true rfl) ?_
  intro cx hcx
  refine kK [.no] True [] [] 0 trivial ?_
  have hx1 : (((0 : Int) ≤ (yC ([] : List Int))) ∧ ((yC ([] : List Int)) ≤ 6)) := (gM ([] : List Int))
  have hx2 : ((ka1 (vV ([] : List Int))) ≤ 65535) := (gL ((Byt.nil)))
  have hx3 : (BsW (vV ([] : List Int))) := (xV ((Byt.nil)))
  have hx4 : ((ka1 (gB ([] : List Int))) ≤ 64) := (gK ([] : List Int))
  refine kK (.call [] (.tup [.agg [.d (D.lit (.int .u64 (o2 ([] : List Int)))), .d (D.lit (.string (strOfNums (gB ([] : List Int))))), iC (o7 ([] : List Int)), iC (o6 ([] : List Int)), iC (o5 ([] : List Int)), iC (o4 ([] : List Int)), iC (o3 ([] : List Int)), .d (D.sl (qC (vV ([] : List Int))) (ka1 (vV ([] : List Int))))], iE (yC ([] : List Int))]) [] 0 [] none :: kS 6 []) _ [(2, iV (yC ([] : List Int)))] [] 1 (eW ([] : List Int) 0 fA zo (Byt.nil)) ?_
  have hx5 : (((0 : Int) ≤ (yC (ka6 8 0))) ∧ ((yC (ka6 8 0)) ≤ 6)) := (gM (ka6 8 0))
  have hx6 : ((ka1 (vV (ka6 8 0))) ≤ 65535) := (gL ((Byt.rep _ zo)))
  have hx7 : (BsW (vV (ka6 8 0))) := (xV ((Byt.rep _ zo)))
  have hx8 : ((ka1 (gB (ka6 8 0))) ≤ 64) := (gK (ka6 8 0))
  refine kK ((.fz (.mk 8 8 (dI .u8 (ka6 8 0)))) :: .call [] (.tup [.agg [.d (D.lit (.int .u64 (o2 (ka6 8 0)))), .d (D.lit (.string (strOfNums (gB (ka6 8 0))))), iC (o7 (ka6 8 0)), iC (o6 (ka6 8 0)), iC (o5 (ka6 8 0)), iC (o4 (ka6 8 0)), iC (o3 (ka6 8 0)), .d (D.sl (qC (vV (ka6 8 0))) (ka1 (vV (ka6 8 0))))], iE (yC (ka6 8 0))]) [] 0 [] none :: kS 6 []) ((kM 8) ∧ (kM 8) ∧ (8 ≤ 8) ∧ (1 * 8 ≤ 281474976710656) ∧ (ka6 8 (D.lit (.int .u8 0)) = dI .u8 (ka6 8 0)) ∧ (((dI .u8 (ka6 8 0)) : List D).length = 8 * 1) ∧ (_)) [(2, iV (yC ([] : List Int))), (4, iV (yC (ka6 8 0)))] [] 3 ⟨rfl, rfl, zo, zo, (bP _ _ _), (by first | omega | (simp only [kR, kO, pbL_len, qT, qJ, qK, ka4, kb1, kb6, kb3, kb2, kb4, kc2, List.length_map, List.length_reverse, Nat.mul_one] <;> omega) | rfl), (eW (ka6 8 0) 8 fA zo (Byt.rep _ zo))⟩ ?_
  obtain ⟨id1, nm2, d23, d34, d45, d56, bs7, n8, q9, hx9, hx10, hF9⟩ := (k79 ([] : List Int) 1 (Byt.nil) fA)
  refine kK [.call [] (rV 0 0) [(0, some (66, .ds [db ([] : List Int) 0]))] 1 [] none, .call [3] (.e (.agg [.d (D.lit (.int .u64 id1)), .d (D.lit (.string (strOfNums nm2))), iC 1, iC d23, iC d34, iC d45, iC d56, .d (D.sl (qC bs7) n8)])) [(0, some (66, .ds [db q9 (ka1 q9)]))] 1 [] none, .no, .no] ((_) ∧ (_)) [(2, iV (yC ([] : List Int))), (4, iV (yC (ka6 8 0))), (5, rV 4 0)] [(4, some (31, .ds [D.lit (.int .u64 id1), D.lit (.string (strOfNums nm2)), iD 1, iD d23, iD d34, iD d45, iD d56, D.sl (qC bs7) n8]))] 5 ⟨(Fun.cv (k8v ([] : List Int) 0 fA zo) (y' := rV 0 0) (g1' := kG [(0, some (66, .ds [db ([] : List Int) 0]))]) zk zk), hF9⟩ ?_
  obtain ⟨B10, z11, hx11, hx12, hx13, hx14, hx15, hF11⟩ := (sN id1 nm2 1 d23 d34 d45 d56 bs7 n8 fA)
  refine kK (.no :: .call [] (.tup [.c (.d (db (B10 ++ (pbL (kY B10) 4)) (z11 + 4))), iE 0]) [] 0 [] none :: kS 5 []) _ [(2, iV (yC ([] : List Int))), (4, iV (yC (ka6 8 0))), (5, rV 4 0), (6, sV .u8 (B10 ++ (pbL (kY B10) 4)) (z11 + 4)), (7, iV 0)] [(4, some (31, .ds [D.lit (.int .u64 id1), D.lit (.string (strOfNums nm2)), iD 1, iD d23, iD d34, iD d45, iD d56, D.sl (qC bs7) n8]))] 5 hF11 ?_
  refine kK [.no, .b true, .no, .no, .b true, .no, .no, .no, .b true, .no, .no, .no, .no, .b true, .no, .no, .no, .call [] (bV true) [] 0 [] none, .no, .no] ((((yC ([] : List Int)) = 4)) ∧ (((yC (ka6 8 0)) = 6)) ∧ ((kM 0)) ∧ (((20 : Int) < (((z11 + 4) : Nat) : Int))) ∧ (_)) [(0, bV true)] [] 5 ⟨zo, zo, zo, zo, (k78 id1 nm2 1 d23 d34 d45 d56 bs7 n8 fA)⟩ ?_
  refine AW.ret ?_
  exact kC (.inr rfl) [] (P := (true = true)) zk rfl
end Go.Proofs.Ytalbpleglapihaa
