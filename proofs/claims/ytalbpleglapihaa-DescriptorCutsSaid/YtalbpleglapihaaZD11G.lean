/- Descriptors out of seeds, their bytes. No statement is proved here. -/
import Derived.Test.YtalbpleglapihaaZD11F
namespace Go.Proofs.Ytalbpleglapihaa
open Go.ChangeShapes Go.WideShapes Go.ChangeAt Go.RowKit
set_option linter.unusedVariables false
set_option linter.unusedSimpArgs false
/-! chapter 11: the bytes of valid descriptors -/
set_option maxHeartbeats 4000000
set_option maxRecDepth 100000
def DeB (B : List Int) : Prop := ∃ (id : Int) (nm : List Int) (d1 d2 d3 d4 d5 : Int) (bs : List Bx) (n : Nat), DeW id nm d1 d2 d3 d4 d5 bs n ∧ B = sY id nm d1 d2 d3 d4 d5 bs
theorem u46 : yS 4294967295 8 = 771559538 := by
  have h0 : yS 4294967295 0 = 4294967295 := rfl
  have h1 : yS 4294967295 1 = 2454158559 := (aT h0 (by kernel_rfl)).trans (by kernel_rfl)
  have h2 : yS 4294967295 2 = 2761637199 := (aT h1 (by kernel_rfl)).trans (by kernel_rfl)
  have h3 : yS 4294967295 3 = 3220512135 := (aT h2 (by kernel_rfl)).trans (by kernel_rfl)
  have h4 : yS 4294967295 4 = 2990673379 := (aT h3 (by kernel_rfl)).trans (by kernel_rfl)
  have h5 : yS 4294967295 5 = 3029960145 := (aT h4 (by kernel_rfl)).trans (by kernel_rfl)
  have h6 : yS 4294967295 6 = 3086238152 := (aT h5 (by kernel_rfl)).trans (by kernel_rfl)
  have h7 : yS 4294967295 7 = 1543119076 := (aU h6 (by decide)).trans (by kernel_rfl)
  have h8 : yS 4294967295 8 = 771559538 := (aU h7 (by decide)).trans (by kernel_rfl)
  exact h8
theorem u45 : yS 771559538 8 = 3190222080 := by
  have h0 : yS 771559538 0 = 771559538 := rfl
  have h1 : yS 771559538 1 = 385779769 := (aU h0 (by decide)).trans (by kernel_rfl)
  have h2 : yS 771559538 2 = 3871852348 := (aT h1 (by kernel_rfl)).trans (by kernel_rfl)
  have h3 : yS 771559538 3 = 1935926174 := (aU h2 (by decide)).trans (by kernel_rfl)
  have h4 : yS 771559538 4 = 967963087 := (aU h3 (by decide)).trans (by kernel_rfl)
  have h5 : yS 771559538 5 = 4049632199 := (aT h4 (by kernel_rfl)).trans (by kernel_rfl)
  have h6 : yS 771559538 6 = 2500378307 := (aT h5 (by kernel_rfl)).trans (by kernel_rfl)
  have h7 : yS 771559538 7 = 2805783617 := (aT h6 (by kernel_rfl)).trans (by kernel_rfl)
  have h8 : yS 771559538 8 = 3190222080 := (aT h7 (by kernel_rfl)).trans (by kernel_rfl)
  exact h8
theorem u44 : yS 3190222080 8 = 12461805 := by
  have h0 : yS 3190222080 0 = 3190222080 := rfl
  have h1 : yS 3190222080 1 = 1595111040 := (aU h0 (by decide)).trans (by kernel_rfl)
  have h2 : yS 3190222080 2 = 797555520 := (aU h1 (by decide)).trans (by kernel_rfl)
  have h3 : yS 3190222080 3 = 398777760 := (aU h2 (by decide)).trans (by kernel_rfl)
  have h4 : yS 3190222080 4 = 199388880 := (aU h3 (by decide)).trans (by kernel_rfl)
  have h5 : yS 3190222080 5 = 99694440 := (aU h4 (by decide)).trans (by kernel_rfl)
  have h6 : yS 3190222080 6 = 49847220 := (aU h5 (by decide)).trans (by kernel_rfl)
  have h7 : yS 3190222080 7 = 24923610 := (aU h6 (by decide)).trans (by kernel_rfl)
  have h8 : yS 3190222080 8 = 12461805 := (aU h7 (by decide)).trans (by kernel_rfl)
  exact h8
theorem u43 : yS 12461805 8 = 3736805603 := by
  have h0 : yS 12461805 0 = 12461805 := rfl
  have h1 : yS 12461805 1 = 3991375958 := (aT h0 (by kernel_rfl)).trans (by kernel_rfl)
  have h2 : yS 12461805 2 = 1995687979 := (aU h1 (by decide)).trans (by kernel_rfl)
  have h3 : yS 12461805 3 = 3602999093 := (aT h2 (by kernel_rfl)).trans (by kernel_rfl)
  have h4 : yS 12461805 4 = 2262315194 := (aT h3 (by kernel_rfl)).trans (by kernel_rfl)
  have h5 : yS 12461805 5 = 1131157597 := (aU h4 (by decide)).trans (by kernel_rfl)
  have h6 : yS 12461805 6 = 3423506190 := (aT h5 (by kernel_rfl)).trans (by kernel_rfl)
  have h7 : yS 12461805 7 = 1711753095 := (aU h6 (by decide)).trans (by kernel_rfl)
  have h8 : yS 12461805 8 = 3736805603 := (aT h7 (by kernel_rfl)).trans (by kernel_rfl)
  exact h8
theorem u3l : rB [0, 0, 0, 0] 0 = 4294967295 := rfl
theorem u3k : rB [0, 0, 0, 0] 1 = 771559538 := w5 u3l ((show yS (yX 4294967295 (List.getD [0, 0, 0, 0] 0 0)) 8 = yS 4294967295 8 from congrArg (fun x => yS x 8) (by kernel_rfl)).trans u46)
theorem u3j : rB [0, 0, 0, 0] 2 = 3190222080 := w5 u3k ((show yS (yX 771559538 (List.getD [0, 0, 0, 0] 1 0)) 8 = yS 771559538 8 from congrArg (fun x => yS x 8) (by kernel_rfl)).trans u45)
theorem u3i : rB [0, 0, 0, 0] 3 = 12461805 := w5 u3j ((show yS (yX 3190222080 (List.getD [0, 0, 0, 0] 2 0)) 8 = yS 3190222080 8 from congrArg (fun x => yS x 8) (by kernel_rfl)).trans u44)
theorem u3h : rB [0, 0, 0, 0] 4 = 3736805603 := w5 u3i ((show yS (yX 12461805 (List.getD [0, 0, 0, 0] 3 0)) 8 = yS 12461805 8 from congrArg (fun x => yS x 8) (by kernel_rfl)).trans u43)
theorem u3m : qG [0, 0, 0, 0] = 558161692 := (zT (l := [0, 0, 0, 0]) rfl rfl u3h).symm.trans (by kernel_rfl)
theorem u42 : u4 [] = 4 := k5j rfl (by decide)
theorem u41 : u4 [0, 0, 0, 0, 0, 0, 0, 0] = 6 := k93 rfl (by decide) (by
  show ¬ g32 [0, 0, 0, 0, 0, 0, 0, 0] 4 = qG [0, 0, 0, 0]
  rw [u3m]; decide)
theorem pX (id : Int) (nm : List Int) (d1 d2 d3 d4 d5 : Int) (bs : List Bx) (n : Nat) (hD : DeW id nm d1 d2 d3 d4 d5 bs n) : ∃ (B : List Int) (z : Nat), (B = sY id nm d1 d2 d3 d4 d5 bs) ∧ (DeB B) ∧ (Byt B) ∧ (List.length B = z) ∧ (26 ≤ z ∧ z ≤ 20000) ∧ (Fun 7 [.agg [.d (D.lit (.int .u64 id)), .d (D.lit (.string (strOfNums nm))), iC d1, iC d2, iC d3, iC d4, iC d5, .d (D.sl (qH bs) n)]] (kG []) 0 (.tup [.c (.d (D.sl (dI .u8 (B ++ (pbL (qG B) 4))) (z + 4))), iE 0]) (kG []) 0) := by
  obtain ⟨h1, h2⟩ := hD.r
  have hl := hD.l; have hn := hD.n; have hd := hD.d; have hi := hD.i
  refine ⟨sY id nm d1 d2 d3 d4 d5 bs, List.length (vA bs) + List.length nm + 25, rfl, ⟨id, nm, d1, d2, d3, d4, d5, bs, n, hD, rfl⟩, k5p hD.y hl.2, by rw [m6]; omega, by omega, ?_⟩
  exact k3n id nm d1 d2 d3 d4 d5 bs n hD.y hl.2 hn.1 hn.2.2 hD.w h1 (by omega) (by omega) (by omega) hD.vd
theorem k5r (id : Int) (nm : List Int) (d1 d2 d3 d4 d5 : Int) (bs : List Bx) (n : Nat) (hD : DeW id nm d1 d2 d3 d4 d5 bs n) : Fun 14 [.agg [.d (D.lit (.int .u64 id)), .d (D.lit (.string (strOfNums nm))), iC d1, iC d2, iC d3, iC d4, iC d5, .d (D.sl (qH bs) n)]] (kG []) 0 (bV true) (kG []) 0 := by
  have hl := hD.l; have hn := hD.n
  have h := fZ id nm d1 d2 d3 d4 d5 bs n hD.y (by omega) hn.1 (by omega) hD.w
  rw [hD.vd] at h
  exact h
theorem sZ (l : List Int) (m : Nat) (n : Int) (hm : List.length l = m) (hb : m ≤ 1000000) (hn : 0 ≤ n ∧ n ≤ 4294967295) : Fun 43 [.c (.d (D.sl (dI .u8 l) m)), .c (.d (D.lit (.int .u32 n)))] (kG []) 0 (sV .u8 (l ++ (pbL n 4)) (m + 4)) (kG []) 1 := (Fun.frz (y := oV 0 0 (m + 4) 1) (g1 := [(0, some (5, .ds (dI .u8 (l ++ (pbL n 4)))))]) (y' := sV .u8 (l ++ (pbL n 4)) (m + 4)) (g1' := []) (ds := (dI .u8 (l ++ (pbL n 4)))) 0 (W_rPut32 l m n hm hb hn) rfl FzG.nil (.e (.c (FzC.wh ((by simp only [List.length_append, pbL_len]; omega))))))
theorem cS {p : Prop} (h : p := by first | omega | with_reducible assumption | (simp only [kR, kQ, pbL_len, uB, qQ, List.length_append, List.length_cons, List.length_nil, List.length_take, List.length_drop, List.length_replicate, List.length_set] <;> omega) | rfl | assumption) : p := h
theorem k3m (l : List Int) (m : Nat) (hm : List.length l = m) (hb : m ≤ 900000) (hy : Byt l) : Fun 25 [.c (.d (D.sl (dI .u8 l) m))] (kG []) 0 (sV .u8 (l ++ (pbL (qG l) 4)) (m + 4)) (kG []) 0 := by
  refine Fun.mk (n := 7) Try.func25 rfl rfl (Nat.le_of_ble_eq_true rfl) ?_
  intro cx hcx
  refine kK [.no] True [(0, sV .u8 l m)] [] 0 trivial ?_
  have hx1 : (((0 : Int) ≤ (qG l)) ∧ ((qG l) ≤ 4294967295)) := fM _
  refine kK [.no, .no, .call [] (kP (D.lit (.int .u32 (qG l)))) [] 0 [] none, .call [] (sV .u8 (l ++ (pbL (qG l) 4)) (m + 4)) [] 1 [] none, .no] ((_) ∧ (_)) [(2, sV .u8 (l ++ (pbL (qG l) 4)) (m + 4))] [] 1 ⟨(k9e l m zo zo (kS : Byt l)), (sZ l m (qG l) zo zo cS)⟩ ?_
  refine AW.ret ?_
  exact kC (.inr rfl) [] (P := (k8 (dI .u8 (l ++ (pbL (qG l) 4)))) ∧ (kM (m + 4))) zk ⟨rfl, rfl⟩
theorem k3k (l : List Int) (m : Nat) (hm : List.length l = m) (hb : m ≤ 900000) (hy : Byt l) : Fun 10 [.c (.d (D.sl (dI .u8 l) m))] (kG []) 0 (sV .u8 (l ++ (pbL (qG l) 4)) (m + 4)) (kG []) 0 := by
  refine Fun.mk (n := 5) Try.func10 rfl rfl (Nat.le_of_ble_eq_true rfl) ?_
  intro cx hcx
  refine kK [.no] True [(0, sV .u8 l m)] [] 0 trivial ?_
  refine kX [.no, .call [] (sV .u8 (l ++ (pbL (qG l) 4)) (m + 4)) [] 0 [] none, .no] _ [(2, sV .u8 (l ++ (pbL (qG l) 4)) (m + 4))] (k3m l m zo zo (kS : Byt l)) ?_
  refine AW.ret ?_
  exact kC (.inr rfl) [] (P := (k8 (dI .u8 (l ++ (pbL (qG l) 4)))) ∧ (kM (m + 4))) zk ⟨rfl, rfl⟩
abbrev yP (m : Nat) (sd : List Int) := kA (List.take (min m 300) sd) 2
abbrev yH (m : Nat) (sd : List Int) := kA (kA (kA (yP m sd) 256) 3) 4
theorem k9g (sd : List Int) (m : Nat) (hn : List.length sd = m) (hb : m ≤ 9223372036854775807) (hy : Byt sd) : Fun 8 [.c (.d (D.sl (dI .u8 sd) m))] (kG []) 0 (.e (.agg [.d (D.lit (.int .u64 (((kB (kA (aD m sd) 2) 256) : Nat) : Int))), .d (D.lit (.string (strOfNums (List.getD jM (kB (kA (kA (aD m sd) 2) 256) 3) ([] : List Int))))), iC (1 + (((kB (aD m sd) 2) : Nat) : Int)), iC (((kB (kA (kA (kA (aD m sd) 2) 256) 3) 4) : Nat) : Int), iC (((kB (kA (kA (kA (kA (aD m sd) 2) 256) 3) 4) 200) : Nat) : Int), iC (List.getD ([0, 66, 200, 7] : List Int) (kB (kA (kA (kA (kA (kA (aD m sd) 2) 256) 3) 4) 200) 4) 0), iC (((kB (kA (kA (kA (kA (kA (kA (aD m sd) 2) 256) 3) 4) 200) 4) 4) : Nat) : Int), .d (D.sl (qH (vG (kA (kA (kA (kA (kA (kA (kA (aD m sd) 2) 256) 3) 4) 200) 4) 4))) (List.length (vG (kA (kA (kA (kA (kA (kA (kA (aD m sd) 2) 256) 3) 4) 200) 4) 4))))])) (kG []) 0 := by
  refine Fun.mk (n := 11) Try.func8 rfl rfl (Nat.le_of_ble_eq_true rfl) ?_
  intro cx hcx
  refine kK [.no] True [(0, sV .u8 sd m), (2, rV 0 0)] [(0, some (31, .ds [D.lit (.int .u64 0), D.lit (.string { data := #[] }), iD 0, iD 0, iD 0, iD 0, iD 0, qI]))] 1 trivial ?_
  refine kK [.no, .call [] (rV 0 0) [(0, some (66, .ds [db (aD m sd) (List.length (aD m sd))]))] 1 [] none, .no] _ [(2, rV 0 0), (3, rV 1 0)] [(0, some (31, .ds [D.lit (.int .u64 0), D.lit (.string { data := #[] }), iD 0, iD 0, iD 0, iD 0, iD 0, qI])), (1, some (66, .ds [db (aD m sd) (List.length (aD m sd))]))] 2 (k79 sd m zo zo) ?_
  have hx1 : ((((((kB (aD m sd) 2) : Nat) : Int) < 2) ∨ ((kB (aD m sd) 2) = 0)) ∧ ((kB (aD m sd) 2) ≤ 255)) := kO (aD m sd) (2 : Int) ((Byt.take (kS : Byt sd) _))
  have hx2 : (Byt (yP m sd)) := kF (2 : Int) ((Byt.take (kS : Byt sd) _))
  refine kK [.no, .no, .call [1] (uV (kB (aD m sd) 2)) [(0, some (66, .ds [db (yP m sd) (List.length (yP m sd))]))] 1 [] none, .w, .call [1] (.e (.agg [.d (D.lit (.int .u64 (kB (yP m sd) 256 : Int))), .d (D.lit (.string (strOfNums (List.getD jM (kB (kA (yP m sd) 256) 3) ([] : List Int))))), iC (1 + (kB (aD m sd) 2 : Int)), iC (kB (kA (kA (yP m sd) 256) 3) 4 : Int), uC (kB (yH m sd) 200), iC (List.getD ([0, 66, 200, 7] : List Int) (kB (kA (yH m sd) 200) 4) 0), iC (kB (kA (kA (yH m sd) 200) 4) 4 : Int), .d (D.sl (qH (vG (kA (kA (kA (yH m sd) 200) 4) 4))) (List.length (vG (kA (kA (kA (yH m sd) 200) 4) 4))))])) [(0, some (66, .ds [db (bcD (kA (kA (kA (yH m sd) 200) 4) 4)) (List.length (bcD (kA (kA (kA (yH m sd) 200) 4) 4)))]))] 1 [] none, .no] ((_) ∧ (qM (1 + (kB (aD m sd) 2 : Int))) ∧ (_)) [(2, rV 0 0)] [(0, some (31, .ds [D.lit (.int .u64 (kB (yP m sd) 256 : Int)), D.lit (.string (strOfNums (List.getD jM (kB (kA (yP m sd) 256) 3) ([] : List Int)))), iD (1 + (kB (aD m sd) 2 : Int)), iD (kB (kA (kA (yP m sd) 256) 3) 4 : Int), uD (kB (yH m sd) 200), iD (List.getD ([0, 66, 200, 7] : List Int) (kB (kA (yH m sd) 200) 4) 0), iD (kB (kA (kA (yH m sd) 200) 4) 4 : Int), D.sl (qH (vG (kA (kA (kA (yH m sd) 200) 4) 4))) (List.length (vG (kA (kA (kA (yH m sd) 200) 4) 4)))]))] 2 ⟨(qW (aD m sd) 2 (Byt.take (kS : Byt sd) _)), ⟨by omega, by omega⟩, (wU (yP m sd) (1 + (kB (aD m sd) 2 : Int)) (kS : Byt (yP m sd)))⟩ ?_
  refine AW.ret ?_
  exact kC (.inr rfl) [] (P := (kN (kB (yP m sd) 256 : Int)) ∧ ((.string (strOfNums (List.getD jM (kB (kA (yP m sd) 256) 3) ([] : List Int))) : Value) = .string (strOfNums (List.getD jM (kB (kA (yP m sd) 256) 3) ([] : List Int)))) ∧ (kN (1 + (kB (aD m sd) 2 : Int))) ∧ (kN (kB (kA (kA (yP m sd) 256) 3) 4 : Int)) ∧ (kN (kB (yH m sd) 200 : Int)) ∧ (kN (List.getD ([0, 66, 200, 7] : List Int) (kB (kA (yH m sd) 200) 4) 0)) ∧ (kN (kB (kA (kA (yH m sd) 200) 4) 4 : Int)) ∧ (k8 (qH (vG (kA (kA (kA (yH m sd) 200) 4) 4)))) ∧ (kM (List.length (vG (kA (kA (kA (yH m sd) 200) 4) 4))))) zk ⟨rfl, rfl, rfl, rfl, rfl, rfl, rfl, rfl, rfl⟩
theorem k99 (sd : List Int) (m : Nat) (hn : List.length sd = m) (hb : m ≤ 9223372036854775807) (hy : Byt sd) : ∃ (id : Int) (nm : List Int) (d1 : Int) (d2 : Int) (d3 : Int) (d4 : Int) (d5 : Int) (bs : List Bx) (n : Nat), (DeW id nm d1 d2 d3 d4 d5 bs n) ∧ (Fun 8 [.c (.d (D.sl (dI .u8 sd) m))] (kG []) 0 (.e (.agg [.d (D.lit (.int .u64 id)), .d (D.lit (.string (strOfNums nm))), iC d1, iC d2, iC d3, iC d4, iC d5, .d (D.sl (qH bs) n)])) (kG []) 0) := ⟨(((kB (kA (aD m sd) 2) 256) : Nat) : Int), (List.getD jM (kB (kA (kA (aD m sd) 2) 256) 3) ([] : List Int)), (1 + (((kB (aD m sd) 2) : Nat) : Int)), (((kB (kA (kA (kA (aD m sd) 2) 256) 3) 4) : Nat) : Int), (((kB (kA (kA (kA (kA (aD m sd) 2) 256) 3) 4) 200) : Nat) : Int), (List.getD ([0, 66, 200, 7] : List Int) (kB (kA (kA (kA (kA (kA (aD m sd) 2) 256) 3) 4) 200) 4) 0), (((kB (kA (kA (kA (kA (kA (kA (aD m sd) 2) 256) 3) 4) 200) 4) 4) : Nat) : Int), (vG (kA (kA (kA (kA (kA (kA (kA (aD m sd) 2) 256) 3) 4) 200) 4) 4)), (List.length (vG (kA (kA (kA (kA (kA (kA (kA (aD m sd) 2) 256) 3) 4) 200) 4) 4))), u1g _ _ (kF 2 (hy.take _)) (by have h9 := kO (aD m sd) 2 (hy.take _); omega), k9g sd m hn hb hy⟩
theorem k9b   : Fun 6 [] (kG []) 0 (bV true) (kG []) 0 := by
  have h4a : u4 ([] : List Int) = 4 := u42
  have h4b : u4 (List.replicate 8 0) = 6 := u41
  refine Fun.mk (n := 43) Try.func6 rfl rfl (Nat.le_of_ble_eq_true rfl) ?_
  intro cx hcx
  refine kK [.no] True [] [] 0 trivial ?_
  have hx1 : (((0 : Int) ≤ (u4 ([] : List Int))) ∧ ((u4 ([] : List Int)) ≤ 6)) := (fU ([] : List Int))
  have hx2 : ((List.length (vL ([] : List Int))) ≤ 65535) := (fT ((Byt.nil)))
  have hx3 : (BsW (vL ([] : List Int))) := (wL ((Byt.nil)))
  have hx4 : ((List.length (cN ([] : List Int))) ≤ 64) := (fS ([] : List Int))
  refine kK (.call [] (.tup [.agg [.d (D.lit (.int .u64 (nN ([] : List Int)))), .d (D.lit (.string (strOfNums (cN ([] : List Int))))), iC (nS ([] : List Int)), iC (nR ([] : List Int)), iC (nQ ([] : List Int)), iC (nP ([] : List Int)), iC (nO ([] : List Int)), .d (D.sl (qH (vL ([] : List Int))) (List.length (vL ([] : List Int))))], iE (u4 ([] : List Int))]) [] 0 [] none :: kU 6 []) _ [(2, iV (u4 ([] : List Int)))] [] 1 (d8 ([] : List Int) 0 cS zo (Byt.nil)) ?_
  have hx5 : (((0 : Int) ≤ (u4 (List.replicate 8 0))) ∧ ((u4 (List.replicate 8 0)) ≤ 6)) := (fU (List.replicate 8 0))
  have hx6 : ((List.length (vL (List.replicate 8 0))) ≤ 65535) := (fT ((Byt.rep _ zo)))
  have hx7 : (BsW (vL (List.replicate 8 0))) := (wL ((Byt.rep _ zo)))
  have hx8 : ((List.length (cN (List.replicate 8 0))) ≤ 64) := (fS (List.replicate 8 0))
  refine kK ((.fz (.mk 8 8 (dI .u8 (List.replicate 8 0)))) :: .call [] (.tup [.agg [.d (D.lit (.int .u64 (nN (List.replicate 8 0)))), .d (D.lit (.string (strOfNums (cN (List.replicate 8 0))))), iC (nS (List.replicate 8 0)), iC (nR (List.replicate 8 0)), iC (nQ (List.replicate 8 0)), iC (nP (List.replicate 8 0)), iC (nO (List.replicate 8 0)), .d (D.sl (qH (vL (List.replicate 8 0))) (List.length (vL (List.replicate 8 0))))], iE (u4 (List.replicate 8 0))]) [] 0 [] none :: kU 6 []) ((kN 8) ∧ (kN 8) ∧ (8 ≤ 8) ∧ (1 * 8 ≤ 281474976710656) ∧ (List.replicate 8 (D.lit (.int .u8 0)) = dI .u8 (List.replicate 8 0)) ∧ (((dI .u8 (List.replicate 8 0)) : List D).length = 8 * 1) ∧ (_)) [(2, iV (u4 ([] : List Int))), (4, iV (u4 (List.replicate 8 0)))] [] 3 ⟨rfl, rfl, zo, zo, (aG _ _ _), (by first | omega | (simp only [kR, kQ, pbL_len, uB, qQ, qL, List.length_append, List.length_cons, List.length_nil, List.length_take, List.length_drop, List.length_replicate, List.length_set, List.length_map, List.length_reverse, Nat.mul_one] <;> omega) | rfl), (d8 (List.replicate 8 0) 8 cS zo (Byt.rep _ zo))⟩ ?_
  obtain ⟨id1, nm2, d23, d34, d45, d56, bs7, n8, q9, hx9, hx10, hF9⟩ := (k5s ([] : List Int) 1 (Byt.nil) cS)
  refine kK [.call [] (rV 0 0) [(0, some (66, .ds [db ([] : List Int) 0]))] 1 [] none, .call [3] (.e (.agg [.d (D.lit (.int .u64 id1)), .d (D.lit (.string (strOfNums nm2))), iC 1, iC d23, iC d34, iC d45, iC d56, .d (D.sl (qH bs7) n8)])) [(0, some (66, .ds [db q9 (List.length q9)]))] 1 [] none, .no, .no] ((_) ∧ (_)) [(2, iV (u4 ([] : List Int))), (4, iV (u4 (List.replicate 8 0))), (5, rV 4 0)] [(4, some (31, .ds [D.lit (.int .u64 id1), D.lit (.string (strOfNums nm2)), iD 1, iD d23, iD d34, iD d45, iD d56, D.sl (qH bs7) n8]))] 5 ⟨(Fun.cv (k79 ([] : List Int) 0 cS zo) (y' := rV 0 0) (g1' := kG [(0, some (66, .ds [db ([] : List Int) 0]))]) zk zk), hF9⟩ ?_
  obtain ⟨B10, z11, hx11, hx12, hx13, hx14, hx15, hF11⟩ := (pX id1 nm2 1 d23 d34 d45 d56 bs7 n8 cS)
  refine kK (.no :: .call [] (.tup [.c (.d (db (B10 ++ (pbL (qG B10) 4)) (z11 + 4))), iE 0]) [] 0 [] none :: kU 5 []) _ [(2, iV (u4 ([] : List Int))), (4, iV (u4 (List.replicate 8 0))), (5, rV 4 0), (6, sV .u8 (B10 ++ (pbL (qG B10) 4)) (z11 + 4)), (7, iV 0)] [(4, some (31, .ds [D.lit (.int .u64 id1), D.lit (.string (strOfNums nm2)), iD 1, iD d23, iD d34, iD d45, iD d56, D.sl (qH bs7) n8]))] 5 hF11 ?_
  refine kK [.no, .b true, .no, .no, .b true, .no, .no, .no, .b true, .no, .no, .no, .no, .b true, .no, .no, .no, .call [] (bV true) [] 0 [] none, .no, .no] ((((u4 ([] : List Int)) = 4)) ∧ (((u4 (List.replicate 8 0)) = 6)) ∧ ((kN 0)) ∧ (((20 : Int) < (((z11 + 4) : Nat) : Int))) ∧ (_)) [(0, bV true)] [] 5 ⟨zo, zo, zo, zo, (k5r id1 nm2 1 d23 d34 d45 d56 bs7 n8 cS)⟩ ?_
  refine AW.ret ?_
  exact kC (.inr rfl) [] (P := (true = true)) zk rfl
end Go.Proofs.Ytalbpleglapihaa
