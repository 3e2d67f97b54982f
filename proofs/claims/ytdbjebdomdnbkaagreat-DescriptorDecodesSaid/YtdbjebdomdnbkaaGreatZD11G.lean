/- Descriptors out of seeds, their bytes. No statement is proved here. -/
import Derived.Test.YtdbjebdomdnbkaaGreatZD11F
namespace Go.Proofs.YtdbjebdomdnbkaaGreat
open Go.ChangeShapes Go.WideShapes Go.ChangeAt Go.RowKit
open List renaming getD → ka0, length → ka1, length_append → ka4, length_cons → kb3, length_drop → kb9, length_nil → kb6, length_replicate → kb8, length_set → kc4, length_take → kb4, replicate → ka7
open Nat renaming le_of_ble_eq_true → ka3
set_option linter.unusedVariables false
set_option linter.unusedSimpArgs false
/-! chapter 11: the bytes of valid descriptors -/
set_option maxHeartbeats 4000000
set_option maxRecDepth 100000
def DeB (B : List Int) : Prop := ∃ (id : Int) (nm : List Int) (d1 d2 d3 d4 d5 : Int) (bs : List Bx) (n : Nat), DeW id nm d1 d2 d3 d4 d5 bs n ∧ B = l8 id nm d1 d2 d3 d4 d5 bs
theorem u94 : vK 4294967295 8 = 771559538 := by
  have h0 : vK 4294967295 0 = 4294967295 := rfl
  have h1 : vK 4294967295 1 = 2454158559 := (dJ h0 (by kernel_rfl)).trans (by kernel_rfl)
  have h2 : vK 4294967295 2 = 2761637199 := (dJ h1 (by kernel_rfl)).trans (by kernel_rfl)
  have h3 : vK 4294967295 3 = 3220512135 := (dJ h2 (by kernel_rfl)).trans (by kernel_rfl)
  have h4 : vK 4294967295 4 = 2990673379 := (dJ h3 (by kernel_rfl)).trans (by kernel_rfl)
  have h5 : vK 4294967295 5 = 3029960145 := (dJ h4 (by kernel_rfl)).trans (by kernel_rfl)
  have h6 : vK 4294967295 6 = 3086238152 := (dJ h5 (by kernel_rfl)).trans (by kernel_rfl)
  have h7 : vK 4294967295 7 = 1543119076 := (dK h6 (by decide)).trans (by kernel_rfl)
  have h8 : vK 4294967295 8 = 771559538 := (dK h7 (by decide)).trans (by kernel_rfl)
  exact h8
theorem u93 : vK 771559538 8 = 3190222080 := by
  have h0 : vK 771559538 0 = 771559538 := rfl
  have h1 : vK 771559538 1 = 385779769 := (dK h0 (by decide)).trans (by kernel_rfl)
  have h2 : vK 771559538 2 = 3871852348 := (dJ h1 (by kernel_rfl)).trans (by kernel_rfl)
  have h3 : vK 771559538 3 = 1935926174 := (dK h2 (by decide)).trans (by kernel_rfl)
  have h4 : vK 771559538 4 = 967963087 := (dK h3 (by decide)).trans (by kernel_rfl)
  have h5 : vK 771559538 5 = 4049632199 := (dJ h4 (by kernel_rfl)).trans (by kernel_rfl)
  have h6 : vK 771559538 6 = 2500378307 := (dJ h5 (by kernel_rfl)).trans (by kernel_rfl)
  have h7 : vK 771559538 7 = 2805783617 := (dJ h6 (by kernel_rfl)).trans (by kernel_rfl)
  have h8 : vK 771559538 8 = 3190222080 := (dJ h7 (by kernel_rfl)).trans (by kernel_rfl)
  exact h8
theorem u92 : vK 3190222080 8 = 12461805 := by
  have h0 : vK 3190222080 0 = 3190222080 := rfl
  have h1 : vK 3190222080 1 = 1595111040 := (dK h0 (by decide)).trans (by kernel_rfl)
  have h2 : vK 3190222080 2 = 797555520 := (dK h1 (by decide)).trans (by kernel_rfl)
  have h3 : vK 3190222080 3 = 398777760 := (dK h2 (by decide)).trans (by kernel_rfl)
  have h4 : vK 3190222080 4 = 199388880 := (dK h3 (by decide)).trans (by kernel_rfl)
  have h5 : vK 3190222080 5 = 99694440 := (dK h4 (by decide)).trans (by kernel_rfl)
  have h6 : vK 3190222080 6 = 49847220 := (dK h5 (by decide)).trans (by kernel_rfl)
  have h7 : vK 3190222080 7 = 24923610 := (dK h6 (by decide)).trans (by kernel_rfl)
  have h8 : vK 3190222080 8 = 12461805 := (dK h7 (by decide)).trans (by kernel_rfl)
  exact h8
theorem u91 : vK 12461805 8 = 3736805603 := by
  have h0 : vK 12461805 0 = 12461805 := rfl
  have h1 : vK 12461805 1 = 3991375958 := (dJ h0 (by kernel_rfl)).trans (by kernel_rfl)
  have h2 : vK 12461805 2 = 1995687979 := (dK h1 (by decide)).trans (by kernel_rfl)
  have h3 : vK 12461805 3 = 3602999093 := (dJ h2 (by kernel_rfl)).trans (by kernel_rfl)
  have h4 : vK 12461805 4 = 2262315194 := (dJ h3 (by kernel_rfl)).trans (by kernel_rfl)
  have h5 : vK 12461805 5 = 1131157597 := (dK h4 (by decide)).trans (by kernel_rfl)
  have h6 : vK 12461805 6 = 3423506190 := (dJ h5 (by kernel_rfl)).trans (by kernel_rfl)
  have h7 : vK 12461805 7 = 1711753095 := (dK h6 (by decide)).trans (by kernel_rfl)
  have h8 : vK 12461805 8 = 3736805603 := (dJ h7 (by kernel_rfl)).trans (by kernel_rfl)
  exact h8
theorem u80 : wB [0, 0, 0, 0] 0 = 4294967295 := rfl
theorem u7z : wB [0, 0, 0, 0] 1 = 771559538 := k0v u80 ((show vK (vR 4294967295 (ka0 [0, 0, 0, 0] 0 0)) 8 = vK 4294967295 8 from congrArg (fun x => vK x 8) (by kernel_rfl)).trans u94)
theorem u7y : wB [0, 0, 0, 0] 2 = 3190222080 := k0v u7z ((show vK (vR 771559538 (ka0 [0, 0, 0, 0] 1 0)) 8 = vK 771559538 8 from congrArg (fun x => vK x 8) (by kernel_rfl)).trans u93)
theorem u7x : wB [0, 0, 0, 0] 3 = 12461805 := k0v u7y ((show vK (vR 3190222080 (ka0 [0, 0, 0, 0] 2 0)) 8 = vK 3190222080 8 from congrArg (fun x => vK x 8) (by kernel_rfl)).trans u92)
theorem u7w : wB [0, 0, 0, 0] 4 = 3736805603 := k0v u7x ((show vK (vR 12461805 (ka0 [0, 0, 0, 0] 3 0)) 8 = vK 12461805 8 from congrArg (fun x => vK x 8) (by kernel_rfl)).trans u91)
theorem u81 : kI [0, 0, 0, 0] = 558161692 := (u1u (l := [0, 0, 0, 0]) rfl rfl u7w).symm.trans (by kernel_rfl)
theorem u90 : qR [] = 4 := u3j rfl (by decide)
theorem u8z : qR [0, 0, 0, 0, 0, 0, 0, 0] = 6 := u3k rfl (by decide) (by
  show ¬ g32 [0, 0, 0, 0, 0, 0, 0, 0] 4 = kI [0, 0, 0, 0]
  rw [u81]; decide)
theorem k6m (id : Int) (nm : List Int) (d1 d2 d3 d4 d5 : Int) (bs : List Bx) (n : Nat) (hD : DeW id nm d1 d2 d3 d4 d5 bs n) : ∃ (B : List Int) (z : Nat), (B = l8 id nm d1 d2 d3 d4 d5 bs) ∧ (DeB B) ∧ (Byt B) ∧ (ka1 B = z) ∧ (26 ≤ z ∧ z ≤ 20000) ∧ (Fun 13 [.agg [.d (D.lit (.int .u64 id)), .d (D.lit (.string (strOfNums nm))), iC d1, iC d2, iC d3, iC d4, iC d5, .d (D.sl (kX bs) n)]] (kD []) 0 (.tup [.c (.d (D.sl (dI .u8 (B ++ (pbL (kI B) 4))) (z + 4))), iE 0]) (kD []) 0) := by
  obtain ⟨h1, h2⟩ := hD.r
  have hl := hD.l; have hn := hD.n; have hd := hD.d; have hi := hD.i
  refine ⟨l8 id nm d1 d2 d3 d4 d5 bs, ka1 (vW bs) + ka1 nm + 25, rfl, ⟨id, nm, d1, d2, d3, d4, d5, bs, n, hD, rfl⟩, rA hD.y hl.2, by rw [gB]; omega, by omega, ?_⟩
  exact k70 id nm d1 d2 d3 d4 d5 bs n hD.y hl.2 hn.1 hn.2.2 hD.w h1 (by omega) (by omega) (by omega) hD.vd
theorem k9d (id : Int) (nm : List Int) (d1 d2 d3 d4 d5 : Int) (bs : List Bx) (n : Nat) (hD : DeW id nm d1 d2 d3 d4 d5 bs n) : Fun 14 [.agg [.d (D.lit (.int .u64 id)), .d (D.lit (.string (strOfNums nm))), iC d1, iC d2, iC d3, iC d4, iC d5, .d (D.sl (kX bs) n)]] (kD []) 0 (bV true) (kD []) 0 := by
  have hl := hD.l; have hn := hD.n
  have h := jE id nm d1 d2 d3 d4 d5 bs n hD.y (by omega) hn.1 (by omega) hD.w
  rw [hD.vd] at h
  exact h
theorem bM (l : List Int) (m : Nat) (n : Int) (hm : ka1 l = m) (hb : m ≤ 1000000) (hn : 0 ≤ n ∧ n ≤ 4294967295) : Fun 19 [.c (.d (D.sl (dI .u8 l) m)), .c (.d (D.lit (.int .u32 n)))] (kD []) 0 (sV .u8 (l ++ (pbL n 4)) (m + 4)) (kD []) 1 := (Fun.frz (y := oV 0 0 (m + 4) 1) (g1 := [(0, some (5, .ds (dI .u8 (l ++ (pbL n 4)))))]) (y' := sV .u8 (l ++ (pbL n 4)) (m + 4)) (g1' := []) (ds := (dI .u8 (l ++ (pbL n 4)))) 0 (W_rPut32 l m n hm hb hn) rfl FzG.nil (.e (.c (FzC.wh ((by simp only [ka4, pbL_len]; omega))))))
theorem k6z (l : List Int) (m : Nat) (hm : ka1 l = m) (hb : m ≤ 900000) (hy : Byt l) : Fun 23 [.c (.d (D.sl (dI .u8 l) m))] (kD []) 0 (sV .u8 (l ++ (pbL (kI l) 4)) (m + 4)) (kD []) 0 := by
  refine Fun.mk (n := 7) Tryz.func23 rfl rfl (ka3 rfl) ?_
  intro cx hcx
  refine kG [.no] True [(0, sV .u8 l m)] [] 0 trivial ?_
  have hx1 : (((0 : Int) ≤ (kI l)) ∧ ((kI l) ≤ 4294967295)) := cY _
  refine kG [.no, .no, .call [] (kP (D.lit (.int .u32 (kI l)))) [] 0 [] none, .call [] (sV .u8 (l ++ (pbL (kI l) 4)) (m + 4)) [] 1 [] none, .no] ((_) ∧ (_)) [(2, sV .u8 (l ++ (pbL (kI l) 4)) (m + 4))] [] 1 ⟨(rK l m zo zo (kL : Byt l)), (bM l m (kI l) zo zo zo)⟩ ?_
  refine AW.ret ?_
  exact kB (.inr rfl) [] (P := (kY (dI .u8 (l ++ (pbL (kI l) 4)))) ∧ (kQ (m + 4))) zk ⟨rfl, rfl⟩
theorem gL (l : List Int) (m : Nat) (hm : ka1 l = m) (hb : m ≤ 900000) (hy : Byt l) : Fun 7 [.c (.d (D.sl (dI .u8 l) m))] (kD []) 0 (sV .u8 (l ++ (pbL (kI l) 4)) (m + 4)) (kD []) 0 := by
  refine Fun.mk (n := 5) Tryz.func7 rfl rfl (ka3 rfl) ?_
  intro cx hcx
  refine kG [.no] True [(0, sV .u8 l m)] [] 0 trivial ?_
  refine kV [.no, .call [] (sV .u8 (l ++ (pbL (kI l) 4)) (m + 4)) [] 0 [] none, .no] _ [(2, sV .u8 (l ++ (pbL (kI l) 4)) (m + 4))] (k6z l m zo zo (kL : Byt l)) ?_
  refine AW.ret ?_
  exact kB (.inr rfl) [] (P := (kY (dI .u8 (l ++ (pbL (kI l) 4)))) ∧ (kQ (m + 4))) zk ⟨rfl, rfl⟩
abbrev vG (m : Nat) (sd : List Int) := kA (List.take (min m 300) sd) 2
abbrev y3 (m : Nat) (sd : List Int) := kA (kA (kA (vG m sd) 256) 3) 4
theorem u3x (sd : List Int) (m : Nat) (hn : ka1 sd = m) (hb : m ≤ 9223372036854775807) (hy : Byt sd) : Fun 6 [.c (.d (D.sl (dI .u8 sd) m))] (kD []) 0 (.e (.agg [.d (D.lit (.int .u64 (((kC (kA (cB m sd) 2) 256) : Nat) : Int))), .d (D.lit (.string (strOfNums (ka0 nA (kC (kA (kA (cB m sd) 2) 256) 3) ([] : List Int))))), iC (1 + (((kC (cB m sd) 2) : Nat) : Int)), iC (((kC (kA (kA (kA (cB m sd) 2) 256) 3) 4) : Nat) : Int), iC (((kC (kA (kA (kA (kA (cB m sd) 2) 256) 3) 4) 200) : Nat) : Int), iC (ka0 ([0, 66, 200, 7] : List Int) (kC (kA (kA (kA (kA (kA (cB m sd) 2) 256) 3) 4) 200) 4) 0), iC (((kC (kA (kA (kA (kA (kA (kA (cB m sd) 2) 256) 3) 4) 200) 4) 4) : Nat) : Int), .d (D.sl (kX (aY (kA (kA (kA (kA (kA (kA (kA (cB m sd) 2) 256) 3) 4) 200) 4) 4))) (ka1 (aY (kA (kA (kA (kA (kA (kA (kA (cB m sd) 2) 256) 3) 4) 200) 4) 4))))])) (kD []) 0 := by
  refine Fun.mk (n := 11) Tryz.func6 rfl rfl (ka3 rfl) ?_
  intro cx hcx
  refine kG [.no] True [(0, sV .u8 sd m), (2, rV 0 0)] [(0, some (31, .ds [D.lit (.int .u64 0), D.lit (.string { data := #[] }), iD 0, iD 0, iD 0, iD 0, iD 0, k9]))] 1 trivial ?_
  refine kG [.no, .call [] (rV 0 0) [(0, some (78, .ds [db (cB m sd) (ka1 (cB m sd))]))] 1 [] none, .no] _ [(2, rV 0 0), (3, rV 1 0)] [(0, some (31, .ds [D.lit (.int .u64 0), D.lit (.string { data := #[] }), iD 0, iD 0, iD 0, iD 0, iD 0, k9])), (1, some (78, .ds [db (cB m sd) (ka1 (cB m sd))]))] 2 (u1d sd m zo zo) ?_
  have hx1 : ((((((kC (cB m sd) 2) : Nat) : Int) < 2) ∨ ((kC (cB m sd) 2) = 0)) ∧ ((kC (cB m sd) 2) ≤ 255)) := kZ (cB m sd) (2 : Int) ((Byt.take (kL : Byt sd) _))
  have hx2 : (Byt (vG m sd)) := kH (2 : Int) ((Byt.take (kL : Byt sd) _))
  refine kG [.no, .no, .call [1] (uV (kC (cB m sd) 2)) [(0, some (78, .ds [db (vG m sd) (ka1 (vG m sd))]))] 1 [] none, .w, .call [1] (.e (.agg [.d (D.lit (.int .u64 (kC (vG m sd) 256 : Int))), .d (D.lit (.string (strOfNums (ka0 nA (kC (kA (vG m sd) 256) 3) ([] : List Int))))), iC (1 + (kC (cB m sd) 2 : Int)), iC (kC (kA (kA (vG m sd) 256) 3) 4 : Int), uC (kC (y3 m sd) 200), iC (ka0 ([0, 66, 200, 7] : List Int) (kC (kA (y3 m sd) 200) 4) 0), iC (kC (kA (kA (y3 m sd) 200) 4) 4 : Int), .d (D.sl (kX (aY (kA (kA (kA (y3 m sd) 200) 4) 4))) (ka1 (aY (kA (kA (kA (y3 m sd) 200) 4) 4))))])) [(0, some (78, .ds [db (bcD (kA (kA (kA (y3 m sd) 200) 4) 4)) (ka1 (bcD (kA (kA (kA (y3 m sd) 200) 4) 4)))]))] 1 [] none, .no] ((_) ∧ (qB (1 + (kC (cB m sd) 2 : Int))) ∧ (_)) [(2, rV 0 0)] [(0, some (31, .ds [D.lit (.int .u64 (kC (vG m sd) 256 : Int)), D.lit (.string (strOfNums (ka0 nA (kC (kA (vG m sd) 256) 3) ([] : List Int)))), iD (1 + (kC (cB m sd) 2 : Int)), iD (kC (kA (kA (vG m sd) 256) 3) 4 : Int), uD (kC (y3 m sd) 200), iD (ka0 ([0, 66, 200, 7] : List Int) (kC (kA (y3 m sd) 200) 4) 0), iD (kC (kA (kA (y3 m sd) 200) 4) 4 : Int), D.sl (kX (aY (kA (kA (kA (y3 m sd) 200) 4) 4))) (ka1 (aY (kA (kA (kA (y3 m sd) 200) 4) 4)))]))] 2 ⟨(uL (cB m sd) 2 (Byt.take (kL : Byt sd) _)), ⟨by omega, by omega⟩, (k0o (vG m sd) (1 + (kC (cB m sd) 2 : Int)) (kL : Byt (vG m sd)))⟩ ?_
  refine AW.ret ?_
  exact kB (.inr rfl) [] (P := (kM (kC (vG m sd) 256 : Int)) ∧ ((.string (strOfNums (ka0 nA (kC (kA (vG m sd) 256) 3) ([] : List Int))) : Value) = .string (strOfNums (ka0 nA (kC (kA (vG m sd) 256) 3) ([] : List Int)))) ∧ (kM (1 + (kC (cB m sd) 2 : Int))) ∧ (kM (kC (kA (kA (vG m sd) 256) 3) 4 : Int)) ∧ (kM (kC (y3 m sd) 200 : Int)) ∧ (kM (ka0 ([0, 66, 200, 7] : List Int) (kC (kA (y3 m sd) 200) 4) 0)) ∧ (kM (kC (kA (kA (y3 m sd) 200) 4) 4 : Int)) ∧ (kY (kX (aY (kA (kA (kA (y3 m sd) 200) 4) 4)))) ∧ (kQ (ka1 (aY (kA (kA (kA (y3 m sd) 200) 4) 4))))) zk ⟨rfl, rfl, rfl, rfl, rfl, rfl, rfl, rfl, rfl⟩
theorem u3r (sd : List Int) (m : Nat) (hn : ka1 sd = m) (hb : m ≤ 9223372036854775807) (hy : Byt sd) : ∃ (id : Int) (nm : List Int) (d1 : Int) (d2 : Int) (d3 : Int) (d4 : Int) (d5 : Int) (bs : List Bx) (n : Nat), (DeW id nm d1 d2 d3 d4 d5 bs n) ∧ (Fun 6 [.c (.d (D.sl (dI .u8 sd) m))] (kD []) 0 (.e (.agg [.d (D.lit (.int .u64 id)), .d (D.lit (.string (strOfNums nm))), iC d1, iC d2, iC d3, iC d4, iC d5, .d (D.sl (kX bs) n)])) (kD []) 0) := ⟨(((kC (kA (cB m sd) 2) 256) : Nat) : Int), (ka0 nA (kC (kA (kA (cB m sd) 2) 256) 3) ([] : List Int)), (1 + (((kC (cB m sd) 2) : Nat) : Int)), (((kC (kA (kA (kA (cB m sd) 2) 256) 3) 4) : Nat) : Int), (((kC (kA (kA (kA (kA (cB m sd) 2) 256) 3) 4) 200) : Nat) : Int), (ka0 ([0, 66, 200, 7] : List Int) (kC (kA (kA (kA (kA (kA (cB m sd) 2) 256) 3) 4) 200) 4) 0), (((kC (kA (kA (kA (kA (kA (kA (cB m sd) 2) 256) 3) 4) 200) 4) 4) : Nat) : Int), (aY (kA (kA (kA (kA (kA (kA (kA (cB m sd) 2) 256) 3) 4) 200) 4) 4)), (ka1 (aY (kA (kA (kA (kA (kA (kA (kA (cB m sd) 2) 256) 3) 4) 200) 4) 4))), u67 _ _ (kH 2 (hy.take _)) (by have h9 := kZ (cB m sd) 2 (hy.take _); omega), u3x sd m hn hb hy⟩
theorem wJ {p : Prop} (h : p := by (simp only [qA, k8, pbL_len, qP, qI, ka4, kb3, kb6, kb4, kb9, kb8, kc4] <;> omega)) : p := h
theorem u3t   : Fun 4 [] (kD []) 0 (bV true) (kD []) 0 := by
  have h4a : qR ([] : List Int) = 4 := u90
  have h4b : qR (ka7 8 0) = 6 := u8z
  refine Fun.mk (n := 43) Tryz.func4 rfl rfl (ka3 rfl) ?_
  intro cx hcx
  refine kG [.no] True [] [] 0 trivial ?_
  have hx1 : (((0 : Int) ≤ (qR ([] : List Int))) ∧ ((qR ([] : List Int)) ≤ 6)) := (vQ ([] : List Int))
  have hx2 : ((ka1 (qK ([] : List Int))) ≤ 65535) := (vP ((Byt.nil)))
  have hx3 : (BsW (qK ([] : List Int))) := (dG ((Byt.nil)))
  have hx4 : ((ka1 (uX ([] : List Int))) ≤ 64) := (vO ([] : List Int))
  refine kG (.call [] (.tup [.agg [.d (D.lit (.int .u64 (yK ([] : List Int)))), .d (D.lit (.string (strOfNums (uX ([] : List Int))))), iC (yP ([] : List Int)), iC (yO ([] : List Int)), iC (yN ([] : List Int)), iC (yM ([] : List Int)), iC (yL ([] : List Int)), .d (D.sl (kX (qK ([] : List Int))) (ka1 (qK ([] : List Int))))], iE (qR ([] : List Int))]) [] 0 [] none :: kJ 6 []) _ [(2, iV (qR ([] : List Int)))] [] 1 (yU ([] : List Int) 0 wJ zo (Byt.nil)) ?_
  have hx5 : (((0 : Int) ≤ (qR (ka7 8 0))) ∧ ((qR (ka7 8 0)) ≤ 6)) := (vQ (ka7 8 0))
  have hx6 : ((ka1 (qK (ka7 8 0))) ≤ 65535) := (vP ((Byt.rep _ zo)))
  have hx7 : (BsW (qK (ka7 8 0))) := (dG ((Byt.rep _ zo)))
  have hx8 : ((ka1 (uX (ka7 8 0))) ≤ 64) := (vO (ka7 8 0))
  refine kG ((.fz (.mk 8 8 (dI .u8 (ka7 8 0)))) :: .call [] (.tup [.agg [.d (D.lit (.int .u64 (yK (ka7 8 0)))), .d (D.lit (.string (strOfNums (uX (ka7 8 0))))), iC (yP (ka7 8 0)), iC (yO (ka7 8 0)), iC (yN (ka7 8 0)), iC (yM (ka7 8 0)), iC (yL (ka7 8 0)), .d (D.sl (kX (qK (ka7 8 0))) (ka1 (qK (ka7 8 0))))], iE (qR (ka7 8 0))]) [] 0 [] none :: kJ 6 []) ((kM 8) ∧ (kM 8) ∧ (8 ≤ 8) ∧ (1 * 8 ≤ 281474976710656) ∧ (ka7 8 (D.lit (.int .u8 0)) = dI .u8 (ka7 8 0)) ∧ (((dI .u8 (ka7 8 0)) : List D).length = 8 * 1) ∧ (_)) [(2, iV (qR ([] : List Int))), (4, iV (qR (ka7 8 0)))] [] 3 ⟨rfl, rfl, zo, zo, (lQ _ _ _), (by (simp only [qA, k8, pbL_len, qP, qI, uF, ka4, kb3, kb6, kb4, kb9, kb8, kc4, List.length_map, List.length_reverse, Nat.mul_one] <;> omega)), (yU (ka7 8 0) 8 wJ zo (Byt.rep _ zo))⟩ ?_
  obtain ⟨id1, nm2, d23, d34, d45, d56, bs7, n8, q9, hx9, hx10, hF9⟩ := (k9e ([] : List Int) 1 (Byt.nil) zo)
  refine kG [.call [] (rV 0 0) [(0, some (78, .ds [db ([] : List Int) 0]))] 1 [] none, .call [3] (.e (.agg [.d (D.lit (.int .u64 id1)), .d (D.lit (.string (strOfNums nm2))), iC 1, iC d23, iC d34, iC d45, iC d56, .d (D.sl (kX bs7) n8)])) [(0, some (78, .ds [db q9 (ka1 q9)]))] 1 [] none, .no, .no] ((_) ∧ (_)) [(2, iV (qR ([] : List Int))), (4, iV (qR (ka7 8 0))), (5, rV 4 0)] [(4, some (31, .ds [D.lit (.int .u64 id1), D.lit (.string (strOfNums nm2)), iD 1, iD d23, iD d34, iD d45, iD d56, D.sl (kX bs7) n8]))] 5 ⟨(Fun.cv (u1d ([] : List Int) 0 wJ zo) (y' := rV 0 0) (g1' := kD [(0, some (78, .ds [db ([] : List Int) 0]))]) zk zk), hF9⟩ ?_
  obtain ⟨B10, z11, hx11, hx12, hx13, hx14, hx15, hF11⟩ := (k6m id1 nm2 1 d23 d34 d45 d56 bs7 n8 zo)
  refine kG (.no :: .call [] (.tup [.c (.d (db (B10 ++ (pbL (kI B10) 4)) (z11 + 4))), iE 0]) [] 0 [] none :: kJ 5 []) _ [(2, iV (qR ([] : List Int))), (4, iV (qR (ka7 8 0))), (5, rV 4 0), (6, sV .u8 (B10 ++ (pbL (kI B10) 4)) (z11 + 4)), (7, iV 0)] [(4, some (31, .ds [D.lit (.int .u64 id1), D.lit (.string (strOfNums nm2)), iD 1, iD d23, iD d34, iD d45, iD d56, D.sl (kX bs7) n8]))] 5 hF11 ?_
  refine kG [.no, .b true, .no, .no, .b true, .no, .no, .no, .b true, .no, .no, .no, .no, .b true, .no, .no, .no, .call [] (bV true) [] 0 [] none, .no, .no] ((((qR ([] : List Int)) = 4)) ∧ (((qR (ka7 8 0)) = 6)) ∧ ((kM 0)) ∧ (((20 : Int) < (((z11 + 4) : Nat) : Int))) ∧ (_)) [(0, bV true)] [] 5 ⟨zo, zo, zo, zo, (k9d id1 nm2 1 d23 d34 d45 d56 bs7 n8 zo)⟩ ?_
  refine AW.ret ?_
  exact kB (.inr rfl) [] (P := (true = true)) zk rfl
end Go.Proofs.YtdbjebdomdnbkaaGreat
