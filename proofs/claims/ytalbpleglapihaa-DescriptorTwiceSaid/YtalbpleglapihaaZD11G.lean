/- Descriptors out of seeds, their bytes. No statement is proved here. -/
import Derived.Test.YtalbpleglapihaaZD11F
namespace Go.Proofs.Ytalbpleglapihaa
open Go.ChangeShapes Go.WideShapes Go.ChangeAt Go.RowKit
open List renaming getD → ka0, length → ka1, length_append → ka4, length_cons → kb2, length_drop → kb1, length_nil → kb5, length_replicate → kb4, length_set → kc4, length_take → kb3, replicate → ka6
open Nat renaming le_of_ble_eq_true → ka5
set_option linter.unusedVariables false
set_option linter.unusedSimpArgs false
/-! chapter 11: the bytes of valid descriptors -/
set_option maxHeartbeats 4000000
set_option maxRecDepth 100000
def DeB (B : List Int) : Prop := ∃ (id : Int) (nm : List Int) (d1 d2 d3 d4 d5 : Int) (bs : List Bx) (n : Nat), DeW id nm d1 d2 d3 d4 d5 bs n ∧ B = rP id nm d1 d2 d3 d4 d5 bs
theorem u4g : yU 4294967295 8 = 771559538 := by
  have h0 : yU 4294967295 0 = 4294967295 := rfl
  have h1 : yU 4294967295 1 = 2454158559 := (aV h0 (by kernel_rfl)).trans (by kernel_rfl)
  have h2 : yU 4294967295 2 = 2761637199 := (aV h1 (by kernel_rfl)).trans (by kernel_rfl)
  have h3 : yU 4294967295 3 = 3220512135 := (aV h2 (by kernel_rfl)).trans (by kernel_rfl)
  have h4 : yU 4294967295 4 = 2990673379 := (aV h3 (by kernel_rfl)).trans (by kernel_rfl)
  have h5 : yU 4294967295 5 = 3029960145 := (aV h4 (by kernel_rfl)).trans (by kernel_rfl)
  have h6 : yU 4294967295 6 = 3086238152 := (aV h5 (by kernel_rfl)).trans (by kernel_rfl)
  have h7 : yU 4294967295 7 = 1543119076 := (aW h6 (by decide)).trans (by kernel_rfl)
  have h8 : yU 4294967295 8 = 771559538 := (aW h7 (by decide)).trans (by kernel_rfl)
  exact h8
theorem u4f : yU 771559538 8 = 3190222080 := by
  have h0 : yU 771559538 0 = 771559538 := rfl
  have h1 : yU 771559538 1 = 385779769 := (aW h0 (by decide)).trans (by kernel_rfl)
  have h2 : yU 771559538 2 = 3871852348 := (aV h1 (by kernel_rfl)).trans (by kernel_rfl)
  have h3 : yU 771559538 3 = 1935926174 := (aW h2 (by decide)).trans (by kernel_rfl)
  have h4 : yU 771559538 4 = 967963087 := (aW h3 (by decide)).trans (by kernel_rfl)
  have h5 : yU 771559538 5 = 4049632199 := (aV h4 (by kernel_rfl)).trans (by kernel_rfl)
  have h6 : yU 771559538 6 = 2500378307 := (aV h5 (by kernel_rfl)).trans (by kernel_rfl)
  have h7 : yU 771559538 7 = 2805783617 := (aV h6 (by kernel_rfl)).trans (by kernel_rfl)
  have h8 : yU 771559538 8 = 3190222080 := (aV h7 (by kernel_rfl)).trans (by kernel_rfl)
  exact h8
theorem u4e : yU 3190222080 8 = 12461805 := by
  have h0 : yU 3190222080 0 = 3190222080 := rfl
  have h1 : yU 3190222080 1 = 1595111040 := (aW h0 (by decide)).trans (by kernel_rfl)
  have h2 : yU 3190222080 2 = 797555520 := (aW h1 (by decide)).trans (by kernel_rfl)
  have h3 : yU 3190222080 3 = 398777760 := (aW h2 (by decide)).trans (by kernel_rfl)
  have h4 : yU 3190222080 4 = 199388880 := (aW h3 (by decide)).trans (by kernel_rfl)
  have h5 : yU 3190222080 5 = 99694440 := (aW h4 (by decide)).trans (by kernel_rfl)
  have h6 : yU 3190222080 6 = 49847220 := (aW h5 (by decide)).trans (by kernel_rfl)
  have h7 : yU 3190222080 7 = 24923610 := (aW h6 (by decide)).trans (by kernel_rfl)
  have h8 : yU 3190222080 8 = 12461805 := (aW h7 (by decide)).trans (by kernel_rfl)
  exact h8
theorem u4d : yU 12461805 8 = 3736805603 := by
  have h0 : yU 12461805 0 = 12461805 := rfl
  have h1 : yU 12461805 1 = 3991375958 := (aV h0 (by kernel_rfl)).trans (by kernel_rfl)
  have h2 : yU 12461805 2 = 1995687979 := (aW h1 (by decide)).trans (by kernel_rfl)
  have h3 : yU 12461805 3 = 3602999093 := (aV h2 (by kernel_rfl)).trans (by kernel_rfl)
  have h4 : yU 12461805 4 = 2262315194 := (aV h3 (by kernel_rfl)).trans (by kernel_rfl)
  have h5 : yU 12461805 5 = 1131157597 := (aW h4 (by decide)).trans (by kernel_rfl)
  have h6 : yU 12461805 6 = 3423506190 := (aV h5 (by kernel_rfl)).trans (by kernel_rfl)
  have h7 : yU 12461805 7 = 1711753095 := (aW h6 (by decide)).trans (by kernel_rfl)
  have h8 : yU 12461805 8 = 3736805603 := (aV h7 (by kernel_rfl)).trans (by kernel_rfl)
  exact h8
theorem u3u : rF [0, 0, 0, 0] 0 = 4294967295 := rfl
theorem u3t : rF [0, 0, 0, 0] 1 = 771559538 := xF u3u ((show yU (yZ 4294967295 (ka0 [0, 0, 0, 0] 0 0)) 8 = yU 4294967295 8 from congrArg (fun x => yU x 8) (by kernel_rfl)).trans u4g)
theorem u3s : rF [0, 0, 0, 0] 2 = 3190222080 := xF u3t ((show yU (yZ 771559538 (ka0 [0, 0, 0, 0] 1 0)) 8 = yU 771559538 8 from congrArg (fun x => yU x 8) (by kernel_rfl)).trans u4f)
theorem u3r : rF [0, 0, 0, 0] 3 = 12461805 := xF u3s ((show yU (yZ 3190222080 (ka0 [0, 0, 0, 0] 2 0)) 8 = yU 3190222080 8 from congrArg (fun x => yU x 8) (by kernel_rfl)).trans u4e)
theorem u3q : rF [0, 0, 0, 0] 4 = 3736805603 := xF u3r ((show yU (yZ 12461805 (ka0 [0, 0, 0, 0] 3 0)) 8 = yU 12461805 8 from congrArg (fun x => yU x 8) (by kernel_rfl)).trans u4d)
theorem u3v : qR [0, 0, 0, 0] = 558161692 := (z6 (l := [0, 0, 0, 0]) rfl rfl u3q).symm.trans (by kernel_rfl)
theorem u4c : uO [] = 4 := u23 rfl (by decide)
theorem u4b : uO [0, 0, 0, 0, 0, 0, 0, 0] = 6 := u26 rfl (by decide) (by
  show ¬ g32 [0, 0, 0, 0, 0, 0, 0, 0] 4 = qR [0, 0, 0, 0]
  rw [u3v]; decide)
theorem rA (id : Int) (nm : List Int) (d1 d2 d3 d4 d5 : Int) (bs : List Bx) (n : Nat) (hD : DeW id nm d1 d2 d3 d4 d5 bs n) : ∃ (B : List Int) (z : Nat), (B = rP id nm d1 d2 d3 d4 d5 bs) ∧ (DeB B) ∧ (Byt B) ∧ (ka1 B = z) ∧ (26 ≤ z ∧ z ≤ 20000) ∧ (Fun 7 [.agg [.d (D.lit (.int .u64 id)), .d (D.lit (.string (strOfNums nm))), iC d1, iC d2, iC d3, iC d4, iC d5, .d (D.sl (qI bs) n)]] (kG []) 0 (.tup [.c (.d (D.sl (dI .u8 (B ++ (pbL (qR B) 4))) (z + 4))), iE 0]) (kG []) 0) := by
  obtain ⟨h1, h2⟩ := hD.r
  have hl := hD.l; have hn := hD.n; have hd := hD.d; have hi := hD.i
  refine ⟨rP id nm d1 d2 d3 d4 d5 bs, ka1 (vB bs) + ka1 nm + 25, rfl, ⟨id, nm, d1, d2, d3, d4, d5, bs, n, hD, rfl⟩, k5y hD.y hl.2, by rw [nG]; omega, by omega, ?_⟩
  exact k3z id nm d1 d2 d3 d4 d5 bs n hD.y hl.2 hn.1 hn.2.2 hD.w h1 (by omega) (by omega) (by omega) hD.vd
theorem k60 (id : Int) (nm : List Int) (d1 d2 d3 d4 d5 : Int) (bs : List Bx) (n : Nat) (hD : DeW id nm d1 d2 d3 d4 d5 bs n) : Fun 14 [.agg [.d (D.lit (.int .u64 id)), .d (D.lit (.string (strOfNums nm))), iC d1, iC d2, iC d3, iC d4, iC d5, .d (D.sl (qI bs) n)]] (kG []) 0 (bV true) (kG []) 0 := by
  have hl := hD.l; have hn := hD.n
  have h := f8 id nm d1 d2 d3 d4 d5 bs n hD.y (by omega) hn.1 (by omega) hD.w
  rw [hD.vd] at h
  exact h
theorem tE (l : List Int) (m : Nat) (n : Int) (hm : ka1 l = m) (hb : m ≤ 1000000) (hn : 0 ≤ n ∧ n ≤ 4294967295) : Fun 43 [.c (.d (D.sl (dI .u8 l) m)), .c (.d (D.lit (.int .u32 n)))] (kG []) 0 (sV .u8 (l ++ (pbL n 4)) (m + 4)) (kG []) 1 := (Fun.frz (y := oV 0 0 (m + 4) 1) (g1 := [(0, some (5, .ds (dI .u8 (l ++ (pbL n 4)))))]) (y' := sV .u8 (l ++ (pbL n 4)) (m + 4)) (g1' := []) (ds := (dI .u8 (l ++ (pbL n 4)))) 0 (W_rPut32 l m n hm hb hn) rfl FzG.nil (.e (.c (FzC.wh ((by simp only [ka4, pbL_len]; omega))))))
theorem cY {p : Prop} (h : p := by first | omega | with_reducible assumption | (simp only [kR, kQ, pbL_len, qX, qM, ka4, kb2, kb5, kb3, kb1, kb4, kc4] <;> omega) | rfl | assumption) : p := h
theorem k3y (l : List Int) (m : Nat) (hm : ka1 l = m) (hb : m ≤ 900000) (hy : Byt l) : Fun 25 [.c (.d (D.sl (dI .u8 l) m))] (kG []) 0 (sV .u8 (l ++ (pbL (qR l) 4)) (m + 4)) (kG []) 0 := by
  refine Fun.mk (n := 7) Try.func25 rfl rfl (ka5 rfl) ?_
  intro cx hcx
  refine kK [.no] True [(0, sV .u8 l m)] [] 0 trivial ?_
  have hx1 : (((0 : Int) ≤ (qR l)) ∧ ((qR l) ≤ 4294967295)) := dG _
  refine kK [.no, .no, .call [] (kS (D.lit (.int .u32 (qR l)))) [] 0 [] none, .call [] (sV .u8 (l ++ (pbL (qR l) 4)) (m + 4)) [] 1 [] none, .no] ((_) ∧ (_)) [(2, sV .u8 (l ++ (pbL (qR l) 4)) (m + 4))] [] 1 ⟨(k9o l m zo zo (kP : Byt l)), (tE l m (qR l) zo zo cY)⟩ ?_
  refine AW.ret ?_
  exact kC (.inr rfl) [] (P := (k8 (dI .u8 (l ++ (pbL (qR l) 4)))) ∧ (kM (m + 4))) zk ⟨rfl, rfl⟩
theorem iQ (l : List Int) (m : Nat) (hm : ka1 l = m) (hb : m ≤ 900000) (hy : Byt l) : Fun 10 [.c (.d (D.sl (dI .u8 l) m))] (kG []) 0 (sV .u8 (l ++ (pbL (qR l) 4)) (m + 4)) (kG []) 0 := by
  refine Fun.mk (n := 5) Try.func10 rfl rfl (ka5 rfl) ?_
  intro cx hcx
  refine kK [.no] True [(0, sV .u8 l m)] [] 0 trivial ?_
  refine kX [.no, .call [] (sV .u8 (l ++ (pbL (qR l) 4)) (m + 4)) [] 0 [] none, .no] _ [(2, sV .u8 (l ++ (pbL (qR l) 4)) (m + 4))] (k3y l m zo zo (kP : Byt l)) ?_
  refine AW.ret ?_
  exact kC (.inr rfl) [] (P := (k8 (dI .u8 (l ++ (pbL (qR l) 4)))) ∧ (kM (m + 4))) zk ⟨rfl, rfl⟩
abbrev yR (m : Nat) (sd : List Int) := kA (List.take (min m 300) sd) 2
abbrev yJ (m : Nat) (sd : List Int) := kA (kA (kA (yR m sd) 256) 3) 4
theorem k9q (sd : List Int) (m : Nat) (hn : ka1 sd = m) (hb : m ≤ 9223372036854775807) (hy : Byt sd) : Fun 8 [.c (.d (D.sl (dI .u8 sd) m))] (kG []) 0 (.e (.agg [.d (D.lit (.int .u64 (((kB (kA (aF m sd) 2) 256) : Nat) : Int))), .d (D.lit (.string (strOfNums (ka0 jV (kB (kA (kA (aF m sd) 2) 256) 3) ([] : List Int))))), iC (1 + (((kB (aF m sd) 2) : Nat) : Int)), iC (((kB (kA (kA (kA (aF m sd) 2) 256) 3) 4) : Nat) : Int), iC (((kB (kA (kA (kA (kA (aF m sd) 2) 256) 3) 4) 200) : Nat) : Int), iC (ka0 ([0, 66, 200, 7] : List Int) (kB (kA (kA (kA (kA (kA (aF m sd) 2) 256) 3) 4) 200) 4) 0), iC (((kB (kA (kA (kA (kA (kA (kA (aF m sd) 2) 256) 3) 4) 200) 4) 4) : Nat) : Int), .d (D.sl (qI (vH (kA (kA (kA (kA (kA (kA (kA (aF m sd) 2) 256) 3) 4) 200) 4) 4))) (ka1 (vH (kA (kA (kA (kA (kA (kA (kA (aF m sd) 2) 256) 3) 4) 200) 4) 4))))])) (kG []) 0 := by
  refine Fun.mk (n := 11) Try.func8 rfl rfl (ka5 rfl) ?_
  intro cx hcx
  refine kK [.no] True [(0, sV .u8 sd m), (2, rV 0 0)] [(0, some (31, .ds [D.lit (.int .u64 0), D.lit (.string { data := #[] }), iD 0, iD 0, iD 0, iD 0, iD 0, qH]))] 1 trivial ?_
  refine kK [.no, .call [] (rV 0 0) [(0, some (66, .ds [db (aF m sd) (ka1 (aF m sd))]))] 1 [] none, .no] _ [(2, rV 0 0), (3, rV 1 0)] [(0, some (31, .ds [D.lit (.int .u64 0), D.lit (.string { data := #[] }), iD 0, iD 0, iD 0, iD 0, iD 0, qH])), (1, some (66, .ds [db (aF m sd) (ka1 (aF m sd))]))] 2 (k7i sd m zo zo) ?_
  have hx1 : ((((((kB (aF m sd) 2) : Nat) : Int) < 2) ∨ ((kB (aF m sd) 2) = 0)) ∧ ((kB (aF m sd) 2) ≤ 255)) := kO (aF m sd) (2 : Int) ((Byt.take (kP : Byt sd) _))
  have hx2 : (Byt (yR m sd)) := kF (2 : Int) ((Byt.take (kP : Byt sd) _))
  refine kK [.no, .no, .call [1] (uV (kB (aF m sd) 2)) [(0, some (66, .ds [db (yR m sd) (ka1 (yR m sd))]))] 1 [] none, .w, .call [1] (.e (.agg [.d (D.lit (.int .u64 (kB (yR m sd) 256 : Int))), .d (D.lit (.string (strOfNums (ka0 jV (kB (kA (yR m sd) 256) 3) ([] : List Int))))), iC (1 + (kB (aF m sd) 2 : Int)), iC (kB (kA (kA (yR m sd) 256) 3) 4 : Int), uC (kB (yJ m sd) 200), iC (ka0 ([0, 66, 200, 7] : List Int) (kB (kA (yJ m sd) 200) 4) 0), iC (kB (kA (kA (yJ m sd) 200) 4) 4 : Int), .d (D.sl (qI (vH (kA (kA (kA (yJ m sd) 200) 4) 4))) (ka1 (vH (kA (kA (kA (yJ m sd) 200) 4) 4))))])) [(0, some (66, .ds [db (bcD (kA (kA (kA (yJ m sd) 200) 4) 4)) (ka1 (bcD (kA (kA (kA (yJ m sd) 200) 4) 4)))]))] 1 [] none, .no] ((_) ∧ (qL (1 + (kB (aF m sd) 2 : Int))) ∧ (_)) [(2, rV 0 0)] [(0, some (31, .ds [D.lit (.int .u64 (kB (yR m sd) 256 : Int)), D.lit (.string (strOfNums (ka0 jV (kB (kA (yR m sd) 256) 3) ([] : List Int)))), iD (1 + (kB (aF m sd) 2 : Int)), iD (kB (kA (kA (yR m sd) 256) 3) 4 : Int), uD (kB (yJ m sd) 200), iD (ka0 ([0, 66, 200, 7] : List Int) (kB (kA (yJ m sd) 200) 4) 0), iD (kB (kA (kA (yJ m sd) 200) 4) 4 : Int), D.sl (qI (vH (kA (kA (kA (yJ m sd) 200) 4) 4))) (ka1 (vH (kA (kA (kA (yJ m sd) 200) 4) 4)))]))] 2 ⟨(qW (aF m sd) 2 (Byt.take (kP : Byt sd) _)), ⟨by omega, by omega⟩, (w8 (yR m sd) (1 + (kB (aF m sd) 2 : Int)) (kP : Byt (yR m sd)))⟩ ?_
  refine AW.ret ?_
  exact kC (.inr rfl) [] (P := (kN (kB (yR m sd) 256 : Int)) ∧ ((.string (strOfNums (ka0 jV (kB (kA (yR m sd) 256) 3) ([] : List Int))) : Value) = .string (strOfNums (ka0 jV (kB (kA (yR m sd) 256) 3) ([] : List Int)))) ∧ (kN (1 + (kB (aF m sd) 2 : Int))) ∧ (kN (kB (kA (kA (yR m sd) 256) 3) 4 : Int)) ∧ (kN (kB (yJ m sd) 200 : Int)) ∧ (kN (ka0 ([0, 66, 200, 7] : List Int) (kB (kA (yJ m sd) 200) 4) 0)) ∧ (kN (kB (kA (kA (yJ m sd) 200) 4) 4 : Int)) ∧ (k8 (qI (vH (kA (kA (kA (yJ m sd) 200) 4) 4)))) ∧ (kM (ka1 (vH (kA (kA (kA (yJ m sd) 200) 4) 4))))) zk ⟨rfl, rfl, rfl, rfl, rfl, rfl, rfl, rfl, rfl⟩
theorem k9j (sd : List Int) (m : Nat) (hn : ka1 sd = m) (hb : m ≤ 9223372036854775807) (hy : Byt sd) : ∃ (id : Int) (nm : List Int) (d1 : Int) (d2 : Int) (d3 : Int) (d4 : Int) (d5 : Int) (bs : List Bx) (n : Nat), (DeW id nm d1 d2 d3 d4 d5 bs n) ∧ (Fun 8 [.c (.d (D.sl (dI .u8 sd) m))] (kG []) 0 (.e (.agg [.d (D.lit (.int .u64 id)), .d (D.lit (.string (strOfNums nm))), iC d1, iC d2, iC d3, iC d4, iC d5, .d (D.sl (qI bs) n)])) (kG []) 0) := ⟨(((kB (kA (aF m sd) 2) 256) : Nat) : Int), (ka0 jV (kB (kA (kA (aF m sd) 2) 256) 3) ([] : List Int)), (1 + (((kB (aF m sd) 2) : Nat) : Int)), (((kB (kA (kA (kA (aF m sd) 2) 256) 3) 4) : Nat) : Int), (((kB (kA (kA (kA (kA (aF m sd) 2) 256) 3) 4) 200) : Nat) : Int), (ka0 ([0, 66, 200, 7] : List Int) (kB (kA (kA (kA (kA (kA (aF m sd) 2) 256) 3) 4) 200) 4) 0), (((kB (kA (kA (kA (kA (kA (kA (aF m sd) 2) 256) 3) 4) 200) 4) 4) : Nat) : Int), (vH (kA (kA (kA (kA (kA (kA (kA (aF m sd) 2) 256) 3) 4) 200) 4) 4)), (ka1 (vH (kA (kA (kA (kA (kA (kA (kA (aF m sd) 2) 256) 3) 4) 200) 4) 4))), u1r _ _ (kF 2 (hy.take _)) (by have h9 := kO (aF m sd) 2 (hy.take _); omega), k9q sd m hn hb hy⟩
theorem k9l   : Fun 6 [] (kG []) 0 (bV true) (kG []) 0 := by
  have h4a : uO ([] : List Int) = 4 := u4c
  have h4b : uO (ka6 8 0) = 6 := u4b
  refine Fun.mk (n := 43) Try.func6 rfl rfl (ka5 rfl) ?_
  intro cx hcx
  refine kK [.no] True [] [] 0 trivial ?_
  have hx1 : (((0 : Int) ≤ (uO ([] : List Int))) ∧ ((uO ([] : List Int)) ≤ 6)) := (d9 ([] : List Int))
  have hx2 : ((ka1 (aI ([] : List Int))) ≤ 65535) := (d8 ((Byt.nil)))
  have hx3 : (BsW (aI ([] : List Int))) := (pM ((Byt.nil)))
  have hx4 : ((ka1 (f0 ([] : List Int))) ≤ 64) := (d7 ([] : List Int))
  refine kK (.call [] (.tup [.agg [.d (D.lit (.int .u64 (rJ ([] : List Int)))), .d (D.lit (.string (strOfNums (f0 ([] : List Int))))), iC (rO ([] : List Int)), iC (rN ([] : List Int)), iC (rM ([] : List Int)), iC (rL ([] : List Int)), iC (rK ([] : List Int)), .d (D.sl (qI (aI ([] : List Int))) (ka1 (aI ([] : List Int))))], iE (uO ([] : List Int))]) [] 0 [] none :: kU 6 []) _ [(2, iV (uO ([] : List Int)))] [] 1 (cA ([] : List Int) 0 cY zo (Byt.nil)) ?_
  have hx5 : (((0 : Int) ≤ (uO (ka6 8 0))) ∧ ((uO (ka6 8 0)) ≤ 6)) := (d9 (ka6 8 0))
  have hx6 : ((ka1 (aI (ka6 8 0))) ≤ 65535) := (d8 ((Byt.rep _ zo)))
  have hx7 : (BsW (aI (ka6 8 0))) := (pM ((Byt.rep _ zo)))
  have hx8 : ((ka1 (f0 (ka6 8 0))) ≤ 64) := (d7 (ka6 8 0))
  refine kK ((.fz (.mk 8 8 (dI .u8 (ka6 8 0)))) :: .call [] (.tup [.agg [.d (D.lit (.int .u64 (rJ (ka6 8 0)))), .d (D.lit (.string (strOfNums (f0 (ka6 8 0))))), iC (rO (ka6 8 0)), iC (rN (ka6 8 0)), iC (rM (ka6 8 0)), iC (rL (ka6 8 0)), iC (rK (ka6 8 0)), .d (D.sl (qI (aI (ka6 8 0))) (ka1 (aI (ka6 8 0))))], iE (uO (ka6 8 0))]) [] 0 [] none :: kU 6 []) ((kN 8) ∧ (kN 8) ∧ (8 ≤ 8) ∧ (1 * 8 ≤ 281474976710656) ∧ (ka6 8 (D.lit (.int .u8 0)) = dI .u8 (ka6 8 0)) ∧ (((dI .u8 (ka6 8 0)) : List D).length = 8 * 1) ∧ (_)) [(2, iV (uO ([] : List Int))), (4, iV (uO (ka6 8 0)))] [] 3 ⟨rfl, rfl, zo, zo, (aJ _ _ _), (by first | omega | (simp only [kR, kQ, pbL_len, qX, qM, qJ, ka4, kb2, kb5, kb3, kb1, kb4, kc4, List.length_map, List.length_reverse, Nat.mul_one] <;> omega) | rfl), (cA (ka6 8 0) 8 cY zo (Byt.rep _ zo))⟩ ?_
  obtain ⟨id1, nm2, d23, d34, d45, d56, bs7, n8, q9, hx9, hx10, hF9⟩ := (k61 ([] : List Int) 1 (Byt.nil) cY)
  refine kK [.call [] (rV 0 0) [(0, some (66, .ds [db ([] : List Int) 0]))] 1 [] none, .call [3] (.e (.agg [.d (D.lit (.int .u64 id1)), .d (D.lit (.string (strOfNums nm2))), iC 1, iC d23, iC d34, iC d45, iC d56, .d (D.sl (qI bs7) n8)])) [(0, some (66, .ds [db q9 (ka1 q9)]))] 1 [] none, .no, .no] ((_) ∧ (_)) [(2, iV (uO ([] : List Int))), (4, iV (uO (ka6 8 0))), (5, rV 4 0)] [(4, some (31, .ds [D.lit (.int .u64 id1), D.lit (.string (strOfNums nm2)), iD 1, iD d23, iD d34, iD d45, iD d56, D.sl (qI bs7) n8]))] 5 ⟨(Fun.cv (k7i ([] : List Int) 0 cY zo) (y' := rV 0 0) (g1' := kG [(0, some (66, .ds [db ([] : List Int) 0]))]) zk zk), hF9⟩ ?_
  obtain ⟨B10, z11, hx11, hx12, hx13, hx14, hx15, hF11⟩ := (rA id1 nm2 1 d23 d34 d45 d56 bs7 n8 cY)
  refine kK (.no :: .call [] (.tup [.c (.d (db (B10 ++ (pbL (qR B10) 4)) (z11 + 4))), iE 0]) [] 0 [] none :: kU 5 []) _ [(2, iV (uO ([] : List Int))), (4, iV (uO (ka6 8 0))), (5, rV 4 0), (6, sV .u8 (B10 ++ (pbL (qR B10) 4)) (z11 + 4)), (7, iV 0)] [(4, some (31, .ds [D.lit (.int .u64 id1), D.lit (.string (strOfNums nm2)), iD 1, iD d23, iD d34, iD d45, iD d56, D.sl (qI bs7) n8]))] 5 hF11 ?_
  refine kK [.no, .b true, .no, .no, .b true, .no, .no, .no, .b true, .no, .no, .no, .no, .b true, .no, .no, .no, .call [] (bV true) [] 0 [] none, .no, .no] ((((uO ([] : List Int)) = 4)) ∧ (((uO (ka6 8 0)) = 6)) ∧ ((kN 0)) ∧ (((20 : Int) < (((z11 + 4) : Nat) : Int))) ∧ (_)) [(0, bV true)] [] 5 ⟨zo, zo, zo, zo, (k60 id1 nm2 1 d23 d34 d45 d56 bs7 n8 cY)⟩ ?_
  refine AW.ret ?_
  exact kC (.inr rfl) [] (P := (true = true)) zk rfl
end Go.Proofs.Ytalbpleglapihaa
