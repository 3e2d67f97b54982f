/- Descriptors out of seeds, their bytes. No statement is proved here. -/
import Derived.Test.YtalbpleglapihaaZD11F
namespace Go.Proofs.Ytalbpleglapihaa
open Go.ChangeShapes Go.WideShapes Go.ChangeAt Go.RowKit
open List renaming getD → ka0, length → ka1, length_append → ka4, length_cons → kb3, length_drop → kb2, length_nil → kb5, length_replicate → kb4, length_set → kc3, length_take → kb1, replicate → ka6
open Nat renaming le_of_ble_eq_true → ka5
set_option linter.unusedVariables false
set_option linter.unusedSimpArgs false
/-! chapter 11: the bytes of valid descriptors -/
set_option maxHeartbeats 4000000
set_option maxRecDepth 100000
def DeB (B : List Int) : Prop := ∃ (id : Int) (nm : List Int) (d1 d2 d3 d4 d5 : Int) (bs : List Bx) (n : Nat), DeW id nm d1 d2 d3 d4 d5 bs n ∧ B = s6 id nm d1 d2 d3 d4 d5 bs
theorem u4b : yU 4294967295 8 = 771559538 := by
  have h0 : yU 4294967295 0 = 4294967295 := rfl
  have h1 : yU 4294967295 1 = 2454158559 := (aV h0 (by kernel_rfl)).trans (by kernel_rfl)
  have h2 : yU 4294967295 2 = 2761637199 := (aV h1 (by kernel_rfl)).trans (by kernel_rfl)
  have h3 : yU 4294967295 3 = 3220512135 := (aV h2 (by kernel_rfl)).trans (by kernel_rfl)
  have h4 : yU 4294967295 4 = 2990673379 := (aV h3 (by kernel_rfl)).trans (by kernel_rfl)
  have h5 : yU 4294967295 5 = 3029960145 := (aV h4 (by kernel_rfl)).trans (by kernel_rfl)
  have h6 : yU 4294967295 6 = 3086238152 := (aV h5 (by kernel_rfl)).trans (by kernel_rfl)
  have h7 : yU 4294967295 7 = 1543119076 := (aW h6 (by decide)).trans (by kernel_rfl)
  have h8 : yU 4294967295 8 = 771559538 := (aW h7 (by decide)).trans (by kernel_rfl)
  exact h8
theorem u4a : yU 771559538 8 = 3190222080 := by
  have h0 : yU 771559538 0 = 771559538 := rfl
  have h1 : yU 771559538 1 = 385779769 := (aW h0 (by decide)).trans (by kernel_rfl)
  have h2 : yU 771559538 2 = 3871852348 := (aV h1 (by kernel_rfl)).trans (by kernel_rfl)
  have h3 : yU 771559538 3 = 1935926174 := (aW h2 (by decide)).trans (by kernel_rfl)
  have h4 : yU 771559538 4 = 967963087 := (aW h3 (by decide)).trans (by kernel_rfl)
  have h5 : yU 771559538 5 = 4049632199 := (aV h4 (by kernel_rfl)).trans (by kernel_rfl)
  have h6 : yU 771559538 6 = 2500378307 := (aV h5 (by kernel_rfl)).trans (by kernel_rfl)
  have h7 : yU 771559538 7 = 2805783617 := (aV h6 (by kernel_rfl)).trans (by kernel_rfl)
  have h8 : yU 771559538 8 = 3190222080 := (aV h7 (by kernel_rfl)).trans (by kernel_rfl)
  exact h8
theorem u49 : yU 3190222080 8 = 12461805 := by
  have h0 : yU 3190222080 0 = 3190222080 := rfl
  have h1 : yU 3190222080 1 = 1595111040 := (aW h0 (by decide)).trans (by kernel_rfl)
  have h2 : yU 3190222080 2 = 797555520 := (aW h1 (by decide)).trans (by kernel_rfl)
  have h3 : yU 3190222080 3 = 398777760 := (aW h2 (by decide)).trans (by kernel_rfl)
  have h4 : yU 3190222080 4 = 199388880 := (aW h3 (by decide)).trans (by kernel_rfl)
  have h5 : yU 3190222080 5 = 99694440 := (aW h4 (by decide)).trans (by kernel_rfl)
  have h6 : yU 3190222080 6 = 49847220 := (aW h5 (by decide)).trans (by kernel_rfl)
  have h7 : yU 3190222080 7 = 24923610 := (aW h6 (by decide)).trans (by kernel_rfl)
  have h8 : yU 3190222080 8 = 12461805 := (aW h7 (by decide)).trans (by kernel_rfl)
  exact h8
theorem u48 : yU 12461805 8 = 3736805603 := by
  have h0 : yU 12461805 0 = 12461805 := rfl
  have h1 : yU 12461805 1 = 3991375958 := (aV h0 (by kernel_rfl)).trans (by kernel_rfl)
  have h2 : yU 12461805 2 = 1995687979 := (aW h1 (by decide)).trans (by kernel_rfl)
  have h3 : yU 12461805 3 = 3602999093 := (aV h2 (by kernel_rfl)).trans (by kernel_rfl)
  have h4 : yU 12461805 4 = 2262315194 := (aV h3 (by kernel_rfl)).trans (by kernel_rfl)
  have h5 : yU 12461805 5 = 1131157597 := (aW h4 (by decide)).trans (by kernel_rfl)
  have h6 : yU 12461805 6 = 3423506190 := (aV h5 (by kernel_rfl)).trans (by kernel_rfl)
  have h7 : yU 12461805 7 = 1711753095 := (aW h6 (by decide)).trans (by kernel_rfl)
  have h8 : yU 12461805 8 = 3736805603 := (aV h7 (by kernel_rfl)).trans (by kernel_rfl)
  exact h8
theorem u3q : rF [0, 0, 0, 0] 0 = 4294967295 := rfl
theorem u3p : rF [0, 0, 0, 0] 1 = 771559538 := w9 u3q ((show yU (yZ 4294967295 (ka0 [0, 0, 0, 0] 0 0)) 8 = yU 4294967295 8 from congrArg (fun x => yU x 8) (by kernel_rfl)).trans u4b)
theorem u3o : rF [0, 0, 0, 0] 2 = 3190222080 := w9 u3p ((show yU (yZ 771559538 (ka0 [0, 0, 0, 0] 1 0)) 8 = yU 771559538 8 from congrArg (fun x => yU x 8) (by kernel_rfl)).trans u4a)
theorem u3n : rF [0, 0, 0, 0] 3 = 12461805 := w9 u3o ((show yU (yZ 3190222080 (ka0 [0, 0, 0, 0] 2 0)) 8 = yU 3190222080 8 from congrArg (fun x => yU x 8) (by kernel_rfl)).trans u49)
theorem u3m : rF [0, 0, 0, 0] 4 = 3736805603 := w9 u3n ((show yU (yZ 12461805 (ka0 [0, 0, 0, 0] 3 0)) 8 = yU 12461805 8 from congrArg (fun x => yU x 8) (by kernel_rfl)).trans u48)
theorem u3r : qG [0, 0, 0, 0] = 558161692 := (zY (l := [0, 0, 0, 0]) rfl rfl u3m).symm.trans (by kernel_rfl)
theorem u47 : u5 [] = 4 := k5p rfl (by decide)
theorem u46 : u5 [0, 0, 0, 0, 0, 0, 0, 0] = 6 := k99 rfl (by decide) (by
  show ¬ g32 [0, 0, 0, 0, 0, 0, 0, 0] 4 = qG [0, 0, 0, 0]
  rw [u3r]; decide)
theorem rA (id : Int) (nm : List Int) (d1 d2 d3 d4 d5 : Int) (bs : List Bx) (n : Nat) (hD : DeW id nm d1 d2 d3 d4 d5 bs n) : ∃ (B : List Int) (z : Nat), (B = s6 id nm d1 d2 d3 d4 d5 bs) ∧ (DeB B) ∧ (Byt B) ∧ (ka1 B = z) ∧ (26 ≤ z ∧ z ≤ 20000) ∧ (Fun 7 [.agg [.d (D.lit (.int .u64 id)), .d (D.lit (.string (strOfNums nm))), iC d1, iC d2, iC d3, iC d4, iC d5, .d (D.sl (qH bs) n)]] (kG []) 0 (.tup [.c (.d (D.sl (dI .u8 (B ++ (pbL (qG B) 4))) (z + 4))), iE 0]) (kG []) 0) := by
  obtain ⟨h1, h2⟩ := hD.r
  have hl := hD.l; have hn := hD.n; have hd := hD.d; have hi := hD.i
  refine ⟨s6 id nm d1 d2 d3 d4 d5 bs, ka1 (vB bs) + ka1 nm + 25, rfl, ⟨id, nm, d1, d2, d3, d4, d5, bs, n, hD, rfl⟩, k5v hD.y hl.2, by rw [nB]; omega, by omega, ?_⟩
  exact k3u id nm d1 d2 d3 d4 d5 bs n hD.y hl.2 hn.1 hn.2.2 hD.w h1 (by omega) (by omega) (by omega) hD.vd
theorem k5x (id : Int) (nm : List Int) (d1 d2 d3 d4 d5 : Int) (bs : List Bx) (n : Nat) (hD : DeW id nm d1 d2 d3 d4 d5 bs n) : Fun 14 [.agg [.d (D.lit (.int .u64 id)), .d (D.lit (.string (strOfNums nm))), iC d1, iC d2, iC d3, iC d4, iC d5, .d (D.sl (qH bs) n)]] (kG []) 0 (bV true) (kG []) 0 := by
  have hl := hD.l; have hn := hD.n
  have h := f6 id nm d1 d2 d3 d4 d5 bs n hD.y (by omega) hn.1 (by omega) hD.w
  rw [hD.vd] at h
  exact h
theorem s7 (l : List Int) (m : Nat) (n : Int) (hm : ka1 l = m) (hb : m ≤ 1000000) (hn : 0 ≤ n ∧ n ≤ 4294967295) : Fun 43 [.c (.d (D.sl (dI .u8 l) m)), .c (.d (D.lit (.int .u32 n)))] (kG []) 0 (sV .u8 (l ++ (pbL n 4)) (m + 4)) (kG []) 1 := (Fun.frz (y := oV 0 0 (m + 4) 1) (g1 := [(0, some (5, .ds (dI .u8 (l ++ (pbL n 4)))))]) (y' := sV .u8 (l ++ (pbL n 4)) (m + 4)) (g1' := []) (ds := (dI .u8 (l ++ (pbL n 4)))) 0 (W_rPut32 l m n hm hb hn) rfl FzG.nil (.e (.c (FzC.wh ((by simp only [ka4, pbL_len]; omega))))))
theorem cX {p : Prop} (h : p := by first | omega | with_reducible assumption | (simp only [kR, kQ, pbL_len, uB, qR, ka4, kb3, kb5, kb1, kb2, kb4, kc3] <;> omega) | rfl | assumption) : p := h
theorem k3t (l : List Int) (m : Nat) (hm : ka1 l = m) (hb : m ≤ 900000) (hy : Byt l) : Fun 25 [.c (.d (D.sl (dI .u8 l) m))] (kG []) 0 (sV .u8 (l ++ (pbL (qG l) 4)) (m + 4)) (kG []) 0 := by
  refine Fun.mk (n := 7) Try.func25 rfl rfl (ka5 rfl) ?_
  intro cx hcx
  refine kK [.no] True [(0, sV .u8 l m)] [] 0 trivial ?_
  have hx1 : (((0 : Int) ≤ (qG l)) ∧ ((qG l) ≤ 4294967295)) := fR _
  refine kK [.no, .no, .call [] (kP (D.lit (.int .u32 (qG l)))) [] 0 [] none, .call [] (sV .u8 (l ++ (pbL (qG l) 4)) (m + 4)) [] 1 [] none, .no] ((_) ∧ (_)) [(2, sV .u8 (l ++ (pbL (qG l) 4)) (m + 4))] [] 1 ⟨(k9k l m zo zo (kS : Byt l)), (s7 l m (qG l) zo zo cX)⟩ ?_
  refine AW.ret ?_
  exact kC (.inr rfl) [] (P := (k9 (dI .u8 (l ++ (pbL (qG l) 4)))) ∧ (kM (m + 4))) zk ⟨rfl, rfl⟩
theorem k3r (l : List Int) (m : Nat) (hm : ka1 l = m) (hb : m ≤ 900000) (hy : Byt l) : Fun 10 [.c (.d (D.sl (dI .u8 l) m))] (kG []) 0 (sV .u8 (l ++ (pbL (qG l) 4)) (m + 4)) (kG []) 0 := by
  refine Fun.mk (n := 5) Try.func10 rfl rfl (ka5 rfl) ?_
  intro cx hcx
  refine kK [.no] True [(0, sV .u8 l m)] [] 0 trivial ?_
  refine kX [.no, .call [] (sV .u8 (l ++ (pbL (qG l) 4)) (m + 4)) [] 0 [] none, .no] _ [(2, sV .u8 (l ++ (pbL (qG l) 4)) (m + 4))] (k3t l m zo zo (kS : Byt l)) ?_
  refine AW.ret ?_
  exact kC (.inr rfl) [] (P := (k9 (dI .u8 (l ++ (pbL (qG l) 4)))) ∧ (kM (m + 4))) zk ⟨rfl, rfl⟩
abbrev yR (m : Nat) (sd : List Int) := kA (List.take (min m 300) sd) 2
abbrev yJ (m : Nat) (sd : List Int) := kA (kA (kA (yR m sd) 256) 3) 4
theorem k9m (sd : List Int) (m : Nat) (hn : ka1 sd = m) (hb : m ≤ 9223372036854775807) (hy : Byt sd) : Fun 8 [.c (.d (D.sl (dI .u8 sd) m))] (kG []) 0 (.e (.agg [.d (D.lit (.int .u64 (((kB (kA (aG m sd) 2) 256) : Nat) : Int))), .d (D.lit (.string (strOfNums (ka0 jQ (kB (kA (kA (aG m sd) 2) 256) 3) ([] : List Int))))), iC (1 + (((kB (aG m sd) 2) : Nat) : Int)), iC (((kB (kA (kA (kA (aG m sd) 2) 256) 3) 4) : Nat) : Int), iC (((kB (kA (kA (kA (kA (aG m sd) 2) 256) 3) 4) 200) : Nat) : Int), iC (ka0 ([0, 66, 200, 7] : List Int) (kB (kA (kA (kA (kA (kA (aG m sd) 2) 256) 3) 4) 200) 4) 0), iC (((kB (kA (kA (kA (kA (kA (kA (aG m sd) 2) 256) 3) 4) 200) 4) 4) : Nat) : Int), .d (D.sl (qH (vH (kA (kA (kA (kA (kA (kA (kA (aG m sd) 2) 256) 3) 4) 200) 4) 4))) (ka1 (vH (kA (kA (kA (kA (kA (kA (kA (aG m sd) 2) 256) 3) 4) 200) 4) 4))))])) (kG []) 0 := by
  refine Fun.mk (n := 11) Try.func8 rfl rfl (ka5 rfl) ?_
  intro cx hcx
  refine kK [.no] True [(0, sV .u8 sd m), (2, rV 0 0)] [(0, some (31, .ds [D.lit (.int .u64 0), D.lit (.string { data := #[] }), iD 0, iD 0, iD 0, iD 0, iD 0, qI]))] 1 trivial ?_
  refine kK [.no, .call [] (rV 0 0) [(0, some (66, .ds [db (aG m sd) (ka1 (aG m sd))]))] 1 [] none, .no] _ [(2, rV 0 0), (3, rV 1 0)] [(0, some (31, .ds [D.lit (.int .u64 0), D.lit (.string { data := #[] }), iD 0, iD 0, iD 0, iD 0, iD 0, qI])), (1, some (66, .ds [db (aG m sd) (ka1 (aG m sd))]))] 2 (k7e sd m zo zo) ?_
  have hx1 : ((((((kB (aG m sd) 2) : Nat) : Int) < 2) ∨ ((kB (aG m sd) 2) = 0)) ∧ ((kB (aG m sd) 2) ≤ 255)) := kO (aG m sd) (2 : Int) ((Byt.take (kS : Byt sd) _))
  have hx2 : (Byt (yR m sd)) := kF (2 : Int) ((Byt.take (kS : Byt sd) _))
  refine kK [.no, .no, .call [1] (uV (kB (aG m sd) 2)) [(0, some (66, .ds [db (yR m sd) (ka1 (yR m sd))]))] 1 [] none, .w, .call [1] (.e (.agg [.d (D.lit (.int .u64 (kB (yR m sd) 256 : Int))), .d (D.lit (.string (strOfNums (ka0 jQ (kB (kA (yR m sd) 256) 3) ([] : List Int))))), iC (1 + (kB (aG m sd) 2 : Int)), iC (kB (kA (kA (yR m sd) 256) 3) 4 : Int), uC (kB (yJ m sd) 200), iC (ka0 ([0, 66, 200, 7] : List Int) (kB (kA (yJ m sd) 200) 4) 0), iC (kB (kA (kA (yJ m sd) 200) 4) 4 : Int), .d (D.sl (qH (vH (kA (kA (kA (yJ m sd) 200) 4) 4))) (ka1 (vH (kA (kA (kA (yJ m sd) 200) 4) 4))))])) [(0, some (66, .ds [db (bcD (kA (kA (kA (yJ m sd) 200) 4) 4)) (ka1 (bcD (kA (kA (kA (yJ m sd) 200) 4) 4)))]))] 1 [] none, .no] ((_) ∧ (qM (1 + (kB (aG m sd) 2 : Int))) ∧ (_)) [(2, rV 0 0)] [(0, some (31, .ds [D.lit (.int .u64 (kB (yR m sd) 256 : Int)), D.lit (.string (strOfNums (ka0 jQ (kB (kA (yR m sd) 256) 3) ([] : List Int)))), iD (1 + (kB (aG m sd) 2 : Int)), iD (kB (kA (kA (yR m sd) 256) 3) 4 : Int), uD (kB (yJ m sd) 200), iD (ka0 ([0, 66, 200, 7] : List Int) (kB (kA (yJ m sd) 200) 4) 0), iD (kB (kA (kA (yJ m sd) 200) 4) 4 : Int), D.sl (qH (vH (kA (kA (kA (yJ m sd) 200) 4) 4))) (ka1 (vH (kA (kA (kA (yJ m sd) 200) 4) 4)))]))] 2 ⟨(qW (aG m sd) 2 (Byt.take (kS : Byt sd) _)), ⟨by omega, by omega⟩, (wY (yR m sd) (1 + (kB (aG m sd) 2 : Int)) (kS : Byt (yR m sd)))⟩ ?_
  refine AW.ret ?_
  exact kC (.inr rfl) [] (P := (kN (kB (yR m sd) 256 : Int)) ∧ ((.string (strOfNums (ka0 jQ (kB (kA (yR m sd) 256) 3) ([] : List Int))) : Value) = .string (strOfNums (ka0 jQ (kB (kA (yR m sd) 256) 3) ([] : List Int)))) ∧ (kN (1 + (kB (aG m sd) 2 : Int))) ∧ (kN (kB (kA (kA (yR m sd) 256) 3) 4 : Int)) ∧ (kN (kB (yJ m sd) 200 : Int)) ∧ (kN (ka0 ([0, 66, 200, 7] : List Int) (kB (kA (yJ m sd) 200) 4) 0)) ∧ (kN (kB (kA (kA (yJ m sd) 200) 4) 4 : Int)) ∧ (k9 (qH (vH (kA (kA (kA (yJ m sd) 200) 4) 4)))) ∧ (kM (ka1 (vH (kA (kA (kA (yJ m sd) 200) 4) 4))))) zk ⟨rfl, rfl, rfl, rfl, rfl, rfl, rfl, rfl, rfl⟩
theorem k9f (sd : List Int) (m : Nat) (hn : ka1 sd = m) (hb : m ≤ 9223372036854775807) (hy : Byt sd) : ∃ (id : Int) (nm : List Int) (d1 : Int) (d2 : Int) (d3 : Int) (d4 : Int) (d5 : Int) (bs : List Bx) (n : Nat), (DeW id nm d1 d2 d3 d4 d5 bs n) ∧ (Fun 8 [.c (.d (D.sl (dI .u8 sd) m))] (kG []) 0 (.e (.agg [.d (D.lit (.int .u64 id)), .d (D.lit (.string (strOfNums nm))), iC d1, iC d2, iC d3, iC d4, iC d5, .d (D.sl (qH bs) n)])) (kG []) 0) := ⟨(((kB (kA (aG m sd) 2) 256) : Nat) : Int), (ka0 jQ (kB (kA (kA (aG m sd) 2) 256) 3) ([] : List Int)), (1 + (((kB (aG m sd) 2) : Nat) : Int)), (((kB (kA (kA (kA (aG m sd) 2) 256) 3) 4) : Nat) : Int), (((kB (kA (kA (kA (kA (aG m sd) 2) 256) 3) 4) 200) : Nat) : Int), (ka0 ([0, 66, 200, 7] : List Int) (kB (kA (kA (kA (kA (kA (aG m sd) 2) 256) 3) 4) 200) 4) 0), (((kB (kA (kA (kA (kA (kA (kA (aG m sd) 2) 256) 3) 4) 200) 4) 4) : Nat) : Int), (vH (kA (kA (kA (kA (kA (kA (kA (aG m sd) 2) 256) 3) 4) 200) 4) 4)), (ka1 (vH (kA (kA (kA (kA (kA (kA (kA (aG m sd) 2) 256) 3) 4) 200) 4) 4))), u1m _ _ (kF 2 (hy.take _)) (by have h9 := kO (aG m sd) 2 (hy.take _); omega), k9m sd m hn hb hy⟩
theorem k9h   : Fun 6 [] (kG []) 0 (bV true) (kG []) 0 := by
  have h4a : u5 ([] : List Int) = 4 := u47
  have h4b : u5 (ka6 8 0) = 6 := u46
  refine Fun.mk (n := 43) Try.func6 rfl rfl (ka5 rfl) ?_
  intro cx hcx
  refine kK [.no] True [] [] 0 trivial ?_
  have hx1 : (((0 : Int) ≤ (u5 ([] : List Int))) ∧ ((u5 ([] : List Int)) ≤ 6)) := (fY ([] : List Int))
  have hx2 : ((ka1 (vM ([] : List Int))) ≤ 65535) := (fX ((Byt.nil)))
  have hx3 : (BsW (vM ([] : List Int))) := (wP ((Byt.nil)))
  have hx4 : ((ka1 (cT ([] : List Int))) ≤ 64) := (fW ([] : List Int))
  refine kK (.call [] (.tup [.agg [.d (D.lit (.int .u64 (nR ([] : List Int)))), .d (D.lit (.string (strOfNums (cT ([] : List Int))))), iC (nX ([] : List Int)), iC (nW ([] : List Int)), iC (nU ([] : List Int)), iC (nT ([] : List Int)), iC (nS ([] : List Int)), .d (D.sl (qH (vM ([] : List Int))) (ka1 (vM ([] : List Int))))], iE (u5 ([] : List Int))]) [] 0 [] none :: kU 6 []) _ [(2, iV (u5 ([] : List Int)))] [] 1 (eD ([] : List Int) 0 cX zo (Byt.nil)) ?_
  have hx5 : (((0 : Int) ≤ (u5 (ka6 8 0))) ∧ ((u5 (ka6 8 0)) ≤ 6)) := (fY (ka6 8 0))
  have hx6 : ((ka1 (vM (ka6 8 0))) ≤ 65535) := (fX ((Byt.rep _ zo)))
  have hx7 : (BsW (vM (ka6 8 0))) := (wP ((Byt.rep _ zo)))
  have hx8 : ((ka1 (cT (ka6 8 0))) ≤ 64) := (fW (ka6 8 0))
  refine kK ((.fz (.mk 8 8 (dI .u8 (ka6 8 0)))) :: .call [] (.tup [.agg [.d (D.lit (.int .u64 (nR (ka6 8 0)))), .d (D.lit (.string (strOfNums (cT (ka6 8 0))))), iC (nX (ka6 8 0)), iC (nW (ka6 8 0)), iC (nU (ka6 8 0)), iC (nT (ka6 8 0)), iC (nS (ka6 8 0)), .d (D.sl (qH (vM (ka6 8 0))) (ka1 (vM (ka6 8 0))))], iE (u5 (ka6 8 0))]) [] 0 [] none :: kU 6 []) ((kN 8) ∧ (kN 8) ∧ (8 ≤ 8) ∧ (1 * 8 ≤ 281474976710656) ∧ (ka6 8 (D.lit (.int .u8 0)) = dI .u8 (ka6 8 0)) ∧ (((dI .u8 (ka6 8 0)) : List D).length = 8 * 1) ∧ (_)) [(2, iV (u5 ([] : List Int))), (4, iV (u5 (ka6 8 0)))] [] 3 ⟨rfl, rfl, zo, zo, (aJ _ _ _), (by first | omega | (simp only [kR, kQ, pbL_len, uB, qR, qL, ka4, kb3, kb5, kb1, kb2, kb4, kc3, List.length_map, List.length_reverse, Nat.mul_one] <;> omega) | rfl), (eD (ka6 8 0) 8 cX zo (Byt.rep _ zo))⟩ ?_
  obtain ⟨id1, nm2, d23, d34, d45, d56, bs7, n8, q9, hx9, hx10, hF9⟩ := (k5y ([] : List Int) 1 (Byt.nil) cX)
  refine kK [.call [] (rV 0 0) [(0, some (66, .ds [db ([] : List Int) 0]))] 1 [] none, .call [3] (.e (.agg [.d (D.lit (.int .u64 id1)), .d (D.lit (.string (strOfNums nm2))), iC 1, iC d23, iC d34, iC d45, iC d56, .d (D.sl (qH bs7) n8)])) [(0, some (66, .ds [db q9 (ka1 q9)]))] 1 [] none, .no, .no] ((_) ∧ (_)) [(2, iV (u5 ([] : List Int))), (4, iV (u5 (ka6 8 0))), (5, rV 4 0)] [(4, some (31, .ds [D.lit (.int .u64 id1), D.lit (.string (strOfNums nm2)), iD 1, iD d23, iD d34, iD d45, iD d56, D.sl (qH bs7) n8]))] 5 ⟨(Fun.cv (k7e ([] : List Int) 0 cX zo) (y' := rV 0 0) (g1' := kG [(0, some (66, .ds [db ([] : List Int) 0]))]) zk zk), hF9⟩ ?_
  obtain ⟨B10, z11, hx11, hx12, hx13, hx14, hx15, hF11⟩ := (rA id1 nm2 1 d23 d34 d45 d56 bs7 n8 cX)
  refine kK (.no :: .call [] (.tup [.c (.d (db (B10 ++ (pbL (qG B10) 4)) (z11 + 4))), iE 0]) [] 0 [] none :: kU 5 []) _ [(2, iV (u5 ([] : List Int))), (4, iV (u5 (ka6 8 0))), (5, rV 4 0), (6, sV .u8 (B10 ++ (pbL (qG B10) 4)) (z11 + 4)), (7, iV 0)] [(4, some (31, .ds [D.lit (.int .u64 id1), D.lit (.string (strOfNums nm2)), iD 1, iD d23, iD d34, iD d45, iD d56, D.sl (qH bs7) n8]))] 5 hF11 ?_
  refine kK [.no, .b true, .no, .no, .b true, .no, .no, .no, .b true, .no, .no, .no, .no, .b true, .no, .no, .no, .call [] (bV true) [] 0 [] none, .no, .no] ((((u5 ([] : List Int)) = 4)) ∧ (((u5 (ka6 8 0)) = 6)) ∧ ((kN 0)) ∧ (((20 : Int) < (((z11 + 4) : Nat) : Int))) ∧ (_)) [(0, bV true)] [] 5 ⟨zo, zo, zo, zo, (k5x id1 nm2 1 d23 d34 d45 d56 bs7 n8 cX)⟩ ?_
  refine AW.ret ?_
  exact kC (.inr rfl) [] (P := (true = true)) zk rfl
end Go.Proofs.Ytalbpleglapihaa
