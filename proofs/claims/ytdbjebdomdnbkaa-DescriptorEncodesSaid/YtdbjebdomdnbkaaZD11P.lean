/- Merged texts. -/
import Derived.Test.YtdbjebdomdnbkaaZD11F
namespace Go.Proofs.Ytdbjebdomdnbkaa
open Go.ChangeShapes Go.WideShapes Go.ChangeAt Go.RowKit
set_option linter.unusedVariables false
set_option linter.unusedSimpArgs false
/-! chapter 11: the bytes of valid descriptors -/
set_option maxHeartbeats 4000000
set_option maxRecDepth 100000
def DeB (B : List Int) : Prop := ∃ (id : Int) (nm : List Int) (d1 d2 d3 d4 d5 : Int) (bs : List Bx) (n : Nat), DeW id nm d1 d2 d3 d4 d5 bs n ∧ B = jK id nm d1 d2 d3 d4 d5 bs
theorem u81 : vQ 4294967295 8 = 771559538 := by
  have h0 : vQ 4294967295 0 = 4294967295 := rfl
  have h1 : vQ 4294967295 1 = 2454158559 := (cV h0 (by kernel_rfl)).trans (by kernel_rfl)
  have h2 : vQ 4294967295 2 = 2761637199 := (cV h1 (by kernel_rfl)).trans (by kernel_rfl)
  have h3 : vQ 4294967295 3 = 3220512135 := (cV h2 (by kernel_rfl)).trans (by kernel_rfl)
  have h4 : vQ 4294967295 4 = 2990673379 := (cV h3 (by kernel_rfl)).trans (by kernel_rfl)
  have h5 : vQ 4294967295 5 = 3029960145 := (cV h4 (by kernel_rfl)).trans (by kernel_rfl)
  have h6 : vQ 4294967295 6 = 3086238152 := (cV h5 (by kernel_rfl)).trans (by kernel_rfl)
  have h7 : vQ 4294967295 7 = 1543119076 := (cW h6 (by decide)).trans (by kernel_rfl)
  have h8 : vQ 4294967295 8 = 771559538 := (cW h7 (by decide)).trans (by kernel_rfl)
  exact h8
theorem u80 : vQ 771559538 8 = 3190222080 := by
  have h0 : vQ 771559538 0 = 771559538 := rfl
  have h1 : vQ 771559538 1 = 385779769 := (cW h0 (by decide)).trans (by kernel_rfl)
  have h2 : vQ 771559538 2 = 3871852348 := (cV h1 (by kernel_rfl)).trans (by kernel_rfl)
  have h3 : vQ 771559538 3 = 1935926174 := (cW h2 (by decide)).trans (by kernel_rfl)
  have h4 : vQ 771559538 4 = 967963087 := (cW h3 (by decide)).trans (by kernel_rfl)
  have h5 : vQ 771559538 5 = 4049632199 := (cV h4 (by kernel_rfl)).trans (by kernel_rfl)
  have h6 : vQ 771559538 6 = 2500378307 := (cV h5 (by kernel_rfl)).trans (by kernel_rfl)
  have h7 : vQ 771559538 7 = 2805783617 := (cV h6 (by kernel_rfl)).trans (by kernel_rfl)
  have h8 : vQ 771559538 8 = 3190222080 := (cV h7 (by kernel_rfl)).trans (by kernel_rfl)
  exact h8
theorem u7z : vQ 3190222080 8 = 12461805 := by
  have h0 : vQ 3190222080 0 = 3190222080 := rfl
  have h1 : vQ 3190222080 1 = 1595111040 := (cW h0 (by decide)).trans (by kernel_rfl)
  have h2 : vQ 3190222080 2 = 797555520 := (cW h1 (by decide)).trans (by kernel_rfl)
  have h3 : vQ 3190222080 3 = 398777760 := (cW h2 (by decide)).trans (by kernel_rfl)
  have h4 : vQ 3190222080 4 = 199388880 := (cW h3 (by decide)).trans (by kernel_rfl)
  have h5 : vQ 3190222080 5 = 99694440 := (cW h4 (by decide)).trans (by kernel_rfl)
  have h6 : vQ 3190222080 6 = 49847220 := (cW h5 (by decide)).trans (by kernel_rfl)
  have h7 : vQ 3190222080 7 = 24923610 := (cW h6 (by decide)).trans (by kernel_rfl)
  have h8 : vQ 3190222080 8 = 12461805 := (cW h7 (by decide)).trans (by kernel_rfl)
  exact h8
theorem u7y : vQ 12461805 8 = 3736805603 := by
  have h0 : vQ 12461805 0 = 12461805 := rfl
  have h1 : vQ 12461805 1 = 3991375958 := (cV h0 (by kernel_rfl)).trans (by kernel_rfl)
  have h2 : vQ 12461805 2 = 1995687979 := (cW h1 (by decide)).trans (by kernel_rfl)
  have h3 : vQ 12461805 3 = 3602999093 := (cV h2 (by kernel_rfl)).trans (by kernel_rfl)
  have h4 : vQ 12461805 4 = 2262315194 := (cV h3 (by kernel_rfl)).trans (by kernel_rfl)
  have h5 : vQ 12461805 5 = 1131157597 := (cW h4 (by decide)).trans (by kernel_rfl)
  have h6 : vQ 12461805 6 = 3423506190 := (cV h5 (by kernel_rfl)).trans (by kernel_rfl)
  have h7 : vQ 12461805 7 = 1711753095 := (cW h6 (by decide)).trans (by kernel_rfl)
  have h8 : vQ 12461805 8 = 3736805603 := (cV h7 (by kernel_rfl)).trans (by kernel_rfl)
  exact h8
theorem u7e : wU [0, 0, 0, 0] 0 = 4294967295 := rfl
theorem u7d : wU [0, 0, 0, 0] 1 = 771559538 := k18 u7e ((show vQ (vU 4294967295 (List.getD [0, 0, 0, 0] 0 0)) 8 = vQ 4294967295 8 from congrArg (fun x => vQ x 8) (by kernel_rfl)).trans u81)
theorem u7c : wU [0, 0, 0, 0] 2 = 3190222080 := k18 u7d ((show vQ (vU 771559538 (List.getD [0, 0, 0, 0] 1 0)) 8 = vQ 771559538 8 from congrArg (fun x => vQ x 8) (by kernel_rfl)).trans u80)
theorem u7b : wU [0, 0, 0, 0] 3 = 12461805 := k18 u7c ((show vQ (vU 3190222080 (List.getD [0, 0, 0, 0] 2 0)) 8 = vQ 3190222080 8 from congrArg (fun x => vQ x 8) (by kernel_rfl)).trans u7z)
theorem u7a : wU [0, 0, 0, 0] 4 = 3736805603 := k18 u7b ((show vQ (vU 12461805 (List.getD [0, 0, 0, 0] 3 0)) 8 = vQ 12461805 8 from congrArg (fun x => vQ x 8) (by kernel_rfl)).trans u7y)
theorem u7f : aR [0, 0, 0, 0] = 558161692 := (k2u (l := [0, 0, 0, 0]) rfl rfl u7a).symm.trans (by kernel_rfl)
theorem u7x : aB [] = 4 := u67 rfl (by decide)
theorem u7w : aB [0, 0, 0, 0, 0, 0, 0, 0] = 6 := u6a rfl (by decide) (by
  show ¬ g32 [0, 0, 0, 0, 0, 0, 0, 0] 4 = aR [0, 0, 0, 0]
  rw [u7f]; decide)
theorem k6k (id : Int) (nm : List Int) (d1 d2 d3 d4 d5 : Int) (bs : List Bx) (n : Nat) (hD : DeW id nm d1 d2 d3 d4 d5 bs n) : ∃ (B : List Int) (z : Nat), (B = jK id nm d1 d2 d3 d4 d5 bs) ∧ (DeB B) ∧ (Byt B) ∧ (List.length B = z) ∧ (26 ≤ z ∧ z ≤ 20000) ∧ (Fun 8 [.agg [.d (D.lit (.int .u64 id)), .d (D.lit (.string (strOfNums nm))), iC d1, iC d2, iC d3, iC d4, iC d5, .d (D.sl (kR bs) n)]] (kF []) 0 (.tup [.c (.d (D.sl (dI .u8 (B ++ (pbL (aR B) 4))) (z + 4))), iE 0]) (kF []) 0) := by
  obtain ⟨h1, h2⟩ := hD.r
  have hl := hD.l; have hn := hD.n; have hd := hD.d; have hi := hD.i
  refine ⟨jK id nm d1 d2 d3 d4 d5 bs, List.length (vV bs) + List.length nm + 25, rfl, ⟨id, nm, d1, d2, d3, d4, d5, bs, n, hD, rfl⟩, k0w hD.y hl.2, by rw [dL]; omega, by omega, ?_⟩
  exact wS id nm d1 d2 d3 d4 d5 bs n hD.y hl.2 hn.1 hn.2.2 hD.w h1 (by omega) (by omega) (by omega) hD.vd
theorem k9b (id : Int) (nm : List Int) (d1 d2 d3 d4 d5 : Int) (bs : List Bx) (n : Nat) (hD : DeW id nm d1 d2 d3 d4 d5 bs n) : Fun 10 [.agg [.d (D.lit (.int .u64 id)), .d (D.lit (.string (strOfNums nm))), iC d1, iC d2, iC d3, iC d4, iC d5, .d (D.sl (kR bs) n)]] (kF []) 0 (bV true) (kF []) 0 := by
  have hl := hD.l; have hn := hD.n
  have h := fF id nm d1 d2 d3 d4 d5 bs n hD.y (by omega) hn.1 (by omega) hD.w
  rw [hD.vd] at h
  exact h
theorem dN (l : List Int) (m : Nat) (n : Int) (hm : List.length l = m) (hb : m ≤ 1000000) (hn : 0 ≤ n ∧ n ≤ 4294967295) : Fun 27 [.c (.d (D.sl (dI .u8 l) m)), .c (.d (D.lit (.int .u32 n)))] (kF []) 0 (sV .u8 (l ++ (pbL n 4)) (m + 4)) (kF []) 1 := (Fun.frz (y := oV 0 0 (m + 4) 1) (g1 := [(0, some (5, .ds (dI .u8 (l ++ (pbL n 4)))))]) (y' := sV .u8 (l ++ (pbL n 4)) (m + 4)) (g1' := []) (ds := (dI .u8 (l ++ (pbL n 4)))) 0 (W_rPut32 l m n hm hb hn) rfl FzG.nil (.e (.c (FzC.wh ((by simp only [List.length_append, pbL_len]; omega))))))
theorem iB {p : Prop} (h : p := by first | omega | with_reducible assumption | (simp only [kU, kT, pbL_len, qD, qB, List.length_append, List.length_cons, List.length_nil, List.length_take, List.length_drop, List.length_replicate, List.length_set] <;> omega) | rfl | assumption) : p := h
theorem u36   : Fun 4 [] (kF []) 0 (bV true) (kF []) 0 := by
  have h4a : aB ([] : List Int) = 4 := u7x
  have h4b : aB (List.replicate 8 0) = 6 := u7w
  refine Fun.mk (n := 43) Try.func4 rfl rfl (Nat.le_of_ble_eq_true rfl) ?_
  intro cx hcx
  refine kI [.no] True [] [] 0 trivial ?_
  have hx1 : (((0 : Int) ≤ (aB ([] : List Int))) ∧ ((aB ([] : List Int)) ≤ 6)) := (k0t ([] : List Int))
  have hx2 : ((List.length (f4 ([] : List Int))) ≤ 65535) := (k0s ((Byt.nil)))
  have hx3 : (BsW (f4 ([] : List Int))) := (u0i ((Byt.nil)))
  have hx4 : ((List.length (sW ([] : List Int))) ≤ 64) := (k0r ([] : List Int))
  refine kI (.call [] (.tup [.agg [.d (D.lit (.int .u64 (dfI ([] : List Int)))), .d (D.lit (.string (strOfNums (sW ([] : List Int))))), iC (df1 ([] : List Int)), iC (df2 ([] : List Int)), iC (df3 ([] : List Int)), iC (df4 ([] : List Int)), iC (df5 ([] : List Int)), .d (D.sl (kR (f4 ([] : List Int))) (List.length (f4 ([] : List Int))))], iE (aB ([] : List Int))]) [] 0 [] none :: kJ 6 []) _ [(2, iV (aB ([] : List Int)))] [] 1 (wT ([] : List Int) 0 iB zo (Byt.nil)) ?_
  have hx5 : (((0 : Int) ≤ (aB (List.replicate 8 0))) ∧ ((aB (List.replicate 8 0)) ≤ 6)) := (k0t (List.replicate 8 0))
  have hx6 : ((List.length (f4 (List.replicate 8 0))) ≤ 65535) := (k0s ((Byt.rep _ zo)))
  have hx7 : (BsW (f4 (List.replicate 8 0))) := (u0i ((Byt.rep _ zo)))
  have hx8 : ((List.length (sW (List.replicate 8 0))) ≤ 64) := (k0r (List.replicate 8 0))
  refine kI ((.fz (.mk 8 8 (dI .u8 (List.replicate 8 0)))) :: .call [] (.tup [.agg [.d (D.lit (.int .u64 (dfI (List.replicate 8 0)))), .d (D.lit (.string (strOfNums (sW (List.replicate 8 0))))), iC (df1 (List.replicate 8 0)), iC (df2 (List.replicate 8 0)), iC (df3 (List.replicate 8 0)), iC (df4 (List.replicate 8 0)), iC (df5 (List.replicate 8 0)), .d (D.sl (kR (f4 (List.replicate 8 0))) (List.length (f4 (List.replicate 8 0))))], iE (aB (List.replicate 8 0))]) [] 0 [] none :: kJ 6 []) ((kN 8) ∧ (kN 8) ∧ (8 ≤ 8) ∧ (1 * 8 ≤ 281474976710656) ∧ (List.replicate 8 (D.lit (.int .u8 0)) = dI .u8 (List.replicate 8 0)) ∧ (((dI .u8 (List.replicate 8 0)) : List D).length = 8 * 1) ∧ (_)) [(2, iV (aB ([] : List Int))), (4, iV (aB (List.replicate 8 0)))] [] 3 ⟨rfl, rfl, zo, zo, (dF _ _ _), (by first | omega | (simp only [kU, kT, pbL_len, qD, qB, qM, List.length_append, List.length_cons, List.length_nil, List.length_take, List.length_drop, List.length_replicate, List.length_set, List.length_map, List.length_reverse, Nat.mul_one] <;> omega) | rfl), (wT (List.replicate 8 0) 8 iB zo (Byt.rep _ zo))⟩ ?_
  obtain ⟨id1, nm2, d23, d34, d45, d56, bs7, n8, q9, hx9, hx10, hF9⟩ := (k9c ([] : List Int) 1 (Byt.nil) iB)
  refine kI [.call [] (rV 0 0) [(0, some (77, .ds [db ([] : List Int) 0]))] 1 [] none, .call [3] (.e (.agg [.d (D.lit (.int .u64 id1)), .d (D.lit (.string (strOfNums nm2))), iC 1, iC d23, iC d34, iC d45, iC d56, .d (D.sl (kR bs7) n8)])) [(0, some (77, .ds [db q9 (List.length q9)]))] 1 [] none, .no, .no] ((_) ∧ (_)) [(2, iV (aB ([] : List Int))), (4, iV (aB (List.replicate 8 0))), (5, rV 4 0)] [(4, some (25, .ds [D.lit (.int .u64 id1), D.lit (.string (strOfNums nm2)), iD 1, iD d23, iD d34, iD d45, iD d56, D.sl (kR bs7) n8]))] 5 ⟨(Fun.cv (u0y ([] : List Int) 0 iB zo) (y' := rV 0 0) (g1' := kF [(0, some (77, .ds [db ([] : List Int) 0]))]) zk zk), hF9⟩ ?_
  obtain ⟨B10, z11, hx11, hx12, hx13, hx14, hx15, hF11⟩ := (k6k id1 nm2 1 d23 d34 d45 d56 bs7 n8 iB)
  refine kI (.no :: .call [] (.tup [.c (.d (db (B10 ++ (pbL (aR B10) 4)) (z11 + 4))), iE 0]) [] 0 [] none :: kJ 5 []) _ [(2, iV (aB ([] : List Int))), (4, iV (aB (List.replicate 8 0))), (5, rV 4 0), (6, sV .u8 (B10 ++ (pbL (aR B10) 4)) (z11 + 4)), (7, iV 0)] [(4, some (25, .ds [D.lit (.int .u64 id1), D.lit (.string (strOfNums nm2)), iD 1, iD d23, iD d34, iD d45, iD d56, D.sl (kR bs7) n8]))] 5 hF11 ?_
  refine kI [.no, .b true, .no, .no, .b true, .no, .no, .no, .b true, .no, .no, .no, .no, .b true, .no, .no, .no, .call [] (bV true) [] 0 [] none, .no, .no] ((((aB ([] : List Int)) = 4)) ∧ (((aB (List.replicate 8 0)) = 6)) ∧ ((kN 0)) ∧ (((20 : Int) < (((z11 + 4) : Nat) : Int))) ∧ (_)) [(0, bV true)] [] 5 ⟨zo, zo, zo, zo, (k9b id1 nm2 1 d23 d34 d45 d56 bs7 n8 iB)⟩ ?_
  refine AW.ret ?_
  exact kC (.inr rfl) [] (P := (true = true)) zk rfl
end Go.Proofs.Ytdbjebdomdnbkaa
namespace Go.Proofs.Ytdbjebdomdnbkaa
open Go.ChangeShapes Go.WideShapes Go.ChangeAt Go.RowKit
set_option linter.unusedVariables false
set_option linter.unusedSimpArgs false
/-! chapter 11: what was written is read again -/
def Pf (l : List Int) (a : Nat) (E : List Int) : Prop := ∃ x r, l = x ++ (E ++ r) ∧ x.length = a
theorem Pf.l {l E F : List Int} {a : Nat} (h : Pf l a (E ++ F)) : Pf l a E := by
  obtain ⟨x, r, e, hx⟩ := h
  exact ⟨x, F ++ r, by rw [e, List.append_assoc], hx⟩
theorem Pf.r {l E F : List Int} {a : Nat} (h : Pf l a (E ++ F)) : Pf l (a + E.length) F := by
  obtain ⟨x, r, e, hx⟩ := h
  exact ⟨x ++ E, r, by rw [e]; simp only [List.append_assoc], by rw [List.length_append, hx]⟩
theorem Pf.le {l E : List Int} {a : Nat} (h : Pf l a E) : a + E.length ≤ l.length := by
  obtain ⟨x, r, e, hx⟩ := h
  rw [e, List.length_append, List.length_append]; omega
theorem Pf.at {l E : List Int} {a : Nat} (h : Pf l a E) {i : Nat} (hi : i < E.length) : List.getD l (a + i) 0 = List.getD E i 0 := by
  obtain ⟨x, r, e, hx⟩ := h
  rw [e, xT (by omega), show a + i - x.length = i by omega, dB hi]
theorem Pf.sl {l E : List Int} {a : Nat} (h : Pf l a E) : List.take E.length (List.drop a l) = E := by
  obtain ⟨x, r, e, hx⟩ := h
  subst hx
  rw [e, List.drop_left, List.take_left]
theorem u7p (n : Int) : pbL n 2 = [n % 256, n / 256 % 256] := by simp [pbL]
theorem u7o (n : Int) : pbL n 4 = [n % 256, n / 256 % 256, n / 65536 % 256, n / 16777216 % 256] := by simp [pbL]
theorem u7n (n : Int) : pbL n 8 = [n % 256, n / 256 % 256, n / 65536 % 256, n / 16777216 % 256, n / 4294967296 % 256, n / 1099511627776 % 256, n / 281474976710656 % 256, n / 72057594037927936 % 256] := by simp [pbL]
theorem u5c {l : List Int} {a : Nat} {n : Int} (h : Pf l a (pbL n 2)) (hn : 0 ≤ n ∧ n ≤ 65535) : g16 l a = n := by
  rw [u7p] at h
  have h0 := h.at (i := 0) (by simp); have h1 := h.at (i := 1) (by simp)
  have e0 : List.getD [n % 256, n / 256 % 256] 0 0 = n % 256 := rfl
  have e1 : List.getD [n % 256, n / 256 % 256] 1 0 = n / 256 % 256 := rfl
  unfold g16; omega
theorem u5b {l : List Int} {a : Nat} {n : Int} (h : Pf l a (pbL n 4)) (hn : 0 ≤ n ∧ n ≤ 4294967295) : g32 l a = n := by
  rw [u7o] at h
  have h0 := h.at (i := 0) (by simp); have h1 := h.at (i := 1) (by simp); have h2 := h.at (i := 2) (by simp); have h3 := h.at (i := 3) (by simp)
  simp only [List.getD_cons_zero, List.getD_cons_succ] at h0 h1 h2 h3
  unfold g32; omega
theorem u5a {l : List Int} {a : Nat} {n : Int} (h : Pf l a (pbL n 8)) (hn : 0 ≤ n ∧ n ≤ 18446744073709551615) : g64 l a = n := by
  rw [u7n] at h
  have h0 := h.at (i := 0) (by simp); have h1 := h.at (i := 1) (by simp); have h2 := h.at (i := 2) (by simp); have h3 := h.at (i := 3) (by simp)
  have h4 := h.at (i := 4) (by simp); have h5 := h.at (i := 5) (by simp); have h6 := h.at (i := 6) (by simp); have h7 := h.at (i := 7) (by simp)
  simp only [List.getD_cons_zero, List.getD_cons_succ] at h0 h1 h2 h3 h4 h5 h6 h7
  unfold g64; omega
theorem u1k {l E : List Int} {a s : Nat} (h : Pf l a E) (hs : E.length = s) : kG s l ⟨a, 0⟩ = ⟨a + s, 0⟩ := by
  have := h.le
  unfold kG; rw [if_pos rfl, if_pos (by show a + s ≤ _; omega)]
theorem lU {l : List Int} {a : Nat} {n : Int} (h : Pf l a (pbL n 2)) (hn : 0 ≤ n ∧ n ≤ 65535) : k9 l ⟨a, 0⟩ = n.toNat ∧ kG 2 l ⟨a, 0⟩ = ⟨a + 2, 0⟩ := by
  have h1 := h.le; rw [pbL_len] at h1
  refine ⟨?_, u1k h (pbL_len _ _)⟩
  unfold k9; rw [if_pos ⟨rfl, h1⟩]; show Int.toNat (g16 l a) = _; rw [u5c h hn]
theorem k7j {l : List Int} {a n : Nat} (h : Pf l a (pbL ((n : Nat) : Int) 2)) (hn : n ≤ 65535) : k9 l ⟨a, 0⟩ = n ∧ kG 2 l ⟨a, 0⟩ = ⟨a + 2, 0⟩ := by
  have h1 := lU h (by omega)
  exact ⟨by rw [h1.1]; exact Int.toNat_natCast n, h1.2⟩
theorem k35 {l : List Int} {a : Nat} {n : Int} (h : Pf l a (pbL n 4)) (hn : 0 ≤ n ∧ n ≤ 4294967295) : yG l ⟨a, 0⟩ = n ∧ kG 4 l ⟨a, 0⟩ = ⟨a + 4, 0⟩ := by
  have h1 := h.le; rw [pbL_len] at h1
  refine ⟨?_, u1k h (pbL_len _ _)⟩
  unfold yG; rw [if_pos ⟨rfl, h1⟩]; exact u5b h hn
theorem u4x {l : List Int} {a : Nat} {n : Int} (h : Pf l a (pbL n 8)) (hn : 0 ≤ n ∧ n ≤ 18446744073709551615) : aO l ⟨a, 0⟩ = n ∧ kG 8 l ⟨a, 0⟩ = ⟨a + 8, 0⟩ := by
  have h1 := h.le; rw [pbL_len] at h1
  refine ⟨?_, u1k h (pbL_len _ _)⟩
  unfold aO; rw [if_pos ⟨rfl, h1⟩]; exact u5a h hn
theorem u4v {l s : List Int} {a : Nat} (h : Pf l a (u7 s)) (hs : List.length s ≤ 64) : qX l ⟨a, 0⟩ = ⟨a + (1 + s.length), 0⟩ ∧ bC l ⟨a, 0⟩ = s := by
  have h1 := h.le; rw [qD] at h1
  have h2 : List.getD l a 0 = ((List.length s : Nat) : Int) := h.at (i := 0) (by rw [qD]; omega)
  have h3 : uS l a = s.length := by unfold uS; rw [h2]; exact Int.toNat_natCast _
  have h4 : g9 l a = 0 := k2p rfl (by omega) (by omega) (by omega)
  have h5 : Pf l a ([((List.length s : Nat) : Int)] ++ s) := h
  have h6 := h5.r.sl
  unfold qX bC
  rw [if_pos rfl, if_pos h4, if_pos ⟨rfl, h4⟩]
  show (⟨a + 1 + uS l a, 0⟩ : RS) = _ ∧ List.take (uS l a) (List.drop (a + 1) l) = s
  rw [h3]; exact ⟨by rw [Nat.add_assoc], h6⟩
def gR {α : Type} (h : Nat → List α) : Nat → List α
  | 0 => []
  | n + 1 => gR h n ++ h n
theorem k4j {α : Type} : ∀ (n : Nat) (h : Nat → List α), gR h (n + 1) = h 0 ++ gR (fun i => h (i + 1)) n
  | 0, h => by show [] ++ h 0 = h 0 ++ []; rw [List.append_nil]; rfl
  | n + 1, h => by
    show gR h (n + 1) ++ h (n + 1) = h 0 ++ (gR (fun i => h (i + 1)) n ++ h (n + 1))
    rw [k4j n h, List.append_assoc]
theorem mA {α : Type} {f : RS → RS} {v : RS → List α} : ∀ (n : Nat) (g : Nat → RS), (∀ i, i < n → qA (g i) = 0 ∧ f (g i) = g (i + 1)) → oC f n (g 0) = g n ∧ itV f v n (g 0) = gR (fun i => v (g i)) n
  | 0, g, _ => ⟨rfl, rfl⟩
  | n + 1, g, h => by
    have h0 := h 0 (by omega)
    have h1 := mA (f := f) (v := v) n (fun i => g (i + 1)) fun i hi => h (i + 1) (by omega)
    rw [mB h0.1, k0k h0.1, k4j n, h0.2]
    exact ⟨h1.1, by rw [h1.2]⟩
theorem mH {α : Type} {h k : Nat → List α} : ∀ n, (∀ i, i < n → h i = k i) → gR h n = gR k n
  | 0, _ => rfl
  | n + 1, e => by show gR h n ++ h n = gR k n ++ k n; rw [mH n fun i hi => e i (by omega), e n (by omega)]
theorem rT {α : Type} {l : List α} {d : α} : ∀ n, n ≤ l.length → gR (fun i => [List.getD l i d]) n = List.take n l
  | 0, _ => rfl
  | n + 1, h => by
    show gR _ n ++ [List.getD l n d] = _
    rw [rT n (by omega), List.take_add_one, List.getElem?_eq_getElem (by omega), List.getD_eq_getElem?_getD, List.getElem?_eq_getElem (by omega)]; rfl
theorem k4k {l : List Int} : ∀ n, n * 2 ≤ l.length → gR (fun i => [List.getD l (i * 2) 0, List.getD l (i * 2 + 1) 0]) n = List.take (n * 2) l
  | 0, _ => rfl
  | n + 1, h => by
    show gR _ n ++ [List.getD l (n * 2) 0, List.getD l (n * 2 + 1) 0] = _
    rw [k4k n (by omega), show (n + 1) * 2 = n * 2 + 1 + 1 by omega, List.take_add_one, List.take_add_one, List.getElem?_eq_getElem (show n * 2 < l.length by omega), List.getElem?_eq_getElem (show n * 2 + 1 < l.length by omega), List.getD_eq_getElem?_getD, List.getElem?_eq_getElem (show n * 2 < l.length by omega), List.getD_eq_getElem?_getD, List.getElem?_eq_getElem (show n * 2 + 1 < l.length by omega)]
    rw [List.append_assoc]; rfl
theorem k9l (r : List Int) (k : Nat) : ∀ n, k < n → ∃ t, o7 r n = o7 r k ++ ((pbL (List.getD r (k * 2) 0) 4 ++ pbL (List.getD r (k * 2 + 1) 0) 4) ++ t)
  | 0, h => absurd h (Nat.not_lt_zero k)
  | n + 1, h => by
    by_cases e : k = n
    · subst e; exact ⟨[], by rw [o7, List.append_nil]⟩
    · obtain ⟨t, ht⟩ := k9l r k n zo
      exact ⟨t ++ (pbL (List.getD r (n * 2) 0) 4 ++ pbL (List.getD r (n * 2 + 1) 0) 4), by rw [o7, ht]; simp only [List.append_assoc]⟩
theorem k33 {l r : List Int} {a rn : Nat} (h : Pf l a (aP r rn)) (hr : r.length = rn * 2) (hn : rn ≤ 65535) (hR : R32 r) : yE l ⟨a, 0⟩ = ⟨a + (2 + rn * 8), 0⟩ ∧ f8 l ⟨a, 0⟩ = r ∧ cB l ⟨a, 0⟩ = rn := by
  have h1 := k7j h.l hn
  have h2 := h.r; rw [pbL_len] at h2
  have h3 : ∀ i, i < rn → yG l ⟨a + 2 + i * 8, 0⟩ = List.getD r (i * 2) 0 ∧ kG 4 l ⟨a + 2 + i * 8, 0⟩ = ⟨a + 2 + i * 8 + 4, 0⟩ ∧ yG l ⟨a + 2 + i * 8 + 4, 0⟩ = List.getD r (i * 2 + 1) 0 ∧ kG 4 l ⟨a + 2 + i * 8 + 4, 0⟩ = ⟨a + 2 + (i + 1) * 8, 0⟩ := fun i hi => by
    obtain ⟨t, ht⟩ := k9l r i rn hi
    rw [ht] at h2
    have h4 := h2.r.l; rw [o6] at h4
    have h5 := k35 h4.l (hR.at (by omega))
    have h6 := h4.r; rw [pbL_len] at h6
    have h7 := k35 h6 (hR.at (by omega))
    exact ⟨h5.1, h5.2, h7.1, by rw [h7.2, show a + 2 + i * 8 + 4 + 4 = a + 2 + (i + 1) * 8 by omega]⟩
  have h8 := mA (f := seF l) (v := seX l) rn (fun i => ⟨a + 2 + i * 8, 0⟩) fun i hi => ⟨rfl, by unfold seF; rw [(h3 i hi).2.1, (h3 i hi).2.2.2]⟩
  have e2 : f8 l ⟨a, 0⟩ = r := by
    unfold f8; rw [h1.1, h1.2]
    refine h8.2.trans ((mH (k := fun i => [List.getD r (i * 2) 0, List.getD r (i * 2 + 1) 0]) rn fun i hi => ?_).trans ?_)
    · show [yG l _, yG l (kG 4 l _)] = _
      rw [(h3 i hi).1, (h3 i hi).2.1, (h3 i hi).2.2.1]
    · rw [k4k rn (by omega), ← hr, List.take_length]
  refine ⟨?_, e2, k7e e2 hr⟩
  unfold yE; rw [h1.1, h1.2]
  exact h8.1.trans (by show (⟨a + 2 + rn * 8, 0⟩ : RS) = _; rw [Nat.add_assoc])
theorem k9m (r : List Int) (k : Nat) : ∀ n, k < n → ∃ t, pC r n = pC r k ++ (pbL (List.getD r k 0) 2 ++ t)
  | 0, h => absurd h (Nat.not_lt_zero k)
  | n + 1, h => by
    by_cases e : k = n
    · subst e; exact ⟨[], by rw [pC, List.append_nil]⟩
    · obtain ⟨t, ht⟩ := k9m r k n zo
      exact ⟨t ++ pbL (List.getD r n 0) 2, by rw [pC, ht]; simp only [List.append_assoc]⟩
theorem u1j {l m : List Int} {a : Nat} (h : Pf l a (wpL m)) (hn : m.length ≤ 65535) (hR : R16 m) : hC l ⟨a, 0⟩ = ⟨a + (2 + m.length * 2), 0⟩ ∧ fP l ⟨a, 0⟩ = m := by
  have h1 := k7j h.l hn
  have h2 := h.r; rw [pbL_len] at h2
  have h3 : ∀ i, i < m.length → k9 l ⟨a + 2 + i * 2, 0⟩ = (List.getD m i 0).toNat ∧ kG 2 l ⟨a + 2 + i * 2, 0⟩ = ⟨a + 2 + (i + 1) * 2, 0⟩ := fun i hi => by
    obtain ⟨t, ht⟩ := k9m m i m.length hi
    rw [ht] at h2
    have h4 := h2.r.l; rw [pB] at h4
    have h5 := lU h4 (hR.at hi)
    exact ⟨h5.1, by rw [h5.2, show a + 2 + i * 2 + 2 = a + 2 + (i + 1) * 2 by omega]⟩
  have h8 := mA (f := kG 2 l) (v := dcX l) m.length (fun i => ⟨a + 2 + i * 2, 0⟩) fun i hi => ⟨rfl, (h3 i hi).2⟩
  refine ⟨?_, ?_⟩
  · unfold hC; rw [h1.1, h1.2]
    exact h8.1.trans (by show (⟨a + 2 + m.length * 2, 0⟩ : RS) = _; rw [Nat.add_assoc])
  · unfold fP; rw [h1.1, h1.2]
    refine h8.2.trans ((mH (k := fun i => [List.getD m i 0]) m.length fun i hi => ?_).trans ?_)
    · show [((k9 l _ : Nat) : Int)] = _
      rw [(h3 i hi).1, Int.toNat_of_nonneg (hR.at hi).1]
    · rw [rT _ (Nat.le_refl _), List.take_length]
theorem k9n (r : List (List Int)) (k : Nat) : ∀ n, k < n → ∃ t, bQ r n = bQ r k ++ (wpL (List.getD r k []) ++ t)
  | 0, h => absurd h (Nat.not_lt_zero k)
  | n + 1, h => by
    by_cases e : k = n
    · subst e; exact ⟨[], by rw [bQ, List.append_nil]⟩
    · obtain ⟨t, ht⟩ := k9n r k n zo
      exact ⟨t ++ wpL (List.getD r n []), by rw [bQ, ht]; simp only [List.append_assoc]⟩
theorem k7k {l : List Int} {m : List (List Int)} {a : Nat} (h : Pf l a (bB m)) (hn : m.length ≤ 65535) (hR : RmW m) : aX l ⟨a, 0⟩ = ⟨a + List.length (bB m), 0⟩ ∧ dW l ⟨a, 0⟩ = m := by
  have h1 := k7j h.l hn
  have h2 := h.r; rw [pbL_len] at h2
  have h3 : ∀ i, i < m.length → fP l ⟨a + 2 + List.length (bQ m i), 0⟩ = List.getD m i [] ∧ hC l ⟨a + 2 + List.length (bQ m i), 0⟩ = ⟨a + 2 + List.length (bQ m (i + 1)), 0⟩ := fun i hi => by
    obtain ⟨t, ht⟩ := k9n m i m.length hi
    rw [ht] at h2
    have h5 := u1j h2.r.l (hR.at i).2 (hR.at i).1
    exact ⟨h5.2, by rw [h5.1, u14, Nat.add_assoc (a + 2)]⟩
  have h8 := mA (f := hC l) (v := mzX l) m.length (fun i => ⟨a + 2 + List.length (bQ m i), 0⟩) fun i hi => ⟨rfl, (h3 i hi).2⟩
  refine ⟨?_, ?_⟩
  · unfold aX; rw [h1.1, h1.2]
    exact h8.1.trans (by show (⟨a + 2 + List.length (bQ m m.length), 0⟩ : RS) = _; unfold bB; rw [List.length_append, pbL_len, Nat.add_assoc])
  · unfold dW; rw [h1.1, h1.2]
    refine h8.2.trans ((mH (k := fun i => [List.getD m i []]) m.length fun i hi => ?_).trans ?_)
    · show [fP l _] = _
      rw [(h3 i hi).1]
    · rw [rT _ (Nat.le_refl _), List.take_length]
theorem k9p (r : List Bx) (k : Nat) : ∀ n, k < n → ∃ t, aV r n = aV r k ++ (wbX (vZ r k) ++ t)
  | 0, h => absurd h (Nat.not_lt_zero k)
  | n + 1, h => by
    by_cases e : k = n
    · subst e; exact ⟨[], by rw [aV, List.append_nil]⟩
    · obtain ⟨t, ht⟩ := k9p r k n zo
      exact ⟨t ++ wbX (vZ r n), by rw [aV, ht]; simp only [List.append_assoc]⟩
theorem u1l {l : List Int} {b : Bx} {a : Nat} (h : Pf l a (wbX b)) (hR : RbX b) (hW : BxW b) : dbX l ⟨a, 0⟩ = [b] ∧ dbF l ⟨a, 0⟩ = ⟨a + List.length (wbX b), 0⟩ := by
  obtain ⟨r1, r2, r3, r4, r5, r6, r7⟩ := hR
  have h1 := lU h.l r1
  have h2 := h.r; rw [pbL_len] at h2
  have h3 := k33 h2.l hW.1 r3 r2
  have h4 := h2.r; rw [qB] at h4
  have h5 := k7k h4.l r6 r7
  have h6 := h4.r
  have h7 := k33 h6 hW.2.1 r5 r4
  constructor
  · unfold dbX; rw [h1.1, h1.2, h3.2.1, h3.2.2, h3.1, h5.2, h5.1, h7.2.1, h7.2.2, Int.toNat_of_nonneg r1.1]; rfl
  · unfold dbF wbX; rw [h1.2, h3.1, h5.1, h7.1, List.length_append, List.length_append, List.length_append, pbL_len, qB, qB]
    show RS.mk _ _ = RS.mk _ _
    congr 1; omega
theorem k34 {l : List Int} {m : List Bx} {a : Nat} (h : Pf l a (vV m)) (hn : m.length ≤ 65535) (hR : RbW m) (hW : BsW m) : oM l ⟨a, 0⟩ = ⟨a + List.length (vV m), 0⟩ ∧ vR l ⟨a, 0⟩ = m := by
  have h1 := k7j h.l hn
  have h2 := h.r; rw [pbL_len] at h2
  have h3 : ∀ i, i < m.length → dbX l ⟨a + 2 + List.length (aV m i), 0⟩ = [vZ m i] ∧ dbF l ⟨a + 2 + List.length (aV m i), 0⟩ = ⟨a + 2 + List.length (aV m (i + 1)), 0⟩ := fun i hi => by
    obtain ⟨t, ht⟩ := k9p m i m.length hi
    rw [ht] at h2
    have h5 := u1l h2.r.l (hR _ (fB hi)) (hW _ (fB hi))
    exact ⟨h5.1, by rw [h5.2, aV, List.length_append, Nat.add_assoc (a + 2)]⟩
  have h8 := mA (f := dbF l) (v := dbX l) m.length (fun i => ⟨a + 2 + List.length (aV m i), 0⟩) fun i hi => ⟨rfl, (h3 i hi).2⟩
  refine ⟨?_, ?_⟩
  · unfold oM; rw [h1.1, h1.2]
    exact h8.1.trans (by show (⟨a + 2 + List.length (aV m m.length), 0⟩ : RS) = _; unfold vV; rw [List.length_append, pbL_len, Nat.add_assoc])
  · unfold vR; rw [h1.1, h1.2]
    refine h8.2.trans ((mH (k := fun i => [List.getD m i bx0]) m.length fun i hi => (h3 i hi).1).trans ?_)
    rw [rT _ (Nat.le_refl _), List.take_length]
theorem k01 {id : Int} {nm : List Int} {d1 d2 d3 d4 d5 : Int} {bs : List Bx} {n : Nat} (h : DeW id nm d1 d2 d3 d4 d5 bs n) {l : List Int} (r : List Int) (hl : l = jK id nm d1 d2 d3 d4 d5 bs ++ r) :
    fA l qG = ⟨List.length (jK id nm d1 d2 d3 d4 d5 bs), 0⟩ ∧ aO l qG = id ∧ bC l (dz1 l qG) = nm ∧ ((k9 l (jX l qG) : Nat) : Int) = d1 ∧ ((k9 l (jW l qG) : Nat) : Int) = d2 ∧ yG l (jV l qG) = d3 ∧ ((k9 l (jU l qG) : Nat) : Int) = d4 ∧ ((k9 l (jT l qG) : Nat) : Int) = d5 ∧ vR l (cG l qG) = bs := by
  have hd := h.d; have hi := h.i; have hm := h.l; have hn := h.n; have hr := h.r
  have p0 : Pf l 0 ([83, 78, 68, 49] ++ (pbL id 8 ++ (u7 nm ++ (pbL d1 2 ++ (pbL d2 2 ++ (pbL d3 4 ++ (pbL d4 2 ++ (pbL d5 2 ++ vV bs)))))))) := ⟨[], r, by rw [hl]; unfold jK; simp only [List.append_assoc, List.nil_append], rfl⟩
  have p1 : Pf l 4 (pbL id 8 ++ (u7 nm ++ (pbL d1 2 ++ (pbL d2 2 ++ (pbL d3 4 ++ (pbL d4 2 ++ (pbL d5 2 ++ vV bs))))))) := p0.r
  have q1 := u4x p1.l (by omega)
  have p2 := p1.r; rw [pbL_len] at p2
  have q2 := u4v p2.l hm.2
  have p3 := p2.r; rw [qD] at p3
  have q3 := lU p3.l (by omega)
  have p4 := p3.r; rw [pbL_len] at p4
  have q4 := lU p4.l (by omega)
  have p5 := p4.r; rw [pbL_len] at p5
  have q5 := k35 p5.l (by omega)
  have p6 := p5.r; rw [pbL_len] at p6
  have q6 := lU p6.l (by omega)
  have p7 := p6.r; rw [pbL_len] at p7
  have q7 := lU p7.l (by omega)
  have p8 := p7.r; rw [pbL_len] at p8
  have q8 := k34 p8 (by omega) hr.1 h.w
  have e1 : dz1 l qG = ⟨4 + 8, 0⟩ := q1.2
  have e2 : jX l qG = ⟨4 + 8 + (1 + nm.length), 0⟩ := by unfold jX; rw [e1]; exact q2.1
  have e3 : jW l qG = ⟨4 + 8 + (1 + nm.length) + 2, 0⟩ := by unfold jW; rw [e2]; exact q3.2
  have e4 : jV l qG = ⟨4 + 8 + (1 + nm.length) + 2 + 2, 0⟩ := by unfold jV; rw [e3]; exact q4.2
  have e5 : jU l qG = ⟨4 + 8 + (1 + nm.length) + 2 + 2 + 4, 0⟩ := by unfold jU; rw [e4]; exact q5.2
  have e6 : jT l qG = ⟨4 + 8 + (1 + nm.length) + 2 + 2 + 4 + 2, 0⟩ := by unfold jT; rw [e5]; exact q6.2
  have e7 : cG l qG = ⟨4 + 8 + (1 + nm.length) + 2 + 2 + 4 + 2 + 2, 0⟩ := by unfold cG; rw [e6]; exact q7.2
  refine ⟨?_, q1.1, ?_, ?_, ?_, ?_, ?_, ?_, ?_⟩
  · unfold fA; rw [e7, q8.1, dL]
    show RS.mk _ _ = RS.mk _ _
    congr 1; omega
  · rw [e1]; exact q2.2
  · rw [e2, q3.1]; omega
  · rw [e3, q4.1]; omega
  · rw [e4, q5.1]
  · rw [e5, q6.1]; omega
  · rw [e6, q7.1]; omega
  · rw [e7]; exact q8.2
end Go.Proofs.Ytdbjebdomdnbkaa
