/- Merged texts. -/
import Derived.Test.YtcfmjpnffembpaaGreatZJ10
import Derived.Test.YtcfmjpnffembpaaGreatZL10S
import Derived.Test.YtcfmjpnffembpaaGreatZL10W
namespace Go.Proofs.YtcfmjpnffembpaaGreat
open Go.ChangeShapes Go.WideShapes Go.ChangeAt Go.RowKit
set_option linter.unusedVariables false
set_option linter.unusedSimpArgs false
/-! chapter 10: what the laws want of intersections -/
theorem mul_64 {a b : Nat} (ha : a ≤ 5) (hb : b ≤ 5) : a * b < 64 := by
  have h1 : a * b ≤ 5 * b := Nat.mul_le_mul_right _ ha
  omega
section
variable {xs bs : List Bx} (h : BsV xs) (h2 : BsV bs) (f : BsF xs) (f2 : BsF bs) (hn : xs.length ≤ 5 ∧ bs.length ≤ 5)
include h h2 f f2 hn
theorem mb_e : ixE xs bs = 0 := (ix_ok h h2 f f2 (mul_64 hn.1 hn.2) (by omega) (by omega)).2.1
theorem mb_iff {k r : Int} {m : List Int} {z : Int} : haB (bxL (ixR xs bs)) k r m z = true ↔ haB (bxL xs) k r m z = true ∧ haB (bxL bs) k r m z = true := by
  obtain ⟨_, _, h3, h4⟩ := ix_ok h h2 f f2 (mul_64 hn.1 hn.2) zo zo
  rw [lc_iff h3 (ixR_64 _ _), h4, lc_iff h (by omega), lc_iff h2 (by omega)]
theorem ab_v {k r : Int} {m : List Int} {z : Int} {v : Bool} (hv : haB (bxL (ixR xs bs)) k r m z = v) : haB (bxL (ixR bs xs)) k r m z = v := by
  have e : haB (bxL (ixR bs xs)) k r m z = true ↔ haB (bxL (ixR xs bs)) k r m z = true := by
    rw [mb_iff h h2 f f2 hn, mb_iff h2 h f2 f ⟨hn.2, hn.1⟩]; exact And.comm
  rw [← hv]
  exact Bool.eq_iff_iff.2 e
end
theorem aa_v {xs : List Bx} (h : BsV xs) (f : BsF xs) (hn : xs.length ≤ 5) {k r : Int} {m : List Int} {z : Int} {v : Bool} (hv : haB (bxL xs) k r m z = v) : haB (bxL (ixR xs xs)) k r m z = v := by
  rw [← hv]
  exact Bool.eq_iff_iff.2 ((mb_iff h h f f ⟨hn, hn⟩).trans ⟨fun e => e.1, fun e => ⟨e, e⟩⟩)
/-! the list of one choice -/
def siB (k r : Int) (m : List Int) (z : Int) : Bx := mkBx (IntKind.i64.wrap (1 * ((2 ^ k.toNat : Nat) : Int))) [r, r] 1 [m] [z, z] 1
theorem si_k {k : Int} (h : 1 ≤ k ∧ k ≤ 7) : IntKind.i64.wrap (1 * ((2 ^ k.toNat : Nat) : Int)) = ((2 ^ k.toNat : Nat) : Int) := by
  obtain ⟨n, rfl⟩ : ∃ n : Nat, k = (n : Int) := ⟨k.toNat, by omega⟩
  rw [Int.toNat_natCast, Int.one_mul]
  have h1 : 2 ^ n ≤ 2 ^ 7 := Nat.pow_le_pow_right (by decide) (by omega)
  exact wr_nat (by omega)
theorem sp_one {a x : Int} (h : vaB [a, a] 1 = true) : hsB (spS [a, a] 1) x = true ↔ x = a := by
  rw [(sp_y h).1, hs_iff]
  show meP [(a, a)] x ↔ x = a
  rw [meP_cons]
  constructor
  · rintro (h | h)
    · simp only at h; omega
    · exact absurd h (meP_nil x)
  · rintro rfl; exact .inl ⟨Int.le_refl _, Int.le_refl _⟩
theorem si_W (k r : Int) (m : List Int) (z : Int) (hm : m.length ≤ 1000000) : BxW (siB k r m z) := ⟨rfl, rfl, (by decide : 1 ≤ 1000000), (by decide : 1 ≤ 1000000), (by decide : 1 ≤ 1000000), fun l hl => by rw [List.mem_singleton.1 hl]; exact hm⟩
theorem si_V {k r : Int} {m : List Int} {z : Int} (hm : m.length ≤ 1000000) : BsV (siL k r m z) ∧ BsF (siL k r m z) := by
  unfold siL; split
  · rename_i hk
    unfold bxL; split
    · rename_i hv
      have h3 := (of_decide_eq_true hv).2 0 (show 0 < 1 by decide)
      refine ⟨fun b hb => ?_, fun b hb => ?_⟩
      · have hb : b ∈ [siB k r m z] := hb
        rw [List.mem_singleton.1 hb]
        refine ⟨si_W k r m z hm, ?_, h3⟩
        show KG (IntKind.i64.wrap _)
        rw [si_k hk]; exact KG.one (by omega) (by omega)
      · have hb : b ∈ [siB k r m z] := hb
        rw [List.mem_singleton.1 hb]; exact ⟨(by decide : 1 ≤ 5), (by decide : 1 ≤ 5)⟩
    · exact ⟨BsV.nil, BsF.nil⟩
  · exact ⟨BsV.nil, BsF.nil⟩
theorem si_hc {k r : Int} {m : List Int} {z : Int} (hk : 1 ≤ k ∧ k ≤ 7) (hv : vbB (siX k r m z) = true) (c : Co) : HC (siB k r m z) c ↔ c = ⟨k, r, m, z⟩ := by
  have h3 : bxB (siB k r m z).k (siB k r m z).r (siB k r m z).rn (siB k r m z).m (siB k r m z).s (siB k r m z).sn = true := (of_decide_eq_true hv).2 0 (show 0 < 1 by decide)
  obtain ⟨_, p2, _, p4⟩ := bx_parts h3
  have q2 : vaB [r, r] 1 = true := (wi_sp p2).1
  have q4 : vaB [z, z] 1 = true := (wi_sp p4).1
  have e2 : spS [r, r] 1 = [r, r] := (sp_y q2).1
  have e4 : spS [z, z] 1 = [z, z] := (sp_y q4).1
  have s2 := sp_one (x := c.r) q2
  have s4 := sp_one (x := c.s) q4
  rw [e2] at s2; rw [e4] at s4
  have hb : ∀ q, 1 ≤ q → q ≤ 7 → (kiB (siB k r m z).k q = true ↔ (q : Int) = k) := fun q q1 q2 => by
    show kiB (IntKind.i64.wrap _) q = true ↔ _
    rw [si_k hk]
    have h1 : 2 ^ k.toNat ≤ 2 ^ 7 := Nat.pow_le_pow_right (by decide) (by omega)
    rw [ki_nat (by omega) q1 q2, Nat.testBit_two_pow]
    rw [decide_eq_true_iff]; omega
  unfold HC
  show (1 ≤ c.k ∧ c.k ≤ 7 ∧ kiB (siB k r m z).k c.k.toNat = true) ∧ hsB [r, r] c.r = true ∧ c.m ∈ [m] ∧ hsB [z, z] c.s = true ↔ _
  rw [s2, s4, List.mem_singleton]
  cases c with
  | mk ck cr cm cs =>
    simp only [Co.mk.injEq]
    constructor
    · rintro ⟨⟨a1, a2, a3⟩, b, d, e⟩
      have := (hb _ (by omega) (by omega)).1 a3
      exact ⟨by omega, b, d, e⟩
    · rintro ⟨rfl, b, d, e⟩
      exact ⟨⟨hk.1, hk.2, (hb _ (by omega) (by omega)).2 (by omega)⟩, b, d, e⟩
theorem si_of {b : Bx} (h : BxV b) {k r : Int} {m : List Int} {z : Int} (hc : HC b ⟨k, r, m, z⟩) : (1 ≤ k ∧ k ≤ 7) ∧ vbB (siX k r m z) = true := by
  obtain ⟨⟨k1, k2, _⟩, h2, h3, h4⟩ := hc
  obtain ⟨_, p2, p3, p4⟩ := bx_parts h.2.2
  have hr : 1000 ≤ r ∧ r ≤ 768000 := wi_mem h.1.1 p2 h2
  have hz : 1 ≤ z ∧ z ≤ 65536 := wi_mem h.1.2.1 p4 h4
  have hm := (vm_msV p3).1 m h3
  have one : ∀ a : Int, 0 ≤ a → a ≤ 2147483647 → vaB [a, a] 1 = true := fun a a1 a2 => vaB_t (by decide) fun j hj => by
    obtain rfl : j = 0 := by omega
    exact decide_eq_true ⟨a1, Int.le_refl _, a2, .inl rfl⟩
  refine ⟨⟨k1, k2⟩, vb_t (by show 1 ≤ 64; decide) fun i hi => ?_⟩
  have hi : i < 1 := hi
  obtain rfl : i = 0 := by omega
  show bxB (siB k r m z).k [r, r] 1 [m] [z, z] 1 = true
  refine bx_t ?_ (wi_y (one r (by omega) (by omega)) ⟨Nat.le_refl _, hr.1, hr.2⟩) (vm_of ⟨fun x hx => by rw [List.mem_singleton.1 hx]; exact hm, List.pairwise_singleton ..⟩ (Nat.le_refl _) (by show 1 ≤ 16; decide)) (wi_y (one z (by omega) (by omega)) ⟨Nat.le_refl _, hz.1, hz.2⟩)
  show ¬ IntKind.i64.wrap (1 * ((2 ^ k.toNat : Nat) : Int)) = 0 ∧ anV (IntKind.i64.wrap (1 * ((2 ^ k.toNat : Nat) : Int))) = 0
  rw [si_k ⟨k1, k2⟩]
  exact (KG.one (by omega) (by omega)).ok.1
theorem si_lc {k r : Int} {m : List Int} {z : Int} (c : Co) : LCo (siL k r m z) c → c = ⟨k, r, m, z⟩ := by
  unfold siL; split
  · rename_i hk
    unfold bxL; split
    · rename_i hv
      rintro ⟨b, hb, hc⟩
      have hb : b ∈ [siB k r m z] := hb
      rw [List.mem_singleton.1 hb] at hc
      exact (si_hc hk hv c).1 hc
    · rintro ⟨b, hb, _⟩; cases hb
  · rintro ⟨b, hb, _⟩; cases hb
theorem si_in {k r : Int} {m : List Int} {z : Int} (hk : 1 ≤ k ∧ k ≤ 7) (hv : vbB (siX k r m z) = true) : LCo (siL k r m z) ⟨k, r, m, z⟩ := by
  unfold siL; rw [if_pos hk, bxL_y hv]
  exact ⟨siB k r m z, List.mem_singleton.2 rfl, (si_hc hk hv _).2 rfl⟩
section
variable {xs : List Bx} (h : BsV xs) (f : BsF xs) (hn : xs.length ≤ 5) {k r : Int} {m : List Int} {z : Int} (hm : m.length ≤ 1000000)
include h f hn hm
theorem sx_ok : ixE xs (siL k r m z) = 0 ∧ BsV (ixR xs (siL k r m z)) ∧ ∀ c, LCo (ixR xs (siL k r m z)) c ↔ LCo xs c ∧ LCo (siL k r m z) c := by
  have hl := siL_le k r m z
  obtain ⟨_, h1, h2, h3⟩ := ix_ok h (si_V hm).1 f (si_V (r := r) hm).2 (mul_64 hn (show (siL k r m z).length ≤ 5 by omega)) zo zo
  exact ⟨h1, h2, h3⟩
theorem sx_e : ixE xs (siL k r m z) = 0 := (sx_ok h f hn hm).1
theorem sx_y (hv : haB (bxL xs) k r m z = true) : 1 ≤ List.length (ixR xs (siL k r m z)) := by
  obtain ⟨b, hb, hc⟩ := (lc_iff h zo).1 hv
  obtain ⟨s1, s2⟩ := si_of (h b hb) hc
  obtain ⟨x, hx, _⟩ := ((sx_ok h f hn hm).2.2 _).2 ⟨⟨b, hb, hc⟩, si_in s1 s2⟩
  exact List.length_pos_of_mem hx
theorem sx_n (hv : haB (bxL xs) k r m z = false) : List.length (ixR xs (siL k r m z)) = 0 := by
  obtain ⟨_, h2, h3⟩ := sx_ok h f hn hm
  cases e : ixR xs (siL k r m z) with
  | nil => rfl
  | cons b l =>
    exfalso
    have hb : b ∈ ixR xs (siL k r m z) := by rw [e]; exact List.mem_cons_self ..
    have hg := h2 b hb
    have hc := (hc_iff hg).1 (bc_spec hg.g ⟨0, 0, [], 0⟩).1
    obtain ⟨c1, c2⟩ := (h3 _).1 ⟨b, hb, hc⟩
    rw [si_lc _ c2] at c1
    rw [(lc_iff h (by omega)).2 c1] at hv; cases hv
end
end Go.Proofs.YtcfmjpnffembpaaGreat
namespace Go.Proofs.YtcfmjpnffembpaaGreat
open Go.ChangeShapes Go.WideShapes Go.ChangeAt Go.RowKit
set_option linter.unusedVariables false
set_option linter.unusedSimpArgs false
set_option maxHeartbeats 4000000
set_option maxRecDepth 100000
theorem zqos2 {p : Prop} (h : p := by first | omega | assumption | simp) : p := h
theorem zqos0 {p : Prop} (h : p := by first | omega | with_reducible assumption | (simp only [msD_len, bxD_len, List.length_append, List.length_cons, List.length_nil, List.length_take, List.length_drop, List.length_replicate, List.length_set] <;> omega) | rfl | assumption) : p := h
theorem zqos1 {p : Prop} (h : p := by first | rfl | omega | assumption | (simp; done) | (simp; omega)) : p := h
abbrev tOS1_0 (ck : Int) (cr : Int) (cm : List Int) (cz : Int) : BC := .ds [iD ck, iD cr, D.sl (dI .i64 cm) (List.length cm), iD cz]
theorem L_Sgl (s : List Int) (n : Nat) (hy : Byt s) (hn : List.length s = n) (h1 : n ≤ 9223372036854775807) : Fun 9 [.c (.d (D.sl (dI .u8 s) n))] (toG []) 0 (bV true) (toG []) 0 := by
  refine Fun.mk (n := 96) Tryz.func9 rfl rfl (Nat.le_of_ble_eq_true rfl) ?_
  intro cx hcx
  refine y9r [.no] True [(0, sV .u8 s n)] [] 0 trivial ?_
  refine AW.seq ?_
  refine y9s [.call [] (bV true) [] 0 [] none, .no] _ [(0, sV .u8 s n), (17, bV false)] (S_sane) ?_
  refine zfs ?_
  obtain ⟨xs1, bs2, k3, r4, z5, m6, q7, hx1, hx2, hx3, hx4, hx5, hx6, hx7, hx8, hx9, hF7⟩ := (W_made s n (show Byt s by with_reducible assumption) zo zo)
  refine y9r (.no :: .call [] (.tup [.c (.d (D.sl (bxD xs1) (List.length xs1))), .c (.d (D.sl (bxD bs2) (List.length bs2))), .agg [iC k3, iC r4, .d (dl m6 (List.length m6)), iC z5], .c (.ptr 0 0)]) [(0, some (95, .ds [db q7 (List.length q7)]))] 1 [] none :: nz9 10 []) _ [(3, .e (.c (.d (D.sl (bxD xs1) (List.length xs1))))), (4, .e (.c (.d (D.sl (bxD bs2) (List.length bs2))))), (5, rV 1 0), (6, rV 0 0)] [(0, some (95, .ds [db q7 (List.length q7)])), (1, some (27, .ds [iD k3, iD r4, dl m6 (List.length m6), iD z5]))] 2 hF7 ?_
  have hx10 : ixE xs1 bs2 = 0 := mb_e (by assumption) (by assumption) (by assumption) (by assumption) ⟨by omega, by omega⟩
  have hx11 : ixE bs2 xs1 = 0 := mb_e (by assumption) (by assumption) (by assumption) (by assumption) ⟨by omega, by omega⟩
  have hx12 : ixE xs1 xs1 = 0 := mb_e (by assumption) (by assumption) (by assumption) (by assumption) ⟨by omega, by omega⟩
  have hx13 : (((0 : Int) ≤ (ixE xs1 bs2)) ∧ ((ixE xs1 bs2) ≤ 3)) := ixE_rng xs1 bs2
  have hx14 : ((List.length (ixR xs1 bs2)) ≤ 64) := ixR_64 xs1 bs2
  refine y9s (.no :: .no :: .call [] (.tup [.c (.d (D.sl (bxD (ixR xs1 bs2)) (List.length (ixR xs1 bs2)))), iE (ixE xs1 bs2)]) [] 0 [] none :: nz9 5 []) _ [(3, .e (.c (.d (D.sl (bxD xs1) (List.length xs1))))), (4, .e (.c (.d (D.sl (bxD bs2) (List.length bs2))))), (5, rV 1 0), (6, rV 0 0), (7, .e (.c (.d (D.sl (bxD (ixR xs1 bs2)) (List.length (ixR xs1 bs2)))))), (8, iV (ixE xs1 bs2))] (R_int xs1 bs2 (List.length xs1) (List.length bs2) rfl rfl zo zo (show BsW xs1 by with_reducible assumption) (show BsW bs2 by with_reducible assumption)) ?_
  have hx15 : (((0 : Int) ≤ (ixE bs2 xs1)) ∧ ((ixE bs2 xs1) ≤ 3)) := ixE_rng bs2 xs1
  have hx16 : ((List.length (ixR bs2 xs1)) ≤ 64) := ixR_64 bs2 xs1
  refine y9s (.no :: .no :: .call [] (.tup [.c (.d (D.sl (bxD (ixR bs2 xs1)) (List.length (ixR bs2 xs1)))), iE (ixE bs2 xs1)]) [] 0 [] none :: nz9 5 []) _ [(3, .e (.c (.d (D.sl (bxD xs1) (List.length xs1))))), (5, rV 1 0), (6, rV 0 0), (7, .e (.c (.d (D.sl (bxD (ixR xs1 bs2)) (List.length (ixR xs1 bs2)))))), (8, iV (ixE xs1 bs2)), (9, .e (.c (.d (D.sl (bxD (ixR bs2 xs1)) (List.length (ixR bs2 xs1)))))), (10, iV (ixE bs2 xs1))] (R_int bs2 xs1 (List.length bs2) (List.length xs1) rfl rfl zo zo (show BsW bs2 by with_reducible assumption) (show BsW xs1 by with_reducible assumption)) ?_
  have hx17 : (((0 : Int) ≤ (ixE xs1 xs1)) ∧ ((ixE xs1 xs1) ≤ 3)) := ixE_rng xs1 xs1
  have hx18 : ((List.length (ixR xs1 xs1)) ≤ 64) := ixR_64 xs1 xs1
  refine y9s (.no :: .no :: .call [] (.tup [.c (.d (D.sl (bxD (ixR xs1 xs1)) (List.length (ixR xs1 xs1)))), iE (ixE xs1 xs1)]) [] 0 [] none :: nz9 5 []) _ [(3, .e (.c (.d (D.sl (bxD xs1) (List.length xs1))))), (5, rV 1 0), (6, rV 0 0), (7, .e (.c (.d (D.sl (bxD (ixR xs1 bs2)) (List.length (ixR xs1 bs2)))))), (8, iV (ixE xs1 bs2)), (9, .e (.c (.d (D.sl (bxD (ixR bs2 xs1)) (List.length (ixR bs2 xs1)))))), (10, iV (ixE bs2 xs1)), (11, .e (.c (.d (D.sl (bxD (ixR xs1 xs1)) (List.length (ixR xs1 xs1)))))), (12, iV (ixE xs1 xs1))] (R_int xs1 xs1 (List.length xs1) (List.length xs1) rfl rfl zo zo (show BsW xs1 by with_reducible assumption) (show BsW xs1 by with_reducible assumption)) ?_
  refine AW.seq ?_
  refine y9s [.no] True [(3, .e (.c (.d (D.sl (bxD xs1) (List.length xs1))))), (5, rV 1 0), (6, rV 0 0), (7, .e (.c (.d (D.sl (bxD (ixR xs1 bs2)) (List.length (ixR xs1 bs2)))))), (8, iV (ixE xs1 bs2)), (9, .e (.c (.d (D.sl (bxD (ixR bs2 xs1)) (List.length (ixR bs2 xs1)))))), (10, iV (ixE bs2 xs1)), (11, .e (.c (.d (D.sl (bxD (ixR xs1 xs1)) (List.length (ixR xs1 xs1)))))), (12, iV (ixE xs1 xs1)), (13, iV 0)] trivial ?_
  refine AW.block ?_
  refine AW.loopE 0 hcx (fun (x : {x : Nat × Int × Int × Int × List Int × List Int // match x with | (i, ck, cr, cz, cm, u) => (i ≤ 4) ∧ (Byt u) ∧ ((0 ≤ ck ∧ ck ≤ 7) ∧ (0 ≤ cr ∧ cr ≤ 2147483647) ∧ (0 ≤ cz ∧ cz ≤ 2147483647) ∧ List.length cm ≤ 1000000)}) => match x with | ⟨(i, ck, cr, cz, cm, u), _⟩ => (⟨[(3, .e (.c (.d (D.sl (bxD xs1) (List.length xs1))))), (5, rV 1 0), (6, rV 0 0), (7, .e (.c (.d (D.sl (bxD (ixR xs1 bs2)) (List.length (ixR xs1 bs2)))))), (8, iV (ixE xs1 bs2)), (9, .e (.c (.d (D.sl (bxD (ixR bs2 xs1)) (List.length (ixR bs2 xs1)))))), (10, iV (ixE bs2 xs1)), (11, .e (.c (.d (D.sl (bxD (ixR xs1 xs1)) (List.length (ixR xs1 xs1)))))), (12, iV (ixE xs1 xs1)), (13, uV i)], [(0, some (95, .ds [db u (List.length u)])), (1, some (27, (tOS1_0 ck cr cm cz)))], 2⟩ : ES)) (fun x => match x with | ⟨(i, ck, cr, cz, cm, u), _⟩ => 4 - i) ⟨((0 : Nat), (k3 : Int), (r4 : Int), (z5 : Int), (m6 : List Int), (q7 : List Int)), ⟨zqos2, zqos2, (by assumption)⟩⟩ [] (P := (q9d (bxD xs1)) ∧ (q9n (List.length xs1)) ∧ (q9n 0) ∧ (q9n 0) ∧ (q9d (bxD (ixR xs1 bs2))) ∧ (q9n (List.length (ixR xs1 bs2))) ∧ (q9i (ixE xs1 bs2)) ∧ (q9d (bxD (ixR bs2 xs1))) ∧ (q9n (List.length (ixR bs2 xs1))) ∧ (q9i (ixE bs2 xs1)) ∧ (q9d (bxD (ixR xs1 xs1))) ∧ (q9n (List.length (ixR xs1 xs1))) ∧ (q9i (ixE xs1 xs1)) ∧ (q9i 0) ∧ (q9d [db q7 (List.length q7)]) ∧ (q9d [iD k3, iD r4, dl m6 (List.length m6), iD z5])) zk ⟨rfl, rfl, rfl, rfl, rfl, rfl, rfl, rfl, rfl, rfl, rfl, rfl, rfl, rfl, rfl, rfl⟩ ?_
  rintro ⟨⟨i, ck, cr, cz, cm, u⟩, hinv0⟩
  obtain ⟨hi, hu, hcc⟩ : (i ≤ 4) ∧ (Byt u) ∧ ((0 ≤ ck ∧ ck ≤ 7) ∧ (0 ≤ cr ∧ cr ≤ 2147483647) ∧ (0 ≤ cz ∧ cz ≤ 2147483647) ∧ List.length cm ≤ 1000000) := hinv0
  refine AW.es (l := [(3, .e (.c (.d (D.sl (bxD xs1) (List.length xs1))))), (5, rV 1 0), (6, rV 0 0), (7, .e (.c (.d (D.sl (bxD (ixR xs1 bs2)) (List.length (ixR xs1 bs2)))))), (8, iV (ixE xs1 bs2)), (9, .e (.c (.d (D.sl (bxD (ixR bs2 xs1)) (List.length (ixR bs2 xs1)))))), (10, iV (ixE bs2 xs1)), (11, .e (.c (.d (D.sl (bxD (ixR xs1 xs1)) (List.length (ixR xs1 xs1)))))), (12, iV (ixE xs1 xs1)), (13, uV i)]) (g := [(0, some (95, .ds [db u (List.length u)])), (1, some (27, (tOS1_0 ck cr cm cz)))]) (nx := 2) rfl rfl rfl ?_
  refine AW.seq ?_
  by_cases hx19 : (((i : Nat) : Int) < 4)
  · refine zr [.no, .b true] [3, 5, 6, 7, 8, 9, 10, 11, 12, 13, 44] [0, 1] (((i : Int) < 4)) [(3, .e (.c (.d (D.sl (bxD xs1) (List.length xs1))))), (5, rV 1 0), (6, rV 0 0), (7, .e (.c (.d (D.sl (bxD (ixR xs1 bs2)) (List.length (ixR xs1 bs2)))))), (8, iV (ixE xs1 bs2)), (9, .e (.c (.d (D.sl (bxD (ixR bs2 xs1)) (List.length (ixR bs2 xs1)))))), (10, iV (ixE bs2 xs1)), (11, .e (.c (.d (D.sl (bxD (ixR xs1 xs1)) (List.length (ixR xs1 xs1)))))), (12, iV (ixE xs1 xs1)), (13, uV i), (44, bV true)] [(0, some (95, .ds [db u (List.length u)])), (1, some (27, (tOS1_0 ck cr cm cz)))] 2 zo ?_
    refine zts ?_
    refine AW.seq ?_
    refine AW.block ?_
    have hx20 : ixE xs1 (siL ck cr cm cz) = 0 := sx_e (by assumption) (by assumption) zo zo
    have hx21 : ((List.length (siL ck cr cm cz)) ≤ 1) := siL_le ck cr cm cz
    have hx22 : (((0 : Int) ≤ (ixE xs1 (siL ck cr cm cz))) ∧ ((ixE xs1 (siL ck cr cm cz)) ≤ 3)) := ixE_rng xs1 (siL ck cr cm cz)
    have hx23 : ((List.length (ixR xs1 (siL ck cr cm cz))) ≤ 64) := ixR_64 xs1 (siL ck cr cm cz)
    refine y9r (.no :: .no :: .call [] (.e (.c (.d (D.sl (bxD (siL ck cr cm cz)) (List.length (siL ck cr cm cz)))))) [] 0 [] none :: .call [] (.tup [.c (.d (D.sl (bxD (ixR xs1 (siL ck cr cm cz))) (List.length (ixR xs1 (siL ck cr cm cz))))), iE (ixE xs1 (siL ck cr cm cz))]) [] 0 [] none :: nz9 5 []) ((_) ∧ (_)) [(3, .e (.c (.d (D.sl (bxD xs1) (List.length xs1))))), (5, rV 1 0), (6, rV 0 0), (7, .e (.c (.d (D.sl (bxD (ixR xs1 bs2)) (List.length (ixR xs1 bs2)))))), (8, iV (ixE xs1 bs2)), (9, .e (.c (.d (D.sl (bxD (ixR bs2 xs1)) (List.length (ixR bs2 xs1)))))), (10, iV (ixE bs2 xs1)), (11, .e (.c (.d (D.sl (bxD (ixR xs1 xs1)) (List.length (ixR xs1 xs1)))))), (12, iV (ixE xs1 xs1)), (13, uV i), (14, .e (.c (.d (D.sl (bxD (ixR xs1 (siL ck cr cm cz))) (List.length (ixR xs1 (siL ck cr cm cz))))))), (15, iV (ixE xs1 (siL ck cr cm cz)))] [(0, some (95, .ds [db u (List.length u)])), (1, some (27, (tOS1_0 ck cr cm cz)))] 2 ⟨(W_Single ck cr cm (List.length cm) cz rfl zo), (R_int xs1 (siL ck cr cm cz) (List.length xs1) (List.length (siL ck cr cm cz)) rfl rfl zo zqos0 (show BsW xs1 by with_reducible assumption) (siL_W _ _ _ _ zo))⟩ ?_
    refine AW.seq ?_
    by_cases hx24 : ((0 : Int) < (((List.length (ixR xs1 (siL ck cr cm cz))) : Nat) : Int))
    · rcases Bool.eq_false_or_eq_true (haB (bxL xs1) ck cr cm cz) with hx25 | hx25
      · have hx26 : 1 ≤ List.length (ixR xs1 (siL ck cr cm cz)) := sx_y (by assumption) (by assumption) zo zo hx25
        have hx27 : haB (bxL (ixR xs1 xs1)) ck cr cm cz = true := aa_v (by assumption) (by assumption) zo hx25
        rcases Bool.eq_false_or_eq_true (haB (bxL (ixR xs1 bs2)) ck cr cm cz) with hx28 | hx28
        · have hx29 : haB (bxL (ixR bs2 xs1)) ck cr cm cz = true := ab_v (by assumption) (by assumption) (by assumption) (by assumption) ⟨by omega, by omega⟩ hx28
          refine y9r (.no :: .b false :: .no :: .no :: .no :: .b true :: .no :: .no :: .call [] (bV true) [] 0 [] none :: nz9 5 (.call [] (bV true) [] 0 [] none :: .no :: .no :: .call [] (bV true) [] 0 [] none :: nz9 5 [.call [] (bV true) [] 0 [] none, .no, .no, .call [] (bV true) [] 0 [] none, .no, .no])) ((¬ ((ixE xs1 (siL ck cr cm cz)) ≠ 0)) ∧ (((0 : Int) < (List.length (ixR xs1 (siL ck cr cm cz)) : Int))) ∧ (Fun 21 [.c (.d (D.sl (bxD xs1) (List.length xs1))), .agg [iC ck, iC cr, .d (dl cm (List.length cm)), iC cz]] (toG []) 0 (bV true) (toG []) 0) ∧ (Fun 21 [.c (.d (D.sl (bxD (ixR xs1 bs2)) (List.length (ixR xs1 bs2)))), .agg [iC ck, iC cr, .d (dl cm (List.length cm)), iC cz]] (toG []) 0 (bV true) (toG []) 0) ∧ (Fun 21 [.c (.d (D.sl (bxD (ixR bs2 xs1)) (List.length (ixR bs2 xs1)))), .agg [iC ck, iC cr, .d (dl cm (List.length cm)), iC cz]] (toG []) 0 (bV true) (toG []) 0) ∧ (Fun 21 [.c (.d (D.sl (bxD (ixR xs1 xs1)) (List.length (ixR xs1 xs1)))), .agg [iC ck, iC cr, .d (dl cm (List.length cm)), iC cz]] (toG []) 0 (bV true) (toG []) 0) ∧ (Fun 21 [.c (.d (D.sl (bxD xs1) (List.length xs1))), .agg [iC ck, iC cr, .d (dl cm (List.length cm)), iC cz]] (toG []) 0 (bV true) (toG []) 0)) [(3, .e (.c (.d (D.sl (bxD xs1) (List.length xs1))))), (5, rV 1 0), (6, rV 0 0), (7, .e (.c (.d (D.sl (bxD (ixR xs1 bs2)) (List.length (ixR xs1 bs2)))))), (8, iV (ixE xs1 bs2)), (9, .e (.c (.d (D.sl (bxD (ixR bs2 xs1)) (List.length (ixR bs2 xs1)))))), (10, iV (ixE bs2 xs1)), (11, .e (.c (.d (D.sl (bxD (ixR xs1 xs1)) (List.length (ixR xs1 xs1)))))), (12, iV (ixE xs1 xs1)), (13, uV i), (82, bV false)] [(0, some (95, .ds [db u (List.length u)])), (1, some (27, (tOS1_0 ck cr cm cz)))] 2 ⟨zo, zo, (by have h0 := (M_Has xs1 (List.length xs1) ck cr cm (List.length cm) cz rfl zo (show BsW xs1 by with_reducible assumption) rfl zo); rw [hx25] at h0; exact h0), (by have h0 := (M_Has (ixR xs1 bs2) (List.length (ixR xs1 bs2)) ck cr cm (List.length cm) cz rfl zqos0 (ixR_W (show BsW xs1 by with_reducible assumption)) rfl zo); rw [hx28] at h0; exact h0), (by have h0 := (M_Has (ixR bs2 xs1) (List.length (ixR bs2 xs1)) ck cr cm (List.length cm) cz rfl zqos0 (ixR_W (show BsW bs2 by with_reducible assumption)) rfl zo); rw [hx29] at h0; exact h0), (by have h0 := (M_Has (ixR xs1 xs1) (List.length (ixR xs1 xs1)) ck cr cm (List.length cm) cz rfl zqos0 (ixR_W (show BsW xs1 by with_reducible assumption)) rfl zo); rw [hx27] at h0; exact h0), (by have h0 := (M_Has xs1 (List.length xs1) ck cr cm (List.length cm) cz rfl zo (show BsW xs1 by with_reducible assumption) rfl zo); rw [hx25] at h0; exact h0)⟩ ?_
          refine zfs ?_
          obtain ⟨k8, r9, z10, m11, q12, hx30, hx31, hF12⟩ := (H_Choice u xs1 (List.length xs1) (show Byt u by with_reducible assumption) rfl zo (show BsW xs1 by with_reducible assumption))
          refine y9g [.no, .no, .call [0] (.e (.agg [iC k8, iC r9, .d (dl m11 (List.length m11)), iC z10])) [(0, some (95, .ds [db q12 (List.length q12)]))] 1 [] none, .no] _ [(3, .e (.c (.d (D.sl (bxD xs1) (List.length xs1))))), (5, rV 1 0), (6, rV 0 0), (7, .e (.c (.d (D.sl (bxD (ixR xs1 bs2)) (List.length (ixR xs1 bs2)))))), (8, iV (ixE xs1 bs2)), (9, .e (.c (.d (D.sl (bxD (ixR bs2 xs1)) (List.length (ixR bs2 xs1)))))), (10, iV (ixE bs2 xs1)), (11, .e (.c (.d (D.sl (bxD (ixR xs1 xs1)) (List.length (ixR xs1 xs1)))))), (12, iV (ixE xs1 xs1)), (13, uV i)] [(0, some (95, .ds [db q12 (List.length q12)])), (1, some (27, .ds [iD k8, iD r9, dl m11 (List.length m11), iD z10]))] 2 hF12 ?_
          refine y9h [.no, .w, .no] ((-9223372036854775808) ≤ ((i : Int) + 1) ∧ ((i : Int) + 1) ≤ 9223372036854775807) [(3, .e (.c (.d (D.sl (bxD xs1) (List.length xs1))))), (5, rV 1 0), (6, rV 0 0), (7, .e (.c (.d (D.sl (bxD (ixR xs1 bs2)) (List.length (ixR xs1 bs2)))))), (8, iV (ixE xs1 bs2)), (9, .e (.c (.d (D.sl (bxD (ixR bs2 xs1)) (List.length (ixR bs2 xs1)))))), (10, iV (ixE bs2 xs1)), (11, .e (.c (.d (D.sl (bxD (ixR xs1 xs1)) (List.length (ixR xs1 xs1)))))), (12, iV (ixE xs1 xs1)), (13, iV (↑i + 1))] ⟨by omega, by omega⟩ ?_
          exact Rd.of ⟨(((i + 1) : Nat), (k8 : Int), (r9 : Int), (z10 : Int), (m11 : List Int), (q12 : List Int)), ⟨zqos2, zqos2, (by first | assumption | omega)⟩⟩ [] (P := (q9d (bxD xs1)) ∧ (q9n (List.length xs1)) ∧ (q9n 0) ∧ (q9n 0) ∧ (q9d (bxD (ixR xs1 bs2))) ∧ (q9n (List.length (ixR xs1 bs2))) ∧ (q9i (ixE xs1 bs2)) ∧ (q9d (bxD (ixR bs2 xs1))) ∧ (q9n (List.length (ixR bs2 xs1))) ∧ (q9i (ixE bs2 xs1)) ∧ (q9d (bxD (ixR xs1 xs1))) ∧ (q9n (List.length (ixR xs1 xs1))) ∧ (q9i (ixE xs1 xs1)) ∧ (((((i + 1) : Nat) : Int) : Int) = ((i : Int) + 1)) ∧ (q9d [db q12 (List.length q12)]) ∧ (q9d [iD k8, iD r9, dl m11 (List.length m11), iD z10])) zk ⟨rfl, rfl, rfl, rfl, rfl, rfl, rfl, rfl, rfl, rfl, rfl, rfl, rfl, zqos1, rfl, rfl⟩ (show 4 - (i + 1) < 4 - i from (by first | omega | (show _ < _; simp; omega)))
        · have hx32 : haB (bxL (ixR bs2 xs1)) ck cr cm cz = false := ab_v (by assumption) (by assumption) (by assumption) (by assumption) ⟨by omega, by omega⟩ hx28
          refine y9r (.no :: .b false :: .no :: .no :: .no :: .b true :: .no :: .no :: .call [] (bV true) [] 0 [] none :: nz9 5 (.call [] (bV false) [] 0 [] none :: .no :: .no :: .call [] (bV false) [] 0 [] none :: nz9 5 [.call [] (bV true) [] 0 [] none, .no, .no, .call [] (bV true) [] 0 [] none, .no, .no])) ((¬ ((ixE xs1 (siL ck cr cm cz)) ≠ 0)) ∧ (((0 : Int) < (List.length (ixR xs1 (siL ck cr cm cz)) : Int))) ∧ (Fun 21 [.c (.d (D.sl (bxD xs1) (List.length xs1))), .agg [iC ck, iC cr, .d (dl cm (List.length cm)), iC cz]] (toG []) 0 (bV true) (toG []) 0) ∧ (Fun 21 [.c (.d (D.sl (bxD (ixR xs1 bs2)) (List.length (ixR xs1 bs2)))), .agg [iC ck, iC cr, .d (dl cm (List.length cm)), iC cz]] (toG []) 0 (bV false) (toG []) 0) ∧ (Fun 21 [.c (.d (D.sl (bxD (ixR bs2 xs1)) (List.length (ixR bs2 xs1)))), .agg [iC ck, iC cr, .d (dl cm (List.length cm)), iC cz]] (toG []) 0 (bV false) (toG []) 0) ∧ (Fun 21 [.c (.d (D.sl (bxD (ixR xs1 xs1)) (List.length (ixR xs1 xs1)))), .agg [iC ck, iC cr, .d (dl cm (List.length cm)), iC cz]] (toG []) 0 (bV true) (toG []) 0) ∧ (Fun 21 [.c (.d (D.sl (bxD xs1) (List.length xs1))), .agg [iC ck, iC cr, .d (dl cm (List.length cm)), iC cz]] (toG []) 0 (bV true) (toG []) 0)) [(3, .e (.c (.d (D.sl (bxD xs1) (List.length xs1))))), (5, rV 1 0), (6, rV 0 0), (7, .e (.c (.d (D.sl (bxD (ixR xs1 bs2)) (List.length (ixR xs1 bs2)))))), (8, iV (ixE xs1 bs2)), (9, .e (.c (.d (D.sl (bxD (ixR bs2 xs1)) (List.length (ixR bs2 xs1)))))), (10, iV (ixE bs2 xs1)), (11, .e (.c (.d (D.sl (bxD (ixR xs1 xs1)) (List.length (ixR xs1 xs1)))))), (12, iV (ixE xs1 xs1)), (13, uV i), (82, bV false)] [(0, some (95, .ds [db u (List.length u)])), (1, some (27, (tOS1_0 ck cr cm cz)))] 2 ⟨zo, zo, (by have h0 := (M_Has xs1 (List.length xs1) ck cr cm (List.length cm) cz rfl zo (show BsW xs1 by with_reducible assumption) rfl zo); rw [hx25] at h0; exact h0), (by have h0 := (M_Has (ixR xs1 bs2) (List.length (ixR xs1 bs2)) ck cr cm (List.length cm) cz rfl zqos0 (ixR_W (show BsW xs1 by with_reducible assumption)) rfl zo); rw [hx28] at h0; exact h0), (by have h0 := (M_Has (ixR bs2 xs1) (List.length (ixR bs2 xs1)) ck cr cm (List.length cm) cz rfl zqos0 (ixR_W (show BsW bs2 by with_reducible assumption)) rfl zo); rw [hx32] at h0; exact h0), (by have h0 := (M_Has (ixR xs1 xs1) (List.length (ixR xs1 xs1)) ck cr cm (List.length cm) cz rfl zqos0 (ixR_W (show BsW xs1 by with_reducible assumption)) rfl zo); rw [hx27] at h0; exact h0), (by have h0 := (M_Has xs1 (List.length xs1) ck cr cm (List.length cm) cz rfl zo (show BsW xs1 by with_reducible assumption) rfl zo); rw [hx25] at h0; exact h0)⟩ ?_
          refine zfs ?_
          obtain ⟨k13, r14, z15, m16, q17, hx33, hx34, hF17⟩ := (H_Choice u xs1 (List.length xs1) (show Byt u by with_reducible assumption) rfl zo (show BsW xs1 by with_reducible assumption))
          refine y9g [.no, .no, .call [0] (.e (.agg [iC k13, iC r14, .d (dl m16 (List.length m16)), iC z15])) [(0, some (95, .ds [db q17 (List.length q17)]))] 1 [] none, .no] _ [(3, .e (.c (.d (D.sl (bxD xs1) (List.length xs1))))), (5, rV 1 0), (6, rV 0 0), (7, .e (.c (.d (D.sl (bxD (ixR xs1 bs2)) (List.length (ixR xs1 bs2)))))), (8, iV (ixE xs1 bs2)), (9, .e (.c (.d (D.sl (bxD (ixR bs2 xs1)) (List.length (ixR bs2 xs1)))))), (10, iV (ixE bs2 xs1)), (11, .e (.c (.d (D.sl (bxD (ixR xs1 xs1)) (List.length (ixR xs1 xs1)))))), (12, iV (ixE xs1 xs1)), (13, uV i)] [(0, some (95, .ds [db q17 (List.length q17)])), (1, some (27, .ds [iD k13, iD r14, dl m16 (List.length m16), iD z15]))] 2 hF17 ?_
          refine y9h [.no, .w, .no] ((-9223372036854775808) ≤ ((i : Int) + 1) ∧ ((i : Int) + 1) ≤ 9223372036854775807) [(3, .e (.c (.d (D.sl (bxD xs1) (List.length xs1))))), (5, rV 1 0), (6, rV 0 0), (7, .e (.c (.d (D.sl (bxD (ixR xs1 bs2)) (List.length (ixR xs1 bs2)))))), (8, iV (ixE xs1 bs2)), (9, .e (.c (.d (D.sl (bxD (ixR bs2 xs1)) (List.length (ixR bs2 xs1)))))), (10, iV (ixE bs2 xs1)), (11, .e (.c (.d (D.sl (bxD (ixR xs1 xs1)) (List.length (ixR xs1 xs1)))))), (12, iV (ixE xs1 xs1)), (13, iV (↑i + 1))] ⟨by omega, by omega⟩ ?_
          exact Rd.of ⟨(((i + 1) : Nat), (k13 : Int), (r14 : Int), (z15 : Int), (m16 : List Int), (q17 : List Int)), ⟨zqos2, zqos2, (by first | assumption | omega)⟩⟩ [] (P := (q9d (bxD xs1)) ∧ (q9n (List.length xs1)) ∧ (q9n 0) ∧ (q9n 0) ∧ (q9d (bxD (ixR xs1 bs2))) ∧ (q9n (List.length (ixR xs1 bs2))) ∧ (q9i (ixE xs1 bs2)) ∧ (q9d (bxD (ixR bs2 xs1))) ∧ (q9n (List.length (ixR bs2 xs1))) ∧ (q9i (ixE bs2 xs1)) ∧ (q9d (bxD (ixR xs1 xs1))) ∧ (q9n (List.length (ixR xs1 xs1))) ∧ (q9i (ixE xs1 xs1)) ∧ (((((i + 1) : Nat) : Int) : Int) = ((i : Int) + 1)) ∧ (q9d [db q17 (List.length q17)]) ∧ (q9d [iD k13, iD r14, dl m16 (List.length m16), iD z15])) zk ⟨rfl, rfl, rfl, rfl, rfl, rfl, rfl, rfl, rfl, rfl, rfl, rfl, rfl, zqos1, rfl, rfl⟩ (show 4 - (i + 1) < 4 - i from (by first | omega | (show _ < _; simp; omega)))
      · have hx35 : List.length (ixR xs1 (siL ck cr cm cz)) = 0 := sx_n (by assumption) (by assumption) zo zo hx25
        have hx36 : haB (bxL (ixR xs1 xs1)) ck cr cm cz = false := aa_v (by assumption) (by assumption) zo hx25
        refine y9r (.no :: .b true :: nz9 6 []) (((ixE xs1 (siL ck cr cm cz)) ≠ 0)) [(3, .e (.c (.d (D.sl (bxD xs1) (List.length xs1))))), (5, rV 1 0), (6, rV 0 0), (7, .e (.c (.d (D.sl (bxD (ixR xs1 bs2)) (List.length (ixR xs1 bs2)))))), (8, iV (ixE xs1 bs2)), (9, .e (.c (.d (D.sl (bxD (ixR bs2 xs1)) (List.length (ixR bs2 xs1)))))), (10, iV (ixE bs2 xs1)), (11, .e (.c (.d (D.sl (bxD (ixR xs1 xs1)) (List.length (ixR xs1 xs1)))))), (12, iV (ixE xs1 xs1)), (13, uV i), (82, bV true)] [(0, some (95, .ds [db u (List.length u)])), (1, some (27, (tOS1_0 ck cr cm cz)))] 2 zo ?_
        refine zt ?_
        refine y9r [.no] True [(2, bV false)] [] 2 trivial ?_
        refine AW.ret ?_
        exact EndP.of (.inr rfl) [] (P := (true = false)) zk (by first | rfl | (exfalso; first | omega | contradiction))
    · rcases Bool.eq_false_or_eq_true (haB (bxL xs1) ck cr cm cz) with hx37 | hx37
      · have hx38 : 1 ≤ List.length (ixR xs1 (siL ck cr cm cz)) := sx_y (by assumption) (by assumption) zo zo hx37
        have hx39 : haB (bxL (ixR xs1 xs1)) ck cr cm cz = true := aa_v (by assumption) (by assumption) zo hx37
        refine y9r (.no :: .b true :: nz9 6 []) (((ixE xs1 (siL ck cr cm cz)) ≠ 0)) [(3, .e (.c (.d (D.sl (bxD xs1) (List.length xs1))))), (5, rV 1 0), (6, rV 0 0), (7, .e (.c (.d (D.sl (bxD (ixR xs1 bs2)) (List.length (ixR xs1 bs2)))))), (8, iV (ixE xs1 bs2)), (9, .e (.c (.d (D.sl (bxD (ixR bs2 xs1)) (List.length (ixR bs2 xs1)))))), (10, iV (ixE bs2 xs1)), (11, .e (.c (.d (D.sl (bxD (ixR xs1 xs1)) (List.length (ixR xs1 xs1)))))), (12, iV (ixE xs1 xs1)), (13, uV i), (82, bV true)] [(0, some (95, .ds [db u (List.length u)])), (1, some (27, (tOS1_0 ck cr cm cz)))] 2 zo ?_
        refine zt ?_
        refine y9r [.no] True [(2, bV false)] [] 2 trivial ?_
        refine AW.ret ?_
        exact EndP.of (.inr rfl) [] (P := (true = false)) zk (by first | rfl | (exfalso; first | omega | contradiction))
      · have hx40 : List.length (ixR xs1 (siL ck cr cm cz)) = 0 := sx_n (by assumption) (by assumption) zo zo hx37
        have hx41 : haB (bxL (ixR xs1 xs1)) ck cr cm cz = false := aa_v (by assumption) (by assumption) zo hx37
        rcases Bool.eq_false_or_eq_true (haB (bxL (ixR xs1 bs2)) ck cr cm cz) with hx42 | hx42
        · have hx43 : haB (bxL (ixR bs2 xs1)) ck cr cm cz = true := ab_v (by assumption) (by assumption) (by assumption) (by assumption) ⟨by omega, by omega⟩ hx42
          refine y9r (.no :: .b false :: .no :: .no :: .no :: .b false :: .no :: .no :: .call [] (bV false) [] 0 [] none :: nz9 5 (.call [] (bV true) [] 0 [] none :: .no :: .no :: .call [] (bV true) [] 0 [] none :: nz9 5 [.call [] (bV false) [] 0 [] none, .no, .no, .call [] (bV false) [] 0 [] none, .no, .no])) ((¬ ((ixE xs1 (siL ck cr cm cz)) ≠ 0)) ∧ (¬ ((0 : Int) < (List.length (ixR xs1 (siL ck cr cm cz)) : Int))) ∧ (Fun 21 [.c (.d (D.sl (bxD xs1) (List.length xs1))), .agg [iC ck, iC cr, .d (dl cm (List.length cm)), iC cz]] (toG []) 0 (bV false) (toG []) 0) ∧ (Fun 21 [.c (.d (D.sl (bxD (ixR xs1 bs2)) (List.length (ixR xs1 bs2)))), .agg [iC ck, iC cr, .d (dl cm (List.length cm)), iC cz]] (toG []) 0 (bV true) (toG []) 0) ∧ (Fun 21 [.c (.d (D.sl (bxD (ixR bs2 xs1)) (List.length (ixR bs2 xs1)))), .agg [iC ck, iC cr, .d (dl cm (List.length cm)), iC cz]] (toG []) 0 (bV true) (toG []) 0) ∧ (Fun 21 [.c (.d (D.sl (bxD (ixR xs1 xs1)) (List.length (ixR xs1 xs1)))), .agg [iC ck, iC cr, .d (dl cm (List.length cm)), iC cz]] (toG []) 0 (bV false) (toG []) 0) ∧ (Fun 21 [.c (.d (D.sl (bxD xs1) (List.length xs1))), .agg [iC ck, iC cr, .d (dl cm (List.length cm)), iC cz]] (toG []) 0 (bV false) (toG []) 0)) [(3, .e (.c (.d (D.sl (bxD xs1) (List.length xs1))))), (5, rV 1 0), (6, rV 0 0), (7, .e (.c (.d (D.sl (bxD (ixR xs1 bs2)) (List.length (ixR xs1 bs2)))))), (8, iV (ixE xs1 bs2)), (9, .e (.c (.d (D.sl (bxD (ixR bs2 xs1)) (List.length (ixR bs2 xs1)))))), (10, iV (ixE bs2 xs1)), (11, .e (.c (.d (D.sl (bxD (ixR xs1 xs1)) (List.length (ixR xs1 xs1)))))), (12, iV (ixE xs1 xs1)), (13, uV i), (82, bV false)] [(0, some (95, .ds [db u (List.length u)])), (1, some (27, (tOS1_0 ck cr cm cz)))] 2 ⟨zo, zo, (by have h0 := (M_Has xs1 (List.length xs1) ck cr cm (List.length cm) cz rfl zo (show BsW xs1 by with_reducible assumption) rfl zo); rw [hx37] at h0; exact h0), (by have h0 := (M_Has (ixR xs1 bs2) (List.length (ixR xs1 bs2)) ck cr cm (List.length cm) cz rfl zqos0 (ixR_W (show BsW xs1 by with_reducible assumption)) rfl zo); rw [hx42] at h0; exact h0), (by have h0 := (M_Has (ixR bs2 xs1) (List.length (ixR bs2 xs1)) ck cr cm (List.length cm) cz rfl zqos0 (ixR_W (show BsW bs2 by with_reducible assumption)) rfl zo); rw [hx43] at h0; exact h0), (by have h0 := (M_Has (ixR xs1 xs1) (List.length (ixR xs1 xs1)) ck cr cm (List.length cm) cz rfl zqos0 (ixR_W (show BsW xs1 by with_reducible assumption)) rfl zo); rw [hx41] at h0; exact h0), (by have h0 := (M_Has xs1 (List.length xs1) ck cr cm (List.length cm) cz rfl zo (show BsW xs1 by with_reducible assumption) rfl zo); rw [hx37] at h0; exact h0)⟩ ?_
          refine zfs ?_
          obtain ⟨k18, r19, z20, m21, q22, hx44, hx45, hF22⟩ := (H_Choice u xs1 (List.length xs1) (show Byt u by with_reducible assumption) rfl zo (show BsW xs1 by with_reducible assumption))
          refine y9g [.no, .no, .call [0] (.e (.agg [iC k18, iC r19, .d (dl m21 (List.length m21)), iC z20])) [(0, some (95, .ds [db q22 (List.length q22)]))] 1 [] none, .no] _ [(3, .e (.c (.d (D.sl (bxD xs1) (List.length xs1))))), (5, rV 1 0), (6, rV 0 0), (7, .e (.c (.d (D.sl (bxD (ixR xs1 bs2)) (List.length (ixR xs1 bs2)))))), (8, iV (ixE xs1 bs2)), (9, .e (.c (.d (D.sl (bxD (ixR bs2 xs1)) (List.length (ixR bs2 xs1)))))), (10, iV (ixE bs2 xs1)), (11, .e (.c (.d (D.sl (bxD (ixR xs1 xs1)) (List.length (ixR xs1 xs1)))))), (12, iV (ixE xs1 xs1)), (13, uV i)] [(0, some (95, .ds [db q22 (List.length q22)])), (1, some (27, .ds [iD k18, iD r19, dl m21 (List.length m21), iD z20]))] 2 hF22 ?_
          refine y9h [.no, .w, .no] ((-9223372036854775808) ≤ ((i : Int) + 1) ∧ ((i : Int) + 1) ≤ 9223372036854775807) [(3, .e (.c (.d (D.sl (bxD xs1) (List.length xs1))))), (5, rV 1 0), (6, rV 0 0), (7, .e (.c (.d (D.sl (bxD (ixR xs1 bs2)) (List.length (ixR xs1 bs2)))))), (8, iV (ixE xs1 bs2)), (9, .e (.c (.d (D.sl (bxD (ixR bs2 xs1)) (List.length (ixR bs2 xs1)))))), (10, iV (ixE bs2 xs1)), (11, .e (.c (.d (D.sl (bxD (ixR xs1 xs1)) (List.length (ixR xs1 xs1)))))), (12, iV (ixE xs1 xs1)), (13, iV (↑i + 1))] ⟨by omega, by omega⟩ ?_
          exact Rd.of ⟨(((i + 1) : Nat), (k18 : Int), (r19 : Int), (z20 : Int), (m21 : List Int), (q22 : List Int)), ⟨zqos2, zqos2, (by first | assumption | omega)⟩⟩ [] (P := (q9d (bxD xs1)) ∧ (q9n (List.length xs1)) ∧ (q9n 0) ∧ (q9n 0) ∧ (q9d (bxD (ixR xs1 bs2))) ∧ (q9n (List.length (ixR xs1 bs2))) ∧ (q9i (ixE xs1 bs2)) ∧ (q9d (bxD (ixR bs2 xs1))) ∧ (q9n (List.length (ixR bs2 xs1))) ∧ (q9i (ixE bs2 xs1)) ∧ (q9d (bxD (ixR xs1 xs1))) ∧ (q9n (List.length (ixR xs1 xs1))) ∧ (q9i (ixE xs1 xs1)) ∧ (((((i + 1) : Nat) : Int) : Int) = ((i : Int) + 1)) ∧ (q9d [db q22 (List.length q22)]) ∧ (q9d [iD k18, iD r19, dl m21 (List.length m21), iD z20])) zk ⟨rfl, rfl, rfl, rfl, rfl, rfl, rfl, rfl, rfl, rfl, rfl, rfl, rfl, zqos1, rfl, rfl⟩ (show 4 - (i + 1) < 4 - i from (by first | omega | (show _ < _; simp; omega)))
        · have hx46 : haB (bxL (ixR bs2 xs1)) ck cr cm cz = false := ab_v (by assumption) (by assumption) (by assumption) (by assumption) ⟨by omega, by omega⟩ hx42
          refine y9r (.no :: .b false :: .no :: .no :: .no :: .b false :: .no :: .no :: .call [] (bV false) [] 0 [] none :: nz9 5 (.call [] (bV false) [] 0 [] none :: .no :: .no :: .call [] (bV false) [] 0 [] none :: nz9 5 [.call [] (bV false) [] 0 [] none, .no, .no, .call [] (bV false) [] 0 [] none, .no, .no])) ((¬ ((ixE xs1 (siL ck cr cm cz)) ≠ 0)) ∧ (¬ ((0 : Int) < (List.length (ixR xs1 (siL ck cr cm cz)) : Int))) ∧ (Fun 21 [.c (.d (D.sl (bxD xs1) (List.length xs1))), .agg [iC ck, iC cr, .d (dl cm (List.length cm)), iC cz]] (toG []) 0 (bV false) (toG []) 0) ∧ (Fun 21 [.c (.d (D.sl (bxD (ixR xs1 bs2)) (List.length (ixR xs1 bs2)))), .agg [iC ck, iC cr, .d (dl cm (List.length cm)), iC cz]] (toG []) 0 (bV false) (toG []) 0) ∧ (Fun 21 [.c (.d (D.sl (bxD (ixR bs2 xs1)) (List.length (ixR bs2 xs1)))), .agg [iC ck, iC cr, .d (dl cm (List.length cm)), iC cz]] (toG []) 0 (bV false) (toG []) 0) ∧ (Fun 21 [.c (.d (D.sl (bxD (ixR xs1 xs1)) (List.length (ixR xs1 xs1)))), .agg [iC ck, iC cr, .d (dl cm (List.length cm)), iC cz]] (toG []) 0 (bV false) (toG []) 0) ∧ (Fun 21 [.c (.d (D.sl (bxD xs1) (List.length xs1))), .agg [iC ck, iC cr, .d (dl cm (List.length cm)), iC cz]] (toG []) 0 (bV false) (toG []) 0)) [(3, .e (.c (.d (D.sl (bxD xs1) (List.length xs1))))), (5, rV 1 0), (6, rV 0 0), (7, .e (.c (.d (D.sl (bxD (ixR xs1 bs2)) (List.length (ixR xs1 bs2)))))), (8, iV (ixE xs1 bs2)), (9, .e (.c (.d (D.sl (bxD (ixR bs2 xs1)) (List.length (ixR bs2 xs1)))))), (10, iV (ixE bs2 xs1)), (11, .e (.c (.d (D.sl (bxD (ixR xs1 xs1)) (List.length (ixR xs1 xs1)))))), (12, iV (ixE xs1 xs1)), (13, uV i), (82, bV false)] [(0, some (95, .ds [db u (List.length u)])), (1, some (27, (tOS1_0 ck cr cm cz)))] 2 ⟨zo, zo, (by have h0 := (M_Has xs1 (List.length xs1) ck cr cm (List.length cm) cz rfl zo (show BsW xs1 by with_reducible assumption) rfl zo); rw [hx37] at h0; exact h0), (by have h0 := (M_Has (ixR xs1 bs2) (List.length (ixR xs1 bs2)) ck cr cm (List.length cm) cz rfl zqos0 (ixR_W (show BsW xs1 by with_reducible assumption)) rfl zo); rw [hx42] at h0; exact h0), (by have h0 := (M_Has (ixR bs2 xs1) (List.length (ixR bs2 xs1)) ck cr cm (List.length cm) cz rfl zqos0 (ixR_W (show BsW bs2 by with_reducible assumption)) rfl zo); rw [hx46] at h0; exact h0), (by have h0 := (M_Has (ixR xs1 xs1) (List.length (ixR xs1 xs1)) ck cr cm (List.length cm) cz rfl zqos0 (ixR_W (show BsW xs1 by with_reducible assumption)) rfl zo); rw [hx41] at h0; exact h0), (by have h0 := (M_Has xs1 (List.length xs1) ck cr cm (List.length cm) cz rfl zo (show BsW xs1 by with_reducible assumption) rfl zo); rw [hx37] at h0; exact h0)⟩ ?_
          refine zfs ?_
          obtain ⟨k23, r24, z25, m26, q27, hx47, hx48, hF27⟩ := (H_Choice u xs1 (List.length xs1) (show Byt u by with_reducible assumption) rfl zo (show BsW xs1 by with_reducible assumption))
          refine y9g [.no, .no, .call [0] (.e (.agg [iC k23, iC r24, .d (dl m26 (List.length m26)), iC z25])) [(0, some (95, .ds [db q27 (List.length q27)]))] 1 [] none, .no] _ [(3, .e (.c (.d (D.sl (bxD xs1) (List.length xs1))))), (5, rV 1 0), (6, rV 0 0), (7, .e (.c (.d (D.sl (bxD (ixR xs1 bs2)) (List.length (ixR xs1 bs2)))))), (8, iV (ixE xs1 bs2)), (9, .e (.c (.d (D.sl (bxD (ixR bs2 xs1)) (List.length (ixR bs2 xs1)))))), (10, iV (ixE bs2 xs1)), (11, .e (.c (.d (D.sl (bxD (ixR xs1 xs1)) (List.length (ixR xs1 xs1)))))), (12, iV (ixE xs1 xs1)), (13, uV i)] [(0, some (95, .ds [db q27 (List.length q27)])), (1, some (27, .ds [iD k23, iD r24, dl m26 (List.length m26), iD z25]))] 2 hF27 ?_
          refine y9h [.no, .w, .no] ((-9223372036854775808) ≤ ((i : Int) + 1) ∧ ((i : Int) + 1) ≤ 9223372036854775807) [(3, .e (.c (.d (D.sl (bxD xs1) (List.length xs1))))), (5, rV 1 0), (6, rV 0 0), (7, .e (.c (.d (D.sl (bxD (ixR xs1 bs2)) (List.length (ixR xs1 bs2)))))), (8, iV (ixE xs1 bs2)), (9, .e (.c (.d (D.sl (bxD (ixR bs2 xs1)) (List.length (ixR bs2 xs1)))))), (10, iV (ixE bs2 xs1)), (11, .e (.c (.d (D.sl (bxD (ixR xs1 xs1)) (List.length (ixR xs1 xs1)))))), (12, iV (ixE xs1 xs1)), (13, iV (↑i + 1))] ⟨by omega, by omega⟩ ?_
          exact Rd.of ⟨(((i + 1) : Nat), (k23 : Int), (r24 : Int), (z25 : Int), (m26 : List Int), (q27 : List Int)), ⟨zqos2, zqos2, (by first | assumption | omega)⟩⟩ [] (P := (q9d (bxD xs1)) ∧ (q9n (List.length xs1)) ∧ (q9n 0) ∧ (q9n 0) ∧ (q9d (bxD (ixR xs1 bs2))) ∧ (q9n (List.length (ixR xs1 bs2))) ∧ (q9i (ixE xs1 bs2)) ∧ (q9d (bxD (ixR bs2 xs1))) ∧ (q9n (List.length (ixR bs2 xs1))) ∧ (q9i (ixE bs2 xs1)) ∧ (q9d (bxD (ixR xs1 xs1))) ∧ (q9n (List.length (ixR xs1 xs1))) ∧ (q9i (ixE xs1 xs1)) ∧ (((((i + 1) : Nat) : Int) : Int) = ((i : Int) + 1)) ∧ (q9d [db q27 (List.length q27)]) ∧ (q9d [iD k23, iD r24, dl m26 (List.length m26), iD z25])) zk ⟨rfl, rfl, rfl, rfl, rfl, rfl, rfl, rfl, rfl, rfl, rfl, rfl, rfl, zqos1, rfl, rfl⟩ (show 4 - (i + 1) < 4 - i from (by first | omega | (show _ < _; simp; omega)))
  · refine zr [.no, .b false] [3, 5, 6, 7, 8, 9, 10, 11, 12, 13, 44] [0, 1] (¬ ((i : Int) < 4)) [(3, .e (.c (.d (D.sl (bxD xs1) (List.length xs1))))), (5, rV 1 0), (6, rV 0 0), (7, .e (.c (.d (D.sl (bxD (ixR xs1 bs2)) (List.length (ixR xs1 bs2)))))), (8, iV (ixE xs1 bs2)), (9, .e (.c (.d (D.sl (bxD (ixR bs2 xs1)) (List.length (ixR bs2 xs1)))))), (10, iV (ixE bs2 xs1)), (11, .e (.c (.d (D.sl (bxD (ixR xs1 xs1)) (List.length (ixR xs1 xs1)))))), (12, iV (ixE xs1 xs1)), (13, uV i), (44, bV false)] [(0, some (95, .ds [db u (List.length u)])), (1, some (27, (tOS1_0 ck cr cm cz)))] 2 zo ?_
    refine zf ?_
    refine AW.exit ?_
    refine y9r [.no, .b true, .no, .no, .b true, .no, .no, .no, .b true, .no, .no] ((((ixE xs1 bs2) = 0)) ∧ (((ixE bs2 xs1) = 0)) ∧ (((ixE xs1 xs1) = 0))) [(2, bV true)] [] 2 ⟨zo, zo, zo⟩ ?_
    refine AW.ret ?_
    exact EndP.of (.inr rfl) [] (P := (true = true)) zk rfl
theorem Sl.max {k : IntKind} {w : World} {a : Option Addr} {len cap : Nat} {l : List Int} (h : Sl k w a len cap l) : List.length l ≤ 9223372036854775807 := by
  obtain ⟨h1, h2, h3, _⟩ := h
  unfold maxLen at h3
  omega
theorem L_Sgl_walk {w : World}  {xa0 : Option Addr} {xl0 xc0 : Nat} {s : List Int} (hs0 : Sl .u8 w xa0 xl0 xc0 s)  : Calls Tryz.prog 9 #[.slice xa0 xl0 xc0] w fun e w' => e = .returned (.bool true) ∧ Below w.heap.size w w' :=
  (L_Sgl s (List.length s) (Byt.of fun x hx => bounds_u8 (hs0.wf x hx)) rfl hs0.max).walk ⟨repE_sl hs0, trivial⟩
end Go.Proofs.YtcfmjpnffembpaaGreat
