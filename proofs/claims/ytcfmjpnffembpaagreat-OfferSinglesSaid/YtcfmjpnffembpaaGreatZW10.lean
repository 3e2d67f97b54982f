/- Merged texts. -/
import Derived.Test.YtcfmjpnffembpaaGreatZL10M
import Derived.Test.YtcfmjpnffembpaaGreatZL10G
namespace Go.Proofs.YtcfmjpnffembpaaGreat
open Go.ChangeShapes Go.WideShapes Go.ChangeAt Go.RowKit
set_option linter.unusedVariables false
set_option linter.unusedSimpArgs false
/-! chapter 10: the best choice is in the list, and no other one is better -/
theorem or_le {a b : Int} (h1 : a ≤ 0) (h2 : b ≤ 0) : orV a b ≤ 0 := by unfold orV; split <;> assumption
theorem bk_spec (b w : Int) : ∀ j, (bkK b w j = 0 ∧ ∀ q, 1 ≤ q → q ≤ j → kiB b q = false) ∨ (∃ q : Nat, 1 ≤ q ∧ q ≤ j ∧ bkK b w j = (q : Int) ∧ kiB b q = true ∧ ∀ p : Nat, 1 ≤ p → p ≤ j → kiB b p = true → kdV w (q : Int) (p : Int) ≤ 0)
  | 0 => .inl ⟨rfl, fun q h1 h2 => by omega⟩
  | j + 1 => by
    have ih := bk_spec b w j
    cases hk : kiB b (j + 1) with
    | false =>
      have e : bkK b w (j + 1) = bkK b w j := bk_k rfl hk
      rw [e]
      rcases ih with ⟨h1, h2⟩ | ⟨q, h1, h2, h3, h4, h5⟩
      · refine .inl ⟨h1, fun q h3 h4 => ?_⟩
        by_cases e2 : q = j + 1
        · rw [e2]; exact hk
        · exact h2 q h3 (by omega)
      · refine .inr ⟨q, h1, by omega, h3, h4, fun p h6 h7 h8 => ?_⟩
        by_cases e2 : p = j + 1
        · rw [e2, hk] at h8; cases h8
        · exact h5 p h6 (by omega) h8
    | true =>
      rcases ih with ⟨h1, h2⟩ | ⟨q, h1, h2, h3, h4, h5⟩
      · refine .inr ⟨j + 1, by omega, Nat.le_refl _, by rw [bk_y rfl hk (.inl h1) rfl]; omega, hk, fun p h6 h7 h8 => ?_⟩
        by_cases e2 : p = j + 1
        · rw [e2]; exact Int.le_of_eq ((kdV_cmp w).zero _)
        · rw [h2 p h6 (by omega)] at h8; cases h8
      · by_cases hc : kdV w ((j : Int) + 1) (bkK b w j) < 0
        · refine .inr ⟨j + 1, by omega, Nat.le_refl _, by rw [bk_y rfl hk (.inr hc) rfl]; omega, hk, fun p h6 h7 h8 => ?_⟩
          by_cases e2 : p = j + 1
          · rw [e2]; exact Int.le_of_eq ((kdV_cmp w).zero _)
          · rw [h3] at hc
            exact (kdV_cmp w).tr _ (q : Int) _ (by rw [show ((j + 1 : Nat) : Int) = (j : Int) + 1 by omega]; omega) (h5 p h6 (by omega) h8)
        · refine .inr ⟨q, h1, by omega, by rw [bk_n rfl (by omega) hc]; exact h3, h4, fun p h6 h7 h8 => ?_⟩
          by_cases e2 : p = j + 1
          · rw [h3] at hc
            have := (kdV_cmp w).anti (q : Int) ((j : Int) + 1)
            rw [e2, show ((j + 1 : Nat) : Int) = (j : Int) + 1 by omega]; omega
          · exact h5 p h6 (by omega) h8
theorem bm_spec (w : List Int) (ms : List (List Int)) : ∀ j, 1 ≤ j → j ≤ ms.length → bmM w ms j ∈ ms ∧ ∀ i, i < j → mpV w (bmM w ms j) (List.getD ms i []) ≤ 0
  | 0, h, _ => absurd h (by decide)
  | j + 1, _, hj => by
    have hm : List.getD ms j [] ∈ ms := by
      rw [List.getD_eq_getElem?_getD, List.getElem?_eq_getElem (by omega : j < ms.length)]; exact List.getElem_mem _
    by_cases h0 : j = 0
    · subst h0
      rw [bm_1 (w := w) (ms := ms) rfl]
      refine ⟨hm, fun i hi => ?_⟩
      obtain rfl : i = 0 := by omega
      exact Int.le_of_eq ((mpV_cmp w).zero _)
    · obtain ⟨h1, h2⟩ := bm_spec w ms j zo zo
      by_cases hc : mpV w (List.getD ms j []) (bmM w ms j) < 0
      · rw [bm_y rfl hc rfl]
        refine ⟨hm, fun i hi => ?_⟩
        by_cases e : i = j
        · rw [e]; exact Int.le_of_eq ((mpV_cmp w).zero _)
        · exact (mpV_cmp w).tr _ _ _ (by omega) (h2 i (by omega))
      · rw [bm_n rfl h0 hc]
        refine ⟨h1, fun i hi => ?_⟩
        by_cases e : i = j
        · have := (mpV_cmp w).anti (bmM w ms j) (List.getD ms j [])
          rw [e]; omega
        · exact h2 i (by omega)
theorem ne_spec {z : Int} {l : List Int} {n : Nat} (hl : l.length = n * 2) (h1 : 1 ≤ spN l n) : hsB (spS l n) (neV z (spS l n)) = true ∧ ∀ x, hsB (spS l n) x = true → nrV z (neV z (spS l n)) x ≤ 0 := by
  have hok := sp_ok hl
  have hlen := prs_len (sp_len hl)
  unfold neV
  generalize hs : prs (spS l n) = s at *
  cases s with
  | nil => simp only [List.length_nil] at hlen; omega
  | cons p r =>
    have hp := hok.1
    unfold spV at hp
    have hc : p.1 ≤ clP z p ∧ clP z p ≤ p.2 := by unfold clP; omega
    have h0 : nrP z (p :: r) none = nrP z r (some (clP z p)) := rfl
    obtain ⟨w, hw⟩ := nr_some z r (clP z p)
    obtain ⟨i1, i2, i3⟩ := nr_best z r (clP z p) w hok.2.2 (fun q hq => by have := hok.2.1 q hq; omega) hw
    rw [h0, hw]
    show hsB (spS l n) w = true ∧ ∀ x, hsB (spS l n) x = true → nrV z w x ≤ 0
    refine ⟨hs_iff.2 (by rw [hs]; exact meP_cons.2 (i1.imp (fun e => by rw [e]; exact hc) id)), fun x hx => ?_⟩
    have hx := hs_iff.1 hx
    rw [hs] at hx
    have hd : dsP w z < dsP x z ∨ (dsP w z = dsP x z ∧ w ≤ x) := by
      rcases meP_cons.1 hx with hx | hx
      · have := cl_near hp.2.1 z x hx
        rcases this with h9 | h9 | h9
        · omega
        · rw [← h9]; omega
        · omega
      · exact i3 x hx
    have a1 : awV z w = dsP w z := by unfold awV dsP; (repeat' split) <;> omega
    have a2 : awV z x = dsP x z := by unfold awV dsP; (repeat' split) <;> omega
    unfold nrV orV cmV
    rw [a1, a2]
    (repeat' split) <;> omega
def BxG (b : Bx) : Prop := BxW b ∧ 1 ≤ spN b.r b.rn ∧ 1 ≤ spN b.s b.sn ∧ 1 ≤ List.length b.m ∧ ∃ q, 1 ≤ q ∧ q ≤ 7 ∧ kiB b.k q = true
theorem bc_spec {b : Bx} (h : BxG b) (w : Co) : biB b.k b.r b.rn b.m b.s b.sn (bxC b w).k (bxC b w).r (bxC b w).m (bxC b w).s = true ∧ ∀ c : Co, biB b.k b.r b.rn b.m b.s b.sn c.k c.r c.m c.s = true → coV w (bxC b w) c ≤ 0 := by
  obtain ⟨⟨hr, hs, _⟩, h1, h2, h3, q, q1, q2, q3⟩ := h
  obtain ⟨r1, r2⟩ := ne_spec (z := w.r) hr h1
  obtain ⟨s1, s2⟩ := ne_spec (z := w.s) hs h2
  obtain ⟨m1, m2⟩ := bm_spec w.m b.m b.m.length h3 (Nat.le_refl _)
  rcases bk_spec b.k w.k 7 with ⟨_, k2⟩ | ⟨p, p1, p2, p3, p4, p5⟩
  · rw [k2 q q1 q2] at q3; cases q3
  · have ek : (bxC b w).k = (p : Int) := p3
    refine ⟨bi_t (by rw [ek, kj_i]; exact p4) r1 (decide_eq_true m1) s1, fun c hc => ?_⟩
    unfold biB at hc
    rw [Bool.and_eq_true, Bool.and_eq_true, Bool.and_eq_true] at hc
    obtain ⟨c1, c2, c3, c4⟩ := hc
    unfold kjB at c1
    rw [Bool.and_eq_true, decide_eq_true_iff] at c1
    refine or_le ?_ (or_le (r2 _ c2) (or_le ?_ (s2 _ c4)))
    · rw [ek]
      have := p5 c.k.toNat (by omega) (by omega) c1.2
      rw [show ((c.k.toNat : Nat) : Int) = c.k by omega] at this; exact this
    · obtain ⟨i, hi, e⟩ := List.mem_iff_getElem.1 (of_decide_eq_true c3)
      have := m2 i hi
      rw [show List.getD b.m i [] = c.m by rw [List.getD_eq_getElem?_getD, List.getElem?_eq_getElem hi]; exact e] at this
      exact this
def BsG (bs : List Bx) : Prop := ∀ b ∈ bs, BxG b
def hcB (bs : List Bx) (c : Co) : Prop := ∃ b ∈ bs, biB b.k b.r b.rn b.m b.s b.sn c.k c.r c.m c.s = true
theorem bxG_mem {bs : List Bx} {i : Nat} (h : i < bs.length) : bxG bs i ∈ bs := by
  unfold bxG; rw [List.getD_eq_getElem?_getD, List.getElem?_eq_getElem h]; exact List.getElem_mem _
theorem ha_iff {bs : List Bx} {ck cr : Int} {cm : List Int} {cz : Int} : haB bs ck cr cm cz = true ↔ hcB bs ⟨ck, cr, cm, cz⟩ := by
  unfold haB; rw [decide_eq_true_iff]
  constructor
  · rintro ⟨i, hi, h⟩
    exact ⟨bxG bs i, bxG_mem hi, h⟩
  · rintro ⟨b, hb, h⟩
    obtain ⟨i, hi, rfl⟩ := List.mem_iff_getElem.1 hb
    have e : bxG bs i = bs[i] := by unfold bxG; rw [List.getD_eq_getElem?_getD, List.getElem?_eq_getElem hi]; rfl
    exact ⟨i, hi, by unfold biE qbK qbR qbN qbM qbS qbT; rw [e]; exact h⟩
end Go.Proofs.YtcfmjpnffembpaaGreat
namespace Go.Proofs.YtcfmjpnffembpaaGreat
open Go.ChangeShapes Go.WideShapes Go.ChangeAt Go.RowKit
set_option linter.unusedVariables false
set_option linter.unusedSimpArgs false
/-! chapter 10: boxes out of dice are valid -/
theorem kb_in (l : List Int) (h : Byt l) : ∃ q : Nat, 1 ≤ q ∧ q ≤ 7 ∧ kbV l = ((2 ^ q : Nat) : Int) := by
  have h2 := nextV_in l 7 h
  refine ⟨1 + nextN l 7, by omega, by omega, ?_⟩
  unfold kbV
  have h3 : nextN l 7 < 7 := by omega
  generalize nextN l 7 = n at *
  match n, h3 with
  | 0, _ => rfl
  | 1, _ => rfl
  | 2, _ => rfl
  | 3, _ => rfl
  | 4, _ => rfl
  | 5, _ => rfl
  | 6, _ => rfl
def KG (k : Int) : Prop := 2 ≤ k ∧ k ≤ 254 ∧ k % 2 = 0
def orC : Bool := (List.range 127).all fun n => (List.range 7).all fun q => decide (2 ≤ orI (2 * (n : Int) + 2) ((2 ^ (q + 1) : Nat) : Int) ∧ orI (2 * (n : Int) + 2) ((2 ^ (q + 1) : Nat) : Int) ≤ 254 ∧ orI (2 * (n : Int) + 2) ((2 ^ (q + 1) : Nat) : Int) % 2 = 0)
theorem orC_t : orC = true := by kernel_rfl
theorem KG.or {k : Int} (h : KG k) {q : Nat} (h1 : 1 ≤ q) (h2 : q ≤ 7) : KG (orI k ((2 ^ q : Nat) : Int)) := by
  unfold KG at h
  obtain ⟨n, rfl⟩ : ∃ n : Nat, k = 2 * (n : Int) + 2 := ⟨((k - 2) / 2).toNat, by omega⟩
  obtain ⟨r, rfl⟩ : ∃ r, q = r + 1 := ⟨q - 1, by omega⟩
  have h9 := List.all_eq_true.1 (List.all_eq_true.1 orC_t n (List.mem_range.2 (by omega))) r (List.mem_range.2 (by omega))
  have h8 := of_decide_eq_true h9
  exact h8
theorem KG.one {q : Nat} (h1 : 1 ≤ q) (h2 : q ≤ 7) : KG ((2 ^ q : Nat) : Int) := by
  match q, h1, h2 with
  | 1, _, _ => exact ⟨by decide, by decide, by decide⟩
  | 2, _, _ => exact ⟨by decide, by decide, by decide⟩
  | 3, _, _ => exact ⟨by decide, by decide, by decide⟩
  | 4, _, _ => exact ⟨by decide, by decide, by decide⟩
  | 5, _, _ => exact ⟨by decide, by decide, by decide⟩
  | 6, _, _ => exact ⟨by decide, by decide, by decide⟩
  | 7, _, _ => exact ⟨by decide, by decide, by decide⟩
theorem kn_g {l : List Int} {k : Int} (hl : Byt l) (hk : KG k) : ∀ i, KG (knK l k i)
  | 0 => hk
  | i + 1 => by
    obtain ⟨q, h1, h2, e⟩ := kb_in (knD l i) (knD_byt hl i)
    show KG (orI (knK l k i) (kbV (knD l i)))
    rw [e]; exact (kn_g hl hk i).or h1 h2
theorem boK_g {l : List Int} (h : Byt l) : KG (boK l) := by
  unfold boK bo1
  obtain ⟨q, h1, h2, e⟩ := kb_in l h
  rw [e]; exact kn_g (nextL_byt _ (nextL_byt _ h)) (KG.one h1 h2) _
def kgC : Bool := (List.range 127).all fun n => decide (anV (2 * (n : Int) + 2) = 0) && (List.range 7).any fun q => decide (odV ((2 * (n : Int) + 2) / ((2 ^ (q + 1) : Nat) : Int)) = 1)
theorem kgC_t : kgC = true := by kernel_rfl
theorem KG.ok {k : Int} (h : KG k) : (¬ k = 0 ∧ anV k = 0) ∧ ∃ q, 1 ≤ q ∧ q ≤ 7 ∧ kiB k q = true := by
  unfold KG at h
  obtain ⟨n, rfl⟩ : ∃ n : Nat, k = 2 * (n : Int) + 2 := ⟨((k - 2) / 2).toNat, by omega⟩
  have h1 := List.all_eq_true.1 kgC_t n (List.mem_range.2 (by omega))
  rw [Bool.and_eq_true, decide_eq_true_iff] at h1
  obtain ⟨q, hq, h2⟩ := List.any_eq_true.1 h1.2
  have hq := List.mem_range.1 hq
  exact ⟨⟨by omega, h1.1⟩, q + 1, by omega, by omega, decide_eq_true ⟨by omega, by omega, of_decide_eq_true h2⟩⟩
/-! sets -/
def SpB (l : List Int) (n : Nat) (lo hi : Int) : Prop := l.length = n * 2 ∧ ∀ p ∈ prs l, lo ≤ p.1 ∧ p.1 ≤ p.2 ∧ p.2 ≤ hi
theorem prs_two (a b : Int) : prs [a, b] = [(a, b)] := rfl
theorem sm_in {sp : List Int} {n : Nat} {lo hi : Int} (h : SpB sp n lo hi) (l : List Int) : ∀ i, i ≤ n → ∃ k, k ≤ i ∧ SpB (smL sp l i) k lo hi
  | 0, _ => ⟨0, Nat.le_refl _, rfl, fun p hp => by cases hp⟩
  | i + 1, hi_ => by
    obtain ⟨k, hk, hl, hb⟩ := sm_in h l i zo
    rw [smL]; split
    · refine ⟨k + 1, by omega, by rw [List.length_append]; simp only [List.length_cons, List.length_nil]; omega, fun p hp => ?_⟩
      rw [prs_snoc hl] at hp
      rcases List.mem_append.1 hp with hp | hp
      · exact hb p hp
      · rw [List.mem_singleton.1 hp]; exact h.2 _ ((mem_prs h.1).2 ⟨i, by omega, rfl⟩)
    · exact ⟨k, by omega, hl, hb⟩
theorem se_in {sp : List Int} {n : Nat} {lo hi : Int} (h : SpB sp n lo hi) (h1 : 1 ≤ n) (l : List Int) (hl : nextN (smD l n) (n : Int) < n) : 1 ≤ seN sp l n ∧ seN sp l n ≤ n ∧ SpB (seL sp l n) (seN sp l n) lo hi := by
  obtain ⟨k, hk, h2, h3⟩ := sm_in h l n (Nat.le_refl _)
  by_cases e : smL sp l n = []
  · have e1 : seL sp l n = [List.getD sp (nextN (smD l n) (n : Int) * 2) 0, List.getD sp (nextN (smD l n) (n : Int) * 2 + 1) 0] := if_pos e
    have e2 : seN sp l n = 1 := by simp [seN, e1]
    rw [e2, e1]
    refine ⟨Nat.le_refl _, h1, rfl, fun p hp => ?_⟩
    rw [prs_two] at hp
    rw [List.mem_singleton.1 hp]; exact h.2 _ ((mem_prs h.1).2 ⟨_, hl, rfl⟩)
  · have e1 : seL sp l n = smL sp l n := if_neg e
    have e2 : seN sp l n = k := by unfold seN; rw [e1, h2]; omega
    have hk0 : k ≠ 0 := fun e3 => e (List.eq_nil_of_length_eq_zero (by omega))
    rw [e2, e1]
    exact ⟨by omega, hk, h2, h3⟩
theorem me_jdX {l : List Int} {n : Nat} (hl : l.length = n * 2) (hr : RG l n) (z : Int) : meP (prs (jdS l)) z ↔ meP (prs l) z := by
  unfold jdS; rw [prs_fl]; exact (mk_ok (hr.v hl)).2.1 z
theorem mk_wi {l : List Int} {n : Nat} {lo hi : Int} (h : SpB l n lo hi) (h1 : 1 ≤ n) (h2 : n ≤ 64) (hlo : 0 ≤ lo) (hhi : hi ≤ 2147483647) : wiB (mkL l n) (mkN l n) lo hi = true := by
  obtain ⟨hl, hb⟩ := h
  have hr : RG l n := RG.of hl fun p hp => by have := hb p hp; unfold spV; omega
  have hj := jd_le hl hr
  obtain ⟨_, e1, e2⟩ := mk_good (rg_iff.2 hr) zo
  have hva := mkL_va hl
  have hlen := jd_len l
  have hok : okP (prs (jdS l)) := by rw [← e1]; exact mkL_ok hl
  have hme : ∀ z, meP (prs (jdS l)) z ↔ meP (prs l) z := me_jdX hl hr
  rw [e1, e2] at *
  have hsv : ∀ p ∈ prs (jdS l), lo ≤ p.1 ∧ p.1 ≤ p.2 ∧ p.2 ≤ hi := fun p hp => by
    have hv := okP_v hok p hp
    unfold spV at hv
    obtain ⟨q, hq, q1⟩ := (hme p.1).1 ⟨p, hp, by omega⟩
    obtain ⟨r, hr_, r1⟩ := (hme p.2).1 ⟨p, hp, by omega⟩
    have b1 := hb q hq; have b2 := hb r hr_
    omega
  have hn : 1 ≤ jdN l := by
    have hm : (List.getD l (0 * 2) 0, List.getD l (0 * 2 + 1) 0) ∈ prs l := (mem_prs hl).2 ⟨0, by omega, rfl⟩
    have b1 := hb _ hm
    obtain ⟨q, hq, _⟩ := (hme (List.getD l (0 * 2) 0)).2 ⟨_, hm, by simp only at b1 ⊢; omega⟩
    have : 0 < (prs (jdS l)).length := List.length_pos_of_mem hq
    rw [prs_len hlen] at this; exact this
  have f1 := hsv _ ((mem_prs hlen).2 ⟨0, by omega, rfl⟩)
  have f2 := hsv _ ((mem_prs hlen).2 ⟨jdN l - 1, by omega, rfl⟩)
  exact wi_y hva ⟨hn, f1.1, f2.2.2⟩
/-! maps -/
theorem mp_ch : ∀ m ∈ mpT, chB m m.length = true := by decide
theorem mp_mem {l : List Int} (h : Byt l) : maV l ∈ mpT := by
  have h2 := nextV_in l 7 h
  have h3 : nextN l 7 < mpT.length := by show _ < 7; omega
  unfold maV
  rw [List.getD_eq_getElem?_getD, List.getElem?_eq_getElem h3]; exact List.getElem_mem h3
theorem th_mem {ms : List (List Int)} {m : List Int} (h : thB ms m = false) : m ∉ ms := fun hm => by
  have : thB ms m = true := List.any_eq_true.2 ⟨m, hm, decide_eq_true ⟨rfl, rfl⟩⟩
  rw [this] at h; cases h
def MsV (ms : List (List Int)) : Prop := (∀ m ∈ ms, chB m m.length = true) ∧ ms.Pairwise fun a b => a ≠ b
theorem mt_v {l : List Int} (h : Byt l) : ∀ i, MsV (mtS l i)
  | 0 => ⟨fun m hm => (by cases hm), List.Pairwise.nil⟩
  | i + 1 => by
    obtain ⟨h1, h2⟩ := mt_v h i
    rw [mtS]; split
    · exact ⟨h1, h2⟩
    · rename_i hn
      have hn : thB (mtS l i) (maV (mtD l i)) = false := by simpa using hn
      refine ⟨fun m hm => ?_, List.pairwise_append.2 ⟨h2, List.pairwise_singleton .., fun a ha b hb => ?_⟩⟩
      · rcases List.mem_append.1 hm with hm | hm
        · exact h1 m hm
        · rw [List.mem_singleton.1 hm]; exact mp_ch _ (mp_mem (mtD_byt h i))
      · rw [List.mem_singleton.1 hb]; intro e; exact th_mem hn (e ▸ ha)
theorem mt_ne (l : List Int) : ∀ i, 1 ≤ i → 1 ≤ (mtS l i).length
  | 0, h => absurd h (by decide)
  | i + 1, _ => by
    rw [mtS]; split
    · rename_i hn
      cases e : mtS l i with
      | nil => rw [e] at hn; cases hn
      | cons a r => rw [List.length_cons]; omega
    · rw [List.length_append, List.length_singleton]; omega
theorem vm_of {ms : List (List Int)} (h : MsV ms) (h1 : 1 ≤ ms.length) (h2 : ms.length ≤ 16) : vmB ms = true := by
  refine vm_t h1 h2 fun i hi => vmE_y ?_ ?_
  · rw [show List.getD ms i [] = ms[i] by rw [List.getD_eq_getElem?_getD, List.getElem?_eq_getElem hi]; rfl]
    exact h.1 _ (List.getElem_mem hi)
  · rw [show List.getD ms i [] = ms[i] by rw [List.getD_eq_getElem?_getD, List.getElem?_eq_getElem hi]; rfl]
    refine decide_eq_false fun hm => ?_
    obtain ⟨j, hj, e⟩ := List.mem_iff_getElem.1 hm
    rw [List.length_take] at hj
    rw [List.getElem_take] at e
    exact List.pairwise_iff_getElem.1 h.2 j i (by omega) hi (by omega) e
/-! boxes -/
theorem rt_b : SpB rtT 5 1000 768000 := ⟨rfl, by decide⟩
theorem sz_b : SpB szT 4 1 65536 := ⟨rfl, by decide⟩
theorem wi_sp {l : List Int} {n : Nat} {lo hi : Int} (h : wiB l n lo hi = true) : vaB l n = true ∧ spS l n = l ∧ spN l n = n ∧ 1 ≤ n := by
  unfold wiB at h
  rw [Bool.and_eq_true, decide_eq_true_iff] at h
  exact ⟨h.1, (sp_y h.1).1, (sp_y h.1).2, h.2.1⟩
theorem vm_ne {ms : List (List Int)} (h : vmB ms = true) : 1 ≤ ms.length := (of_decide_eq_true h).1
attribute [local irreducible] seL seD seN mkL mkN nextN nextL maV thB knD mtD mtS knK wiB vmB
theorem boX_ok {l : List Int} (h : Byt l) : bxB (boX l).k (boX l).r (boX l).rn (boX l).m (boX l).s (boX l).sn = true := by
  have b1 : Byt (bo1 l) := nextL_byt _ (nextL_byt _ h)
  have b2 : Byt (bo2 l) := knD_byt b1 _
  have b3 : Byt (bo3 l) := seD_byt b2
  have b4 : Byt (bo4 l) := seD_byt b3
  have b5 : Byt (bo5 l) := nextL_byt _ b4
  have n1 := nextV_in (smD (bo2 l) 5) 5 (smD_byt b2 5)
  have n2 := nextV_in (smD (bo3 l) 4) 4 (smD_byt b3 4)
  have n3 := nextV_in (bo4 l) 3 b4
  obtain ⟨r1, r2, r3⟩ := se_in rt_b (by decide) (bo2 l) (by show nextN _ 5 < 5; omega)
  obtain ⟨s1, s2, s3⟩ := se_in sz_b (by decide) (bo3 l) (by show nextN _ 4 < 4; omega)
  have m1 := mt_ne (bo5 l) (boN l) (by unfold boN; omega)
  have m2 := mtS_le (bo5 l) (boN l)
  have m3 : boN l ≤ 3 := by unfold boN; omega
  show bxB (boK l) (boR l) (boA l) (boM l) (boS l) (boB l) = true
  unfold boR boA boM boS boB
  exact bx_t (boK_g h).ok.1 (mk_wi r3 r1 (by omega) (by decide) (by decide)) (vm_of (mt_v b5 _) m1 (by omega)) (mk_wi s3 s1 (by omega) (by decide) (by decide))
def BxV (b : Bx) : Prop := BxW b ∧ KG b.k ∧ bxB b.k b.r b.rn b.m b.s b.sn = true
def BsV (bs : List Bx) : Prop := ∀ b ∈ bs, BxV b
theorem bx_parts {k : Int} {r : List Int} {rn : Nat} {m : List (List Int)} {s : List Int} {sn : Nat} (h : bxB k r rn m s sn = true) : (¬ k = 0 ∧ anV k = 0) ∧ wiB r rn 1000 768000 = true ∧ vmB m = true ∧ wiB s sn 1 65536 = true := by
  unfold bxB at h
  rw [Bool.and_eq_true, Bool.and_eq_true, Bool.and_eq_true, decide_eq_true_iff] at h
  exact h
theorem BxV.g {b : Bx} (h : BxV b) : BxG b := by
  obtain ⟨h1, h2, h3⟩ := h
  obtain ⟨_, p2, p3, p4⟩ := bx_parts h3
  obtain ⟨_, _, r3, r4⟩ := wi_sp p2
  obtain ⟨_, _, s3, s4⟩ := wi_sp p4
  exact ⟨h1, by omega, by omega, vm_ne p3, h2.ok.2⟩
theorem BsV.g {bs : List Bx} (h : BsV bs) : BsG bs := fun b hb => (h b hb).g
theorem BsV.w {bs : List Bx} (h : BsV bs) : BsW bs := fun b hb => (h b hb).1
theorem BsV.vb {bs : List Bx} (h : BsV bs) (hn : bs.length ≤ 64) : vbB bs = true := vb_t hn fun i hi => (h _ (bxG_mem hi)).2.2
theorem BsV.eq {bs : List Bx} (h : BsV bs) (hn : bs.length ≤ 64) : bxL bs = bs := bxL_y (h.vb hn)
theorem BsV.nil : BsV [] := fun b hb => by cases hb
theorem BsV.app {a b : List Bx} (h : BsV a) (h2 : BsV b) : BsV (a ++ b) := fun m hm => (List.mem_append.1 hm).elim (h m) (h2 m)
theorem BsV.one {b : Bx} (h : BxV b) : BsV [b] := fun m hm => by rw [List.mem_singleton.1 hm]; exact h
theorem BsV.box {xs : List Bx} (h : BsV xs) {i : Nat} (hi : i < xs.length) : BxV (mkBx (qbK xs i) (qbR xs i) (qbN xs i) (qbM xs i) (qbS xs i) (qbT xs i)) := h _ (bxG_mem hi)
theorem bbL_V {l : List Int} (h : Byt l) : ∀ i, BsV (bbL l i)
  | 0 => BsV.nil
  | i + 1 => (bbL_V h i).app (BsV.one ⟨boX_W _, boK_g (bbD_byt h i), boX_ok (bbD_byt h i)⟩)
end Go.Proofs.YtcfmjpnffembpaaGreat
