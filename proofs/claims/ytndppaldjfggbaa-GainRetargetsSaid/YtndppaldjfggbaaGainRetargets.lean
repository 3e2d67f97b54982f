/- GainRetargets: the walk. No statement is proved here. -/
import Derived.Test.YtndppaldjfggbaaGainRun
namespace Go.Proofs.Ytndppaldjfggbaa
open Go.ChangeShapes Go.WideShapes Go.ChangeAt Go.RowKit
set_option linter.unusedVariables false
set_option linter.unusedSimpArgs false

theorem stepu {f t n a i : Int} (hft : f ≤ t) (hn : 0 ≤ n) (ha : 0 ≤ a) (han : a ≤ n) (hi : 0 ≤ i) :
    f ≤ atG f t n a i ∧ atG f t n a i ≤ t ∧ atG f t n a i ≤ atG f t n a (i + 1) := by
  unfold atG
  by_cases h : n - a ≤ i
  · rw [if_pos h, if_pos (by omega)]; omega
  · rw [if_neg h]
    have hn0 : 0 < n := by omega
    have p0 : 0 ≤ (t - f) * (a + i) := Int.mul_nonneg (by omega) (by omega)
    have p1 : (t - f) * (a + i) ≤ (t - f) * n := Int.mul_le_mul_of_nonneg_left (by omega) (by omega)
    have q0 : 0 ≤ (t - f) * (a + i) / n := Int.ediv_nonneg p0 hn
    have q1 : (t - f) * (a + i) / n ≤ t - f := by
      have := Int.ediv_le_ediv hn0 p1
      rwa [Int.mul_ediv_cancel _ (by omega)] at this
    refine ⟨by omega, by omega, ?_⟩
    by_cases h2 : n - a ≤ i + 1
    · rw [if_pos h2]; omega
    · rw [if_neg h2]
      have p2 : (t - f) * (a + i) ≤ (t - f) * (a + (i + 1)) := Int.mul_le_mul_of_nonneg_left (by omega) (by omega)
      have := Int.ediv_le_ediv hn0 p2
      omega
theorem stepd {f t n a i : Int} (hft : t ≤ f) (hn : 0 ≤ n) (ha : 0 ≤ a) (han : a ≤ n) (hi : 0 ≤ i) :
    t ≤ atG f t n a i ∧ atG f t n a i ≤ f ∧ atG f t n a (i + 1) ≤ atG f t n a i := by
  unfold atG
  have neg : ∀ x : Int, (t - f) * x = -((f - t) * x) := fun x => by rw [← Int.neg_mul, Int.neg_sub]
  by_cases h : n - a ≤ i
  · rw [if_pos h, if_pos (by omega)]; omega
  · rw [if_neg h]
    have hn0 : 0 < n := by omega
    have p0 : (t - f) * (a + i) ≤ 0 := by
      have := Int.mul_nonneg (show 0 ≤ f - t by omega) (show 0 ≤ a + i by omega)
      rw [neg]; omega
    have p1 : (t - f) * n ≤ (t - f) * (a + i) := by
      have := Int.mul_le_mul_of_nonneg_left (show a + i ≤ n by omega) (show 0 ≤ f - t by omega)
      rw [neg, neg]; omega
    have q0 : (t - f) * (a + i) / n ≤ 0 := by
      have := Int.ediv_le_ediv hn0 p0
      simpa using this
    have q1 : t - f ≤ (t - f) * (a + i) / n := by
      have := Int.ediv_le_ediv hn0 p1
      rwa [Int.mul_ediv_cancel _ (by omega)] at this
    refine ⟨by omega, by omega, ?_⟩
    by_cases h2 : n - a ≤ i + 1
    · rw [if_pos h2]; omega
    · rw [if_neg h2]
      have p2 : (t - f) * (a + (i + 1)) ≤ (t - f) * (a + i) := by
        have := Int.mul_le_mul_of_nonneg_left (show a + i ≤ a + (i + 1) by omega) (show 0 ≤ f - t by omega)
        rw [neg, neg]; omega
      have := Int.ediv_le_ediv hn0 p2
      omega
theorem at_start2 {f t n : Int} (hn : 0 < n) : atG f t n 0 0 = f := by
  unfold atG; rw [if_neg (by omega)]; simp
theorem at_end2 {f t n : Int} : atG f t n 0 n = t := by
  unfold atG; rw [if_pos (by omega)]
theorem between {f t n a lo hi : Int} (hn : 0 ≤ n) (ha : 0 ≤ a) (han : a ≤ n) (h1 : lo ≤ f) (h2 : f ≤ hi) (h3 : lo ≤ t) (h4 : t ≤ hi) : lo ≤ atG f t n a 0 ∧ atG f t n a 0 ≤ hi := by
  by_cases h : f ≤ t
  · obtain ⟨u1, u2, _⟩ := stepu (f := f) (t := t) (n := n) (a := a) (i := 0) h hn ha han (by omega); omega
  · obtain ⟨u1, u2, _⟩ := stepd (f := f) (t := t) (n := n) (a := a) (i := 0) (by omega) hn ha han (by omega); omega
theorem aft_bd {s : Nat} (hs : s ≤ 7) : 0 ≤ aftG 0 5 s ∧ aftG 0 5 s ≤ 5 ∧ (5 ≤ s → aftG 0 5 s = 5) := by
  unfold aftG; split <;> omega
theorem far1 {w : World} {c b o p : Nat} {v x : Value} (hne : c ≠ b) (h : w.cell? ⟨b, p, none⟩ = some x) : (w.setCell ⟨c, o, none⟩ v).cell? ⟨b, p, none⟩ = some x := (World.cell?_setCell_far _ _ _ _ hne).trans h
theorem Lv.drop2 {W w : World} {x y : Nat × List Value × TypeId} {L : List (Nat × List Value × TypeId)} (h : Lv W w (x :: y :: L)) : Lv W w (x :: L) := ⟨h.below, h.live.1, h.live.2.2⟩
theorem k4d {w : World} {o : Obj} {b : Nat} {x0 x1 x2 x3 : Value} (h : w.cell? ⟨b, 0, none⟩ = some x0 ∧ w.cell? ⟨b, 1, none⟩ = some x1 ∧ w.cell? ⟨b, 2, none⟩ = some x2 ∧ w.cell? ⟨b, 3, none⟩ = some x3) :
    (w.alloc o).drew.cell? ⟨b, 0, none⟩ = some x0 ∧ (w.alloc o).drew.cell? ⟨b, 1, none⟩ = some x1 ∧ (w.alloc o).drew.cell? ⟨b, 2, none⟩ = some x2 ∧ (w.alloc o).drew.cell? ⟨b, 3, none⟩ = some x3 := ⟨cell_al h.1, cell_al h.2.1, cell_al h.2.2.1, cell_al h.2.2.2⟩
theorem set4r {w : World} {c b : Nat} {v0 v1 v2 v3 x0 x1 x2 x3 : Value} (h : w.cell? ⟨b, 0, none⟩ = some x0 ∧ w.cell? ⟨b, 1, none⟩ = some x1 ∧ w.cell? ⟨b, 2, none⟩ = some x2 ∧ w.cell? ⟨b, 3, none⟩ = some x3) (hne : c ≠ b) :
    ((((w.setCell ⟨c, 0, none⟩ v0).setCell ⟨c, 1, none⟩ v1).setCell ⟨c, 2, none⟩ v2).setCell ⟨c, 3, none⟩ v3).cell? ⟨b, 0, none⟩ = some x0 ∧ ((((w.setCell ⟨c, 0, none⟩ v0).setCell ⟨c, 1, none⟩ v1).setCell ⟨c, 2, none⟩ v2).setCell ⟨c, 3, none⟩ v3).cell? ⟨b, 1, none⟩ = some x1 ∧ ((((w.setCell ⟨c, 0, none⟩ v0).setCell ⟨c, 1, none⟩ v1).setCell ⟨c, 2, none⟩ v2).setCell ⟨c, 3, none⟩ v3).cell? ⟨b, 2, none⟩ = some x2 ∧ ((((w.setCell ⟨c, 0, none⟩ v0).setCell ⟨c, 1, none⟩ v1).setCell ⟨c, 2, none⟩ v2).setCell ⟨c, 3, none⟩ v3).cell? ⟨b, 3, none⟩ = some x3 := by
  exact ⟨far1 hne (far1 hne (far1 hne (far1 hne h.1))), far1 hne (far1 hne (far1 hne (far1 hne h.2.1))), far1 hne (far1 hne (far1 hne (far1 hne h.2.2.1))), far1 hne (far1 hne (far1 hne (far1 hne h.2.2.2)))⟩
theorem Lv.set4 {W w : World} {b : Nat} {T : TypeId} {z0 z1 z2 z3 : Value} {x0 x1 x2 x3 : Int} {L : List (Nat × List Value × TypeId)} (h : Lv W w ((b, [z0, z1, z2, z3], T) :: L)) (hL : ∀ y ∈ L, y.1 ≠ b) (hb : W.heap.size ≤ b) :
    Lv W ((((w.setCell ⟨b, 0, none⟩ (.int .i64 x0)).setCell ⟨b, 1, none⟩ (.int .i64 x1)).setCell ⟨b, 2, none⟩ (.int .i64 x2)).setCell ⟨b, 3, none⟩ (.int .i64 x3)) ((b, [.int .i64 x0, .int .i64 x1, .int .i64 x2, .int .i64 x3], T) :: L) :=
  (((h.setAt (k := 0) (v := .int .i64 x0) hL hb).setAt (k := 1) (v := .int .i64 x1) hL hb).setAt (k := 2) (v := .int .i64 x2) hL hb).setAt (k := 3) (v := .int .i64 x3) hL hb
theorem sl_zeros {W : World} {s : Nat} (hs : s ≤ 7) : Sl .i32 (W.alloc (Obj.cells (Array.replicate s (Value.int .i32 0)) 21)).drew (some ⟨W.heap.size, 0, none⟩) s s (List.replicate s 0) := by
  refine ⟨by simp, Nat.le_refl _, by unfold maxLen; omega, ?_, fun h => (by cases h), ?_⟩
  · intro n hn
    rw [List.eq_of_mem_replicate hn]; decide
  · by_cases h0 : s = 0
    · exact .inl h0
    · refine .inr ⟨W.heap.size, 0, rfl, ?_, fun i hi => ?_⟩
      · show W.heap.size < (W.alloc _).heap.size
        simp
      · have hb : Blk (W.alloc (Obj.cells (List.replicate s (Value.int .i32 0)).toArray 21)) W.heap.size (List.replicate s (Value.int .i32 0)) 21 := Blk.alloc_new W _ _
        have hc := hb.cell (0 + i) (v := .int .i32 0) (by rw [Nat.zero_add]; simp [hi])
        rw [List.toArray_replicate] at hc
        have e : (List.replicate s (0 : Int)).getD i 0 = 0 := by simp [List.getD_eq_getElem?_getD, hi]
        rw [e]
        exact hc
set_option maxRecDepth 100000 in
set_option maxHeartbeats 16000000 in
theorem gainRetargets_walk (a : Option Addr) (len cap : Nat) (l : List Int) (st : Int) (w : World) (hs : Sl .u16 w a len cap l) (hst : 0 ≤ st ∧ st ≤ 255) :
    Calls Try.prog 11 #[.slice a len cap, .int .u8 st] w fun e w' => e = .returned (.bool true) ∧ Below w.heap.size w w' := by
  have HS := hid hs
  have hm : len ≤ 9223372036854775807 ∧ cap ≤ 9223372036854775807 ∧ len ≤ cap := by have k1 := hs.2.1; have k2 := hs.2.2.1; unfold maxLen at k2; exact ⟨by omega, by omega, k1⟩
  obtain ⟨hm1, hm2, hm3⟩ := hm
  obtain ⟨s0, s1⟩ := hst
  obtain ⟨s, hs8⟩ : ∃ s : Nat, st % 8 = (s : Int) := ⟨(st % 8).toNat, by omega⟩
  have hs7 : s ≤ 7 := by omega
  have hs8t : st.tmod 8 = (s : Int) := by rw [Int.tmod_eq_emod_of_nonneg s0]; exact hs8
  have HL0 := hid (Lv.start w)
  clear hs
  go_enter Try.func11, Try.ntmps11
  go_wp2_with fail
  (with_reducible refine (sane_any _).mono ?_); rintro e w1 ⟨rfl, hb⟩; have HL1 := hid (HL0.out.kept hb); clear hb HL0
  by_cases h8 : 8 < len
  · have e8 : decide ((8 : Int) < (len : Int)) = true := by simp; omega
    go_wp2_with fail
    go_ret
    exact ⟨rfl, HL1.out.below⟩
  · have e8 : decide ((8 : Int) < (len : Int)) = false := by simp; omega
    have HL2 := hid (Lv.alloc (vs := [.int .i64 500, .int .i64 500, .int .i64 0, .int .i64 0]) (T := 31) HL1.out)
    have hz := HL1.out.size
    clear HL1
    go_upto_region 7 with (fail)
    generalize w1.alloc (.cells #[.int .i64 500, .int .i64 500, .int .i64 0, .int .i64 0] 31) = W2 at *
    generalize w1.heap.size = BR at *
    go_wp2_with fail
    go_loopw [6, 7, 21] (fun u7 u8 v wr => ∃ (x : Nat) (lo hi f t m aa : Int), x ≤ len ∧ v = .int .i64 x ∧ u7 = .int .i64 lo ∧ u8 = .int .i64 hi ∧ (0 ≤ lo ∧ hi ≤ 65535) ∧ Hid (validG f t m aa = true ∧ lo ≤ atG f t m aa 0 ∧ atG f t m aa 0 ≤ hi) ∧ Hid (Lv w wr [(BR, [.int .i64 f, .int .i64 t, .int .i64 m, .int .i64 aa], 31)])) (fun _ _ v _ => len - (intOf v).toNat)
    case atStart => exact ⟨0, 500, 500, 500, 500, 0, 0, by omega, rfl, rfl, rfl, by omega, ⟨by decide, by decide, by decide⟩, HL2⟩
    case round =>
      obtain ⟨x, lo, hi, f, t, m, aa, hx, rfl, rfl, rfl, ⟨hlo, hhi⟩, hinv, hl⟩ := hrel
      clear HL2
      obtain ⟨wo, rfl⟩ : ∃ wo : World, wo = wr := ⟨_, rfl⟩
      by_cases hlt : x < len
      · have hkb : decide ((x : Int) < (len : Int)) = true := by simp; omega
        have hxz : (x : Int) < (len : Int) := by omega
        obtain ⟨hv, q0, q1⟩ := hinv.out
        have h6 := (HS.out.below hl.out.below)
        have hwf := h6.2.2.2.1
        rcases h6.2.2.2.2.2 with h6 | ⟨b, off, rfl, hbl, hcs⟩
        · omega
        have g0 := hcs x hlt
        have hgm : l.getD x 0 ∈ l := by
          have hlen := HS.out.1
          rw [List.getD_eq_getElem?_getD, List.getElem?_eq_getElem (by omega)]
          exact List.getElem_mem _
        have hgb := bounds_u16 (hwf _ hgm)
        generalize l.getD x 0 = g at *
        obtain ⟨hg0, hg1⟩ := hgb
        have HC := hid hcs
        have hL := hl.out.facts
        simp only [liveAt, cellsAt, and_true, Nat.zero_add, Nat.reduceAdd, World.size_alloc] at hL
        obtain ⟨⟨b0, b1⟩, ⟨b2, b3⟩, b4, b5, b6, b7⟩ := validG_iff.1 hv
        have cR := hid (fun w => ret_any f t m aa g 5 w)
        have hG : retG f t m aa g 5 = ((atAny f t m aa 0, g, 5, 0), 0) := by
          unfold retG; rw [if_pos ⟨hv, by unfold gainB; simp; omega, by omega, by omega⟩]
        have hA : atAny f t m aa 0 = atG f t m aa 0 := by unfold atAny; rw [if_pos ⟨hv, by omega⟩]
        rw [hG, hA] at cR
        simp only at cR
        clear hcs hgm hwf hG hA
        have hc0 : 0 ≤ atG f t m aa 0 ∧ atG f t m aa 0 ≤ 262144 := by
          have := between (f := f) (t := t) (n := m) (a := aa) (lo := 0) (hi := 262144) b4 b6 b7 b0 b1 b2 b3; exact this
        generalize atG f t m aa 0 = c at *
        go_upto_region 11 with (fail)
        generalize hl2 : (if g < lo then g else lo) = lo2 at *
        generalize hh2 : (if hi < g then g else hi) = hi2 at *
        have hr : 0 ≤ lo2 ∧ lo2 ≤ lo ∧ lo2 ≤ g ∧ hi ≤ hi2 ∧ g ≤ hi2 ∧ hi2 ≤ 65535 := by
          rw [← hl2, ← hh2]; split <;> split <;> omega
        obtain ⟨r0, r1, r2, r3, r4, r5⟩ := hr
        have hvN : validG c g 5 0 = true := validG_iff.2 ⟨by omega, by omega, by omega, by omega, by omega, by omega⟩
        obtain ⟨a0, a1, a2⟩ := aft_bd hs7
        have hvM : validG c g 5 (aftG 0 5 s) = true := validG_iff.2 ⟨by omega, by omega, by omega, by omega, by omega, by omega⟩
        have cA := hid (fun w => at_any c g 5 (aftG 0 5 s) 0 (by omega) w)
        rw [show atAny c g 5 (aftG 0 5 s) 0 = atG c g 5 (aftG 0 5 s) 0 by unfold atAny; rw [if_pos ⟨hvM, by omega⟩]] at cA
        obtain ⟨n0, n1⟩ := between (f := c) (t := g) (n := 5) (a := aftG 0 5 s) (lo := lo2) (hi := hi2) (by omega) a0 a1 (by omega) (by omega) (by omega) (by omega)
        have n2 : 5 ≤ s → atG c g 5 (aftG 0 5 s) 0 = g := fun h => by rw [a2 h]; unfold atG; simp
        have HN := hid (show validG c g 5 (aftG 0 5 s) = true ∧ lo2 ≤ atG c g 5 (aftG 0 5 s) 0 ∧ atG c g 5 (aftG 0 5 s) 0 ≤ hi2 from ⟨hvM, n0, n1⟩)
        clear hl2 hh2 hinv hv b0 b1 b2 b3 b4 b5 b6 b7 q0 q1 hc0 hvM a0 a1 a2 r1 r2 r3 r4
        go_wp2_with fail
        (with_reducible refine (cR.out _).mono ?_); rintro e w4 ⟨rfl, hb⟩; have hbr := (hl.out.kept hb).lt; have K1 := hid (Lv.alloc (vs := [.int .i64 c, .int .i64 g, .int .i64 5, .int .i64 0]) (T := 31) (hl.out.kept hb)); clear hb cR hL hl
        go_upto_region 14 with (fail)
        generalize w4.alloc (.cells #[.int .i64 c, .int .i64 g, .int .i64 5, .int .i64 0] 31) = W5 at *
        generalize w4.heap.size = BN at *
        have hmk : ∀ w : World, (Instr.makeSlice 25 (.int .u8 (s : Int)) (.int .u8 (s : Int))).run Try.prog w = .ok (.slice (some ⟨w.heap.size, 0, none⟩) s s) (w.alloc (.cells (Array.replicate s (Value.int .i32 0)) 21)) := by
          intro w
          obtain ⟨i, h2, h3, h4, h5⟩ := info_parts (P := Try.prog) (e := 21) (z := .int .i32 0) (size := 1) (bytes := 4) (by kernel_rfl)
          have h := run_make (P := Try.prog) w 25 21 i (.int .i32 0) Try.underlying25 h2 h3 .u8 .u8 (s : Int) (s : Int) (by omega) (by omega) (by rw [h5]; omega) (by omega)
          have e : madeCells (Value.int .i32 0).cells s = Array.replicate s (Value.int .i32 0) := by
            apply Array.ext'
            exact (toList_madeCells_one (Value.int .i32 0) s).trans (by simp)
          simp only [Int.toNat_natCast, h4, Nat.mul_one] at h
          rw [e] at h
          exact h
        have hqn := K1.out
        have hqA : Lv w (W5.alloc (Obj.cells (Array.replicate s (Value.int .i32 0)) 21)).drew [(BN, [.int .i64 c, .int .i64 g, .int .i64 5, .int .i64 0], 31), (BR, [.int .i64 f, .int .i64 t, .int .i64 m, .int .i64 aa], 31)] := by
          have h := (Lv.alloc (vs := List.replicate s (Value.int .i32 0)) (T := 21) hqn).drew.drop
          rw [List.toArray_replicate] at h
          exact h
        have hSl := sl_zeros (W := W5) hs7
        have hz0 : ∀ k, k < s → sampleB ((List.replicate s (0 : Int)).getD k 0) = true := fun k hk => by
          have e : (List.replicate s (0 : Int)).getD k 0 = 0 := by simp [List.getD_eq_getElem?_getD, hk]
          rw [e]; decide
        have cRun := hid (run1_any c g 5 0 _ W5.heap.size 0 s s (List.replicate s 0) hvN hSl (by omega) hz0)
        have hc0n := cells4g hqn
        have hc0 := cells4g hqn.drew
        have hne : BR ≠ BN := by omega
        clear hSl hz0
        go_region_held3 (fun w' => w'.cell? ⟨BN, 0, none⟩ = some (.int .i64 c) ∧ w'.cell? ⟨BN, 1, none⟩ = some (.int .i64 g) ∧ w'.cell? ⟨BN, 2, none⟩ = some (.int .i64 5) ∧ w'.cell? ⟨BN, 3, none⟩ = some (.int .i64 0)) (first | (with_reducible assumption) | (with_reducible exact k4d hc0n) | (with_reducible exact cells4g (by assumption)) | (with_reducible exact set4r (cells4g (by assumption)) (by assumption)) | go_keep) (first
          | (go_at_call 31; (with_reducible refine cRun.out.mono ?_); rintro e w9 ⟨⟨gg, rfl⟩, hb⟩; have hq := Lv.kept hqA hb; have hL := hq.facts; simp only [liveAt, cellsAt, and_true, Nat.zero_add, Nat.reduceAdd] at hL; clear hb))
        have hD := Lv.drop2 (Lv.set4 (x0 := c) (x1 := g) (x2 := 5) (x3 := aftG 0 5 s) hq.swap (by simp; omega) hz)
        clear hq hqn hqA hc0 hc0n hmk cRun
        go_upto_region 15 with (fail)
        clear hL
        generalize (((w9.setCell ⟨BR, 0, none⟩ (.int .i64 c)).setCell ⟨BR, 1, none⟩ (.int .i64 g)).setCell ⟨BR, 2, none⟩ (.int .i64 5)).setCell ⟨BR, 3, none⟩ (.int .i64 (aftG 0 5 s)) = W7 at *
        generalize aftG 0 5 s = af at *
        have K2 := hid hD
        have hL := hD.facts
        simp only [liveAt, cellsAt, and_true, Nat.zero_add, Nat.reduceAdd, World.size_alloc] at hL
        clear hD
        go_wp2_with fail
        (with_reducible refine (cA.out _).mono ?_); rintro e w10 ⟨rfl, hb⟩; have K3 := hid (K2.out.kept hb); clear hb K2 hL cA
        have HN2 := hid n2
        clear n2
        generalize hnow : atG c g 5 af 0 = now at *
        have e1 : decide (now < lo2) = false := decide_eq_false (by omega)
        have e2 : decide (hi2 < now) = false := decide_eq_false (by omega)
        by_cases h5 : 5 ≤ s
        · have hng := HN2.out h5
          subst hng
          have e3 : decide ((5 : Int) ≤ (s : Int)) = true := decide_eq_true (by omega)
          have e4 : decide (5 ≤ s) = true := decide_eq_true h5
          have e5 : (now != now) = false := by simp
          go_wp2_with fail
          go_roundw
          case rel => first | exact ⟨x + 1, lo2, hi2, c, now, 5, af, by omega, by go_num, rfl, rfl, ⟨by omega, by omega⟩, hid (by rw [hnow]; exact HN.out), K3⟩ | ((repeat apply Exists.intro); exact ⟨⟨x + 1, lo2, hi2, c, now, 5, af, by omega, by go_num, rfl, rfl, ⟨by omega, by omega⟩, hid (by rw [hnow]; exact HN.out), K3⟩, rfl⟩)
          case measure => simp [intOf] <;> omega
        · have e3 : decide ((5 : Int) ≤ (s : Int)) = false := decide_eq_false (by omega)
          have e4 : decide (5 ≤ s) = false := decide_eq_false h5
          go_wp2_with fail
          go_roundw
          case rel => first | exact ⟨x + 1, lo2, hi2, c, g, 5, af, by omega, by go_num, rfl, rfl, ⟨by omega, by omega⟩, hid (by rw [hnow]; exact HN.out), K3⟩ | ((repeat apply Exists.intro); exact ⟨⟨x + 1, lo2, hi2, c, g, 5, af, by omega, by go_num, rfl, rfl, ⟨by omega, by omega⟩, hid (by rw [hnow]; exact HN.out), K3⟩, rfl⟩)
          case measure => simp [intOf] <;> omega
      · have hkb : decide ((x : Int) < (len : Int)) = false := by simp; omega
        go_wp2_with fail
        go_ret
        exact ⟨rfl, hl.out.below⟩
end Go.Proofs.Ytndppaldjfggbaa
