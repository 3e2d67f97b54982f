/- The law CostGrows returns true: the walk. -/
import Derived.Test.YtehnkeiejkhocaaCostLaws
namespace Go.Proofs.Ytehnkeiejkhocaa
open Go.ChangeShapes Go.WideShapes Go.ChangeAt Go.RowKit
set_option linter.unusedVariables false

theorem info_i64 : (Try.prog.info? 3).map (fun i => (i.zero, i.size, i.bytes)) = some (some (.int .i64 0), 1, 8) := by kernel_rfl

def sumC : List Int → Int
  | [] => 0
  | x :: l => capC x + sumC l
theorem sumC_append (l m : List Int) : sumC (l ++ m) = sumC l + sumC m := by
  induction l with
  | nil => simp [sumC]
  | cons x l ih => rw [List.cons_append, sumC, sumC, ih]; omega
theorem sumC_reverse (l : List Int) : sumC l.reverse = sumC l := by
  induction l with
  | nil => rfl
  | cons x l ih => rw [List.reverse_cons, sumC_append, ih, sumC, sumC, sumC]; omega
theorem total_from (l : List Int) : ∀ n : Int, 0 ≤ n → n ≤ 1099511627776 → l.foldl (fun n x => min (n + capC x) 1099511627776) n = min (n + sumC l) 1099511627776 ∧ 0 ≤ sumC l := by
  induction l with
  | nil => intro n h1 h2; simp only [List.foldl_nil, sumC]; omega
  | cons x l ih =>
    intro n h1 h2
    have hx := capC_bd x
    have h := ih (min (n + capC x) 1099511627776) (by omega) (by omega)
    rw [List.foldl_cons, h.1, sumC]
    omega
theorem total_sum (l : List Int) : totalV l = min (sumC l) 1099511627776 := by
  have h := total_from l 0 (by omega) (by omega)
  unfold totalV
  rw [h.1, Int.zero_add]
theorem total_reverse (l : List Int) : totalV l.reverse = totalV l := by rw [total_sum, total_sum, sumC_reverse]

theorem grows_stream {a b p : Int} (h1 : 1 ≤ a) (h2 : a ≤ 7) (h3 : 1 ≤ b) (h4 : b ≤ 7) (h5 : 16 ≤ p) (h6 : p ≤ 1015) :
    ∃ A X Y Z : Int, streamV a b p = (A, 0) ∧ streamV (a + 1) b p = (X, 0) ∧ streamV a (b + 1) p = (Y, 0) ∧ streamV a b (p + 1) = (Z, 0) ∧ 1 ≤ A ∧ A < X ∧ A < Y ∧ A < Z ∧ Z ≤ 1000000 := by
  have i1 : ∀ x, 1 ≤ x → x ≤ 8 → inB 1 8 x = true := fun x h k => inB_iff.2 ⟨h, k⟩
  have i2 : ∀ x, 16 ≤ x → x ≤ 8192 → inB 16 8192 x = true := fun x h k => inB_iff.2 ⟨h, k⟩
  refine ⟨_, _, _, _, streamV_ok (i1 a (by omega) (by omega)) (i1 b (by omega) (by omega)) (i2 p (by omega) (by omega)), streamV_ok (i1 _ (by omega) (by omega)) (i1 b (by omega) (by omega)) (i2 p (by omega) (by omega)),
    streamV_ok (i1 a (by omega) (by omega)) (i1 _ (by omega) (by omega)) (i2 p (by omega) (by omega)), streamV_ok (i1 a (by omega) (by omega)) (i1 b (by omega) (by omega)) (i2 _ (by omega) (by omega)), ?_⟩
  have e1 := prod_in (a := a) (p := b) (A := 7) (P := 7) (c := 49) (by omega) (by omega) (by omega) (by omega) (by omega)
  have e2 := prod_in (a := a) (p := p) (A := 7) (P := 1015) (c := 7105) (by omega) (by omega) (by omega) (by omega) (by omega)
  have e3 := prod_in (a := b) (p := p) (A := 7) (P := 1015) (c := 7105) (by omega) (by omega) (by omega) (by omega) (by omega)
  have e4 := prod_in (a := a) (p := b * p) (A := 7) (P := 7105) (c := 49735) (by omega) (by omega) (by omega) (by omega) (by omega)
  simp only [Int.add_mul, Int.mul_add, Int.mul_assoc, Int.one_mul, Int.mul_one]
  omega
theorem grows_device {a p : Int} (h1 : 1 ≤ a) (h2 : a ≤ 7) (h5 : 16 ≤ p) (h6 : p ≤ 1015) :
    ∃ B U V : Int, deviceV a p = (B, 0) ∧ deviceV (a + 1) p = (U, 0) ∧ deviceV a (p + 1) = (V, 0) ∧ 1 ≤ B ∧ B < U ∧ B < V := by
  have i1 : ∀ x, 1 ≤ x → x ≤ 8 → inB 1 8 x = true := fun x h k => inB_iff.2 ⟨h, k⟩
  have i2 : ∀ x, 16 ≤ x → x ≤ 8192 → inB 16 8192 x = true := fun x h k => inB_iff.2 ⟨h, k⟩
  have d : ∀ x y, inB 1 8 x = true → inB 16 8192 y = true → deviceV x y = (400 + 8 * x * y, 0) := fun x y h k => by unfold deviceV; rw [h, k]; rfl
  refine ⟨_, _, _, d _ _ (i1 a (by omega) (by omega)) (i2 p (by omega) (by omega)), d _ _ (i1 _ (by omega) (by omega)) (i2 p (by omega) (by omega)), d _ _ (i1 a (by omega) (by omega)) (i2 _ (by omega) (by omega)), ?_⟩
  have e2 := prod_in (a := a) (p := p) (A := 7) (P := 1015) (c := 7105) (by omega) (by omega) (by omega) (by omega) (by omega)
  simp only [Int.add_mul, Int.mul_add, Int.mul_assoc, Int.mul_one]
  omega
theorem grows_share {c k : Int} (h1 : 0 ≤ c) (h2 : c ≤ 100000) (h3 : 1 ≤ k) (h4 : k ≤ 100000) : (shareV c k ≤ 100 ∧ c ≤ k) ∨ (100 < shareV c k ∧ k < c) := by
  unfold shareV
  rw [if_pos (by rw [Bool.and_eq_true, inB_iff, inB_iff]; omega)]
  by_cases h : c ≤ k
  · left
    refine ⟨?_, h⟩
    have : (c * 100 + k - 1) / k < 101 := (Int.ediv_lt_iff_lt_mul (by omega)).2 (by omega)
    omega
  · right
    refine ⟨?_, by omega⟩
    have : 101 ≤ (c * 100 + k - 1) / k := (Int.le_ediv_iff_mul_le (by omega)).2 (by omega)
    omega

set_option maxRecDepth 100000 in
set_option maxHeartbeats 8000000 in
theorem costGrows_walk (a0 b0 p0 : Int) (ad : Option Addr) (len cap : Nat) (l : List Int) (c0 k0 : Int) (w : World) (hs : Sl .i64 w ad len cap l) :
    Calls Try.prog 5 #[.int .i64 a0, .int .i64 b0, .int .i64 p0, .slice ad len cap, .int .i64 c0, .int .i64 k0] w fun e w' => e = .returned (.bool true) ∧ Below w.heap.size w w' := by
  have hm : Hid (len ≤ 9223372036854775807) := by have h1 := hs.2.1; have h2 := hs.2.2.1; unfold maxLen at h2; show _ ≤ _; omega
  by_cases hlen : len ≤ 100
  · have hd : ¬ (100 < (len : Int)) := by omega
    have ma := hid (fun w => mod_any a0 7 (by omega) (by omega) w)
    have mb := hid (fun w => mod_any b0 7 (by omega) (by omega) w)
    have mp := hid (fun w => mod_any p0 1000 (by omega) (by omega) w)
    have mc := hid (fun w => mod_any c0 100000 (by omega) (by omega) w)
    have mk := hid (fun w => mod_any k0 100000 (by omega) (by omega) w)
    have a1 := Int.emod_nonneg a0 (show (7 : Int) ≠ 0 by omega)
    have a2 := Int.emod_lt_of_pos a0 (show (0 : Int) < 7 by omega)
    have b1 := Int.emod_nonneg b0 (show (7 : Int) ≠ 0 by omega)
    have b2 := Int.emod_lt_of_pos b0 (show (0 : Int) < 7 by omega)
    have p1 := Int.emod_nonneg p0 (show (1000 : Int) ≠ 0 by omega)
    have p2 := Int.emod_lt_of_pos p0 (show (0 : Int) < 1000 by omega)
    have c1 := Int.emod_nonneg c0 (show (100000 : Int) ≠ 0 by omega)
    have c2 := Int.emod_lt_of_pos c0 (show (0 : Int) < 100000 by omega)
    have k1 := Int.emod_nonneg k0 (show (100000 : Int) ≠ 0 by omega)
    have k2 := Int.emod_lt_of_pos k0 (show (0 : Int) < 100000 by omega)
    obtain ⟨a, ha⟩ : ∃ x, a0 % 7 = x := ⟨_, rfl⟩
    obtain ⟨b, hb⟩ : ∃ x, b0 % 7 = x := ⟨_, rfl⟩
    obtain ⟨p, hp⟩ : ∃ x, p0 % 1000 = x := ⟨_, rfl⟩
    obtain ⟨c, hc⟩ : ∃ x, c0 % 100000 = x := ⟨_, rfl⟩
    obtain ⟨k, hk⟩ : ∃ x, k0 % 100000 = x := ⟨_, rfl⟩
    rw [ha] at ma a1 a2
    rw [hb] at mb b1 b2
    rw [hp] at mp p1 p2
    rw [hc] at mc c1 c2
    rw [hk] at mk k1 k2
    clear ha hb hp hc hk
    obtain ⟨A, X, Y, Z, hA, hX, hY, hZ, q1, q2, q3, q4, q5⟩ := grows_stream (a := 1 + a) (b := 1 + b) (p := 16 + p) (by omega) (by omega) (by omega) (by omega) (by omega) (by omega)
    obtain ⟨B, U, V, hB, hU, hV, q6, q7, q8⟩ := grows_device (a := 1 + a) (p := 16 + p) (by omega) (by omega) (by omega) (by omega)
    have sA := hid (fun w => stream_any (1 + a) (1 + b) (16 + p) w)
    have sX := hid (fun w => stream_any (1 + a + 1) (1 + b) (16 + p) w)
    have sY := hid (fun w => stream_any (1 + a) (1 + b + 1) (16 + p) w)
    have sZ := hid (fun w => stream_any (1 + a) (1 + b) (16 + p + 1) w)
    have dB := hid (fun w => device_any (1 + a) (16 + p) w)
    have dU := hid (fun w => device_any (1 + a + 1) (16 + p) w)
    have dV := hid (fun w => device_any (1 + a) (16 + p + 1) w)
    rw [hA] at sA
    rw [hX] at sX
    rw [hY] at sY
    rw [hZ] at sZ
    rw [hB] at dB
    rw [hU] at dU
    rw [hV] at dV
    have sh := hid (fun w => share_any c (1 + k) w)
    have hg := grows_share (c := c) (k := 1 + k) (by omega) (by omega) (by omega) (by omega)
    obtain ⟨S, hS⟩ : ∃ S, shareV c (1 + k) = S := ⟨_, rfl⟩
    rw [hS] at sh hg
    obtain ⟨T, hT⟩ : ∃ T, totalV l = T := ⟨_, rfl⟩
    have ct : Hid (∀ w1, Below w.heap.size w w1 → Calls Try.prog 12 #[.slice ad len cap] w1 fun e w' => e = .returned (.int .i64 T) ∧ w1 = w') := fun w1 hb => by rw [← hT]; exact total_any ad len cap l w1 (hs.below hb)
    have cr : Hid (∀ w1 v, Made w.heap.size .i64 w1 v l.reverse → Calls Try.prog 12 #[v] w1 fun e w' => e = .returned (.int .i64 T) ∧ w1 = w') := fun w1 v hv => by
      obtain ⟨x, y, rfl, h, _⟩ := hv
      have := total_any x _ y l.reverse w1 h
      rw [total_reverse, hT] at this; exact this
    have HS := hid hs
    have HZ := hid hs.1
    have HW := hid hs.2.2.2.1
    clear hA hX hY hZ hB hU hV hS hT hs
    go_enter Try.func5, Try.ntmps5
    go_wp2_with (first
      | (go_at_call 6; refine (sane_any w).mono ?_; rintro e w1 ⟨rfl, hb⟩; have HB := hid hb; clear hb)
      | (go_at_call 7; ((with_reducible refine (ma.out _).mono ?_); rintro e w2 ⟨rfl, rfl⟩))
      | (go_at_call 7; ((with_reducible refine (mb.out _).mono ?_); rintro e w2 ⟨rfl, rfl⟩))
      | (go_at_call 7; ((with_reducible refine (mp.out _).mono ?_); rintro e w2 ⟨rfl, rfl⟩))
      | (go_at_call 8; ((with_reducible refine (sA.out _).mono ?_); rintro e w2 ⟨rfl, hb⟩; have HB := hid (HB.out.trans (hb.mono HB.out.size)); clear hb))
      | (go_at_call 8; ((with_reducible refine (sX.out _).mono ?_); rintro e w2 ⟨rfl, hb⟩; have HB := hid (HB.out.trans (hb.mono HB.out.size)); clear hb))
      | (go_at_call 8; ((with_reducible refine (sY.out _).mono ?_); rintro e w2 ⟨rfl, hb⟩; have HB := hid (HB.out.trans (hb.mono HB.out.size)); clear hb))
      | (go_at_call 8; ((with_reducible refine (sZ.out _).mono ?_); rintro e w2 ⟨rfl, hb⟩; have HB := hid (HB.out.trans (hb.mono HB.out.size)); clear hb))
      | (go_at_call 10; ((with_reducible refine (dB.out _).mono ?_); rintro e w2 ⟨rfl, hb⟩; have HB := hid (HB.out.trans (hb.mono HB.out.size)); clear hb))
      | (go_at_call 10; ((with_reducible refine (dU.out _).mono ?_); rintro e w2 ⟨rfl, hb⟩; have HB := hid (HB.out.trans (hb.mono HB.out.size)); clear hb))
      | (go_at_call 10; ((with_reducible refine (dV.out _).mono ?_); rintro e w2 ⟨rfl, hb⟩; have HB := hid (HB.out.trans (hb.mono HB.out.size)); clear hb)))
    have HB9 := HB
    clear HB
    go_loopw [27, 127] (fun v i wr => ∃ j : Nat, j ≤ len ∧ i = .int .i64 j ∧ Hid (wr.ownsRow w.heap.size 3 1 v j ((l.reverse.take j).map (Value.int .i64))) ∧ Hid (Below w.heap.size w wr)) (fun _ i _ => len - (intOf i).toNat)
    case atStart => exact ⟨0, Nat.zero_le _, rfl, by rw [List.take_zero]; exact World.ownsRow_nil _ _ _ _, HB9⟩
    case round =>
      obtain ⟨j, hj, rfl, hown, hbel⟩ := hrel
      by_cases hlt : j < len
      · rcases (HS.out.below hbel.out).2.2.2.2.2 with h | ⟨bb, off, hae, hbb, hcell⟩
        · omega
        subst hae
        obtain ⟨x, hx, hxx⟩ := row_at hcell (len - 1 - j) (by omega)
        have hst : Hid ((l.reverse.take (j + 1)).map (Value.int .i64) = (l.reverse.take j).map (Value.int .i64) ++ [.int .i64 x]) := by
          have e := take_snoc' l.reverse j (by have := HZ.out; simp; omega)
          have e2 : l.reverse.getD j 0 = x := by
            rw [← hxx.out, List.getD_eq_getElem?_getD, List.getD_eq_getElem?_getD, List.getElem?_reverse (by have := HZ.out; omega), HZ.out]
          show _ = _
          rw [e, e2, List.map_append]; rfl
        have hi0 : (0 : Int) ≤ (len : Int) - 1 - (j : Int) := by omega
        have hi1 : (len : Int) - 1 - (j : Int) < (len : Int) := by omega
        have hi2 : ((len : Int) - 1 - (j : Int)).toNat = len - 1 - j := by omega
        clear hcell hxx
        go_wp2_with (at_builtin; refine wpList_append_1 wr rfl (.tmp 130) (.tmp 139) 31 rfl .i64 3 (.int .i64 0) 8 Try.underlying31 info_i64 rfl w.heap.size _ j _ hown.out rfl x rfl (by unfold maxLen; omega) (by omega) hbel.out.size ?_)
        intro v3 w3 hown3 hgr3
        have hb3 : Hid (Below w.heap.size w w3) := (hbel.out.alloc hbel.out.size _).grown hgr3.out (by have := hbel.out.size; simp; omega) (fun k' hk' => (hown.out.lt k' hk').1)
        clear hgr3 hown hbel
        go_wp2
        go_roundw
        case rel => exact ⟨j + 1, by omega, by go_num, by rw [hst.out]; simpa [Hid] using hown3, hb3⟩
        case measure => simp [intOf]; omega
      · have HM := hid (made_of_own (l := l.reverse) (by rw [List.take_of_length_le (by have := HZ.out; simp; omega)]) (fun n hn => HW.out n (by simpa using hn)) (by have := HZ.out; simp; omega) hown.out)
        rcases hg with ⟨g1, g2⟩ | ⟨g1, g2⟩
        all_goals
          go_wp2_with (first
            | (go_at_call 7; ((with_reducible refine (mc.out _).mono ?_); rintro e w2 ⟨rfl, rfl⟩))
            | (go_at_call 7; ((with_reducible refine (mk.out _).mono ?_); rintro e w2 ⟨rfl, rfl⟩))
            | (go_at_call 12; ((with_reducible refine (ct.out _ hbel.out).mono ?_); rintro e w2 ⟨rfl, rfl⟩))
            | (go_at_call 12; ((with_reducible refine (cr.out _ _ HM.out).mono ?_); rintro e w2 ⟨rfl, rfl⟩))
            | (go_at_call 14; ((with_reducible refine (sh.out _).mono ?_); rintro e w9 ⟨rfl, hb⟩; have HB8 := hid (hbel.out.trans (hb.mono hbel.out.size)); clear hb)))
          go_ret
          exact ⟨ret_bool (by first | rfl | (simp; done) | (simp; omega)), HB8.out⟩
  · have hd : 100 < (len : Int) := by omega
    clear hs
    go_enter Try.func5, Try.ntmps5
    go_wp2_with (go_at_call 6; refine (sane_any w).mono ?_; rintro e w1 ⟨rfl, hb⟩; have HB := hid hb; clear hb)
    go_ret
    exact ⟨rfl, HB.out⟩
end Go.Proofs.Ytehnkeiejkhocaa
