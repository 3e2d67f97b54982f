/- RingOrder: the walk. -/
import Derived.Test.YtlelnhapcfjhfaaRSane
namespace Go.Proofs.Ytlelnhapcfjhfaa
open Go.ChangeShapes Go.WideShapes Go.ChangeAt Go.RowKit
set_option linter.unusedVariables false
set_option linter.unusedSimpArgs false

set_option maxRecDepth 100000 in
set_option maxHeartbeats 16000000 in
theorem ringOrder_walk (a0 : Option Addr) (len cap0 : Nat) (l : List Int) (ca : Int) (w : World) (hs : Sl .u8 w a0 len cap0 l) (hca : 0 ≤ ca ∧ ca ≤ 255) :
    Calls Try.prog 4 #[.slice a0 len cap0, .int .u8 ca] w fun e w' => e = .returned (.bool true) ∧ Below w.heap.size w w' := by
  have HSW := hid hs
  obtain ⟨ca0, ca1⟩ := hca
  clear hs
  have cc : ∃ cap : Nat, (cap : Int) = 1 + ca % 20 ∧ 1 ≤ cap ∧ cap ≤ 20 := ⟨(1 + ca % 20).toNat, by omega, by omega, by omega⟩
  obtain ⟨cap, hcap, hc1, hc20⟩ := cc
  go_enter Try.func4, Try.ntmps4
  go_wp2_with fail
  (with_reducible refine (sane_any _).mono ?_); rintro e w1 ⟨rfl, hb⟩; have H1 := hid ((Lx.start w).kept hb); clear hb
  by_cases hlen : 40 < len
  · have d0 : decide ((40 : Int) < (len : Int)) = true := by simp; omega
    go_wp2_with fail
    go_ret
    exact ⟨rfl, H1.out.below⟩
  have d0 : decide ((40 : Int) < (len : Int)) = false := by simp; omega
  go_wp2_with fail
  rw [← hcap]
  have HC := hid hcap
  clear hcap
  (with_reducible refine (ord_new cap ⟨hc1, hc20⟩ _).mono ?_); rintro e w2 ⟨rfl, hb⟩
  have H2 := hid ((H1.out.kept hb).alloc (vs := [.int .i64 1, .int .i64 (cap : Int), .int .i64 0, .int .i64 0, .slice none 0 0]) (T := 24))
  clear hb
  go_upto_region 6 with (fail)
  generalize w2.alloc (.cells #[.int .i64 1, .int .i64 (cap : Int), .int .i64 0, .int .i64 0, .slice none 0 0] 24) = W2 at *
  generalize w2.heap.size = B at *
  have HS2 := hid (H2.out.slN HSW.out)
  clear H1
  go_wp2_with fail
  go_loopw [7, 8, 41] (fun v7 v8 v41 wr => ∃ (i o f x c : Nat) (a : Option Addr), v7 = .int .i64 i ∧ v8 = .int .i64 o ∧ v41 = .int .i64 x ∧ i = o + f ∧ f ≤ cap ∧ i ≤ 15 * x ∧ x ≤ len ∧ Hid (Lx w wr none [(B, [.int .i64 1, .int .i64 (cap : Int), .int .i64 (i : Int), .int .i64 (o : Int), .slice a f c], 24)]) ∧ Hid (Sf .i32 wr a f c (frm o f) [B]) ∧ Hid (Sl .u8 wr a0 len cap0 l)) (fun _ _ v _ => len - (intOf v).toNat)
  case atStart => exact ⟨0, 0, 0, 0, 0, none, rfl, rfl, rfl, rfl, by omega, by omega, by omega, H2, hid ⟨sl_nil _ _, fun ad h => (by cases h)⟩, HS2⟩
  case round =>
    clear H2 HS2
    obtain ⟨i, o, f, x, c, a, rfl, rfl, rfl, hi, hf, hix, hx, HL, HF, HS⟩ := hrel
    by_cases hlt : x < len
    · have hkb : decide ((x : Int) < (len : Int)) = true := by simp; omega
      have hkz : (x : Int) < (len : Int) := by omega
      rcases HS.out.2.2.2.2.2 with h6 | ⟨b5, off5, rfl, hbl, hcs⟩
      · omega
      have g0 := hcs x hlt
      have hy := byte_getD (byte_of_wf HS.out.2.2.2.1) x
      generalize l.getD x 0 = y at *
      clear hcs
      have cn : ∃ n : Nat, y / 2 % 16 = (n : Int) ∧ n ≤ 15 := ⟨(y / 2 % 16).toNat, by omega, by omega⟩
      obtain ⟨n, hn, hn15⟩ := cn
      have HI := hid hi
      clear hi
      go_upto_region 13 with (fail)
      simp only [hn]
      clear hn
      rcases (show y % 2 = 0 ∨ y % 2 = 1 by omega) with hp | hp
      · go_upto_region 15 with (fail)
        have HA := hid ((Lx.start wr).alloc (vs := [.int .i64 1, .slice none 0 0]) (T := 26))
        generalize wr.alloc (.cells #[.int .i64 1, .slice none 0 0] 26) = W3 at *
        generalize wr.heap.size = B2 at *
        clear hp
        go_wp2_with fail
        go_loopw [13] (fun v wi => ∃ (k : Nat) (V : Value), v = .int .i64 k ∧ k ≤ n ∧ Hid (La wr wi none [(B2, [.int .i64 1, V], 26)] 21 1 V k ((frm i k).map (Value.int .i32)))) (fun v _ => n - (intOf v).toNat)
        case atStart => exact ⟨0, _, rfl, by omega, hid (La.nil HA.out)⟩
        case round =>
          clear HA
          obtain ⟨k, V, rfl, hk, HA⟩ := hrel
          by_cases hkn : k < n
          · have hkb2 : decide ((k : Int) < (n : Int)) = true := by simp; omega
            have hkz2 : (k : Int) < (n : Int) := by omega
            have HSM := hid (frm_smp i (k + 1) (by have := HI.out; omega))
            have hL := HA.out.lx.facts
            simp only [liveAt, cellsAt, and_true, Nat.zero_add, Nat.reduceAdd] at hL
            go_wp2_with (first | (refine wpList_append_la1 rfl _ _ _ rfl .i32 21 (.int .i32 0) 4 Try.underlying22 (by kernel_rfl) rfl _ _ _ HA.out rfl ((i : Int) + (k : Int) + 1) rfl (by unfold maxLen; omega) (by omega) ?_; intro v' w' h4; clear hL; have h5 := h4.out; rw [show (frm i k).map (Value.int .i32) ++ [Value.int .i32 ((i : Int) + (k : Int) + 1)] = (frm i (k + 1)).map (Value.int .i32) by rw [frm_snoc, List.map_append]; rfl] at h5; clear h4; obtain ⟨a6, c6, rfl, _⟩ := h5.sl HSM.out.wf; have h6 := hid h5; clear h5; have hL := h6.out.lx.facts; simp only [liveAt, cellsAt, and_true, Nat.zero_add, Nat.reduceAdd] at hL))
            go_roundw
            case rel => exact ⟨k + 1, _, by go_num, by omega, hid (la_box h6.out)⟩
            case measure => simp [intOf] <;> omega
          · have hkb2 : decide ((k : Int) < (n : Int)) = false := by simp; omega
            obtain rfl : k = n := by omega
            have hi := HI.out
            obtain ⟨p, cb, rfl, hsl, _⟩ := HA.out.sl (frm_smp i k (by omega)).wf
            have HX := hid HA.out.lx
            have HP := hid hsl
            have HW := hid (HF.out.1.below HX.out.below)
            have hL := HX.out.facts
            have hL2 := (HL.out.kept HX.out.below).facts
            simp only [liveAt, cellsAt, and_true, Nat.zero_add, Nat.reduceAdd] at hL hL2
            have hB2 := (HL.out.kept HX.out.below)
            clear hsl HA
            obtain ⟨q, hq⟩ : ∃ q, q = min k (cap - f) := ⟨_, rfl⟩
            have cw := hid (fun (w' : World) (hs : Sl .i32 w' a f c (frm o f)) (hp : Sl .i32 w' p k cb (frm i k)) => ord_write cap i o f k q cb c a p w' ⟨hc1, hc20⟩ hi (by omega) hf hn15 hs hp hq)
            clear hi
            have HQ := hid hq
            clear hq
            go_wp2_with fail
            (with_reducible refine (cw.out _ HW.out HP.out).mono ?_); rintro e w4 ⟨G, i', lost, hi', hlost, rfl, hB, hG, hb⟩
            have HI2 := hid hi'
            have HL2 := hid hlost
            clear hi' hlost
            have H4 := hid (((HL.out.kept HX.out.below).keptNew hb hB hG).alloc (vs := [.int .i64 1, .int .i64 (cap : Int), .int .i64 i', .int .i64 (o : Int), .slice (some ⟨G, 0, none⟩) (f + q) (f + q)]) (T := 24))
            clear hL hL2 hB2
            go_upto_region 20 with (fail)
            generalize w4.alloc (.cells #[.int .i64 1, .int .i64 (cap : Int), .int .i64 i', .int .i64 (o : Int), .slice (some ⟨G, 0, none⟩) (f + q) (f + q)] 24) = W4 at *
            generalize w4.heap.size = B4 at *
            have hL := H4.out.facts
            simp only [liveAt, cellsAt, and_true, Nat.zero_add, Nat.reduceAdd, World.size_alloc] at hL
            have hq0 := HQ.out
            have hi' := HI2.out
            have hlost := HL2.out
            have z1 : decide (lost < 0) = false := decide_eq_false (by omega)
            have z2 : decide ((k : Int) < lost) = false := decide_eq_false (by omega)
            have z3 : (i : Int) + (k : Int) - lost = i' := by omega
            have bi : 0 ≤ i' ∧ i' ≤ 1000 := by have := HI.out; omega
            have bl : 0 ≤ lost ∧ lost ≤ 15 := by omega
            obtain ⟨bi0, bi1⟩ := bi
            obtain ⟨bl0, bl1⟩ := bl
            clear hi' hlost hq0
            have z4 : wrap64 i' = i' := by unfold wrap64; omega
            go_wp2_with fail
            go_roundw
            case rel =>
              have e7 : i' = ((i + q : Nat) : Int) := HI2.out.trans (Int.natCast_add i q).symm
              subst e7
              obtain ⟨r1, r2, r3, r4, r5, r6⟩ := ord_arith i o f q k cap x len HI.out hf hix hn15 HQ.out hlt (Nat.le_of_not_lt hlen)
              have H5 := H4.out.set5 2 (.int .i64 1) (.int .i64 (cap : Int)) (.int .i64 ((i + q : Nat) : Int)) (.int .i64 (o : Int)) (.slice (some ⟨G, 0, none⟩) (f + q) (f + q)) rfl
              simp only [List.set_cons_zero, List.set_cons_succ] at H5
              have H6 := H5.sub (List.Sublist.cons _ (List.Sublist.cons _ (List.Sublist.refl _)))
              have hGB := H5.ne 1 2 rfl rfl (by decide)
              exact ⟨i + q, o, f + q, x + 1, f + q, some ⟨G, 0, none⟩, rfl, rfl, by go_num, r1, r2, r3, r4, hid H6, hid ⟨sl_of_blk (H5.blk 1 rfl) (frm_smp o (f + q) r5).wf (f + q) (frm_len _ _) r6, far1 hGB⟩, hid (H6.slN HSW.out)⟩
            case measure => simp [intOf] <;> omega
      · have hi := HI.out
        obtain ⟨q, hq⟩ : ∃ q, q = min n f := ⟨_, rfl⟩
        have HQ := hid hq
        have cw := hid (ord_read cap i o f n q c a wr ⟨hc1, hc20⟩ hi (by omega) hf hn15 HF.out.1 hq)
        have hL := HL.out.facts
        simp only [liveAt, cellsAt, and_true, Nat.zero_add, Nat.reduceAdd] at hL
        clear hi hq
        go_wp2_with fail
        (with_reducible refine cw.out.mono ?_); rintro e w4 ⟨O, G, o', miss, ho', hmiss, rfl, hB, hB2, hO, hG, hOG, hb⟩
        have HO2 := hid ho'
        have HM2 := hid hmiss
        clear ho' hmiss hp hL
        have hGG := hB2.lt
        have HK0 := hid (((HL.out.kept hb).enter hB2 (Nat.le_trans HL.out.size hG) (fun d h => (by cases h)) (fun y hy => by have := HL.out.lt 0 rfl; simp at hy; subst hy; show B ≠ G; omega)).enter hB (Nat.le_trans HL.out.size hO) (fun d h => (by cases h)) (fun y hy => by have := HL.out.lt 0 rfl; simp at hy; rcases hy with rfl | rfl; exact Ne.symm hOG; show B ≠ O; omega))
        have H4 := hid ((HK0.out.alloc (vs := [.int .i64 1, .slice (some ⟨O, 0, none⟩) n n]) (T := 26)).alloc (vs := [.int .i64 1, .int .i64 (cap : Int), .int .i64 (i : Int), .int .i64 o', .slice (some ⟨G, 0, none⟩) (f - q) (f - q)]) (T := 24))
        simp only [World.size_alloc] at H4
        clear HK0 hb hB hB2 hO hG hOG hGG
        go_upto_region 24 with (fail)
        generalize (w4.alloc (.cells #[.int .i64 1, .slice (some ⟨O, 0, none⟩) n n] 26)).alloc (.cells #[.int .i64 1, .int .i64 (cap : Int), .int .i64 (i : Int), .int .i64 o', .slice (some ⟨G, 0, none⟩) (f - q) (f - q)] 24) = W4 at *
        generalize w4.heap.size + 1 = B5 at *
        generalize w4.heap.size = B4 at *
        have hL := H4.out.facts
        simp only [liveAt, cellsAt, and_true, Nat.zero_add, Nat.reduceAdd, World.size_alloc] at hL
        have hq0 := HQ.out
        have hi0 := HI.out
        have ho' := HO2.out
        have hmiss := HM2.out
        have z1 : decide (miss < 0) = false := decide_eq_false (by omega)
        have z2 : decide ((n : Int) < miss) = false := decide_eq_false (by omega)
        have z3 : (i : Int) - (o : Int) = (f : Int) := by omega
        have z5 : max 0 ((n : Int) - (f : Int)) = miss := by omega
        have z6 : (o : Int) + (n : Int) - miss = o' := by omega
        have z7 : (n : Int) - miss = (q : Int) := by omega
        have bo : 0 ≤ o' ∧ o' ≤ 1000 := by omega
        have bm : 0 ≤ miss ∧ miss ≤ 15 := by omega
        obtain ⟨bo0, bo1⟩ := bo
        obtain ⟨bm0, bm1⟩ := bm
        clear hi0 ho' hmiss hq0
        go_upto_region 26 with (fail)
        clear hL z1 z2 z5
        have hL := H4.out.facts
        simp only [liveAt, cellsAt, and_true, Nat.zero_add, Nat.reduceAdd, World.size_alloc] at hL
        go_wp2_with fail
        go_loopw [131] (fun v wi => ∃ j : Nat, v = .int .i64 j ∧ j ≤ n ∧ wi = W4) (fun v _ => n - (intOf v).toNat)
        case atStart => exact ⟨0, rfl, by omega, rfl⟩
        case round =>
          obtain ⟨j, rfl, hj, rfl⟩ := hrel
          by_cases hjn : j < n
          · have hkb2 : decide ((j : Int) < (n : Int)) = true := by simp; omega
            have hkz2 : (j : Int) < (n : Int) := by omega
            have hcj := H4.out.cell 2 j rfl (by rw [List.getElem?_map, fro_get o q n j (by have := HQ.out; omega) hjn]; rfl)
            by_cases hjq : j < q
            · have hjd : decide ((q : Int) ≤ (j : Int)) = false := decide_eq_false (by omega)
              rw [if_pos hjq] at hcj
              have hcj2 : wr.cell? ⟨O, 0 + j, none⟩ = some (.int .i32 ((o : Int) + (j : Int) + 1)) := by rw [Nat.zero_add]; exact hcj
              go_wp2_with fail
              go_roundw
              case rel => exact ⟨j + 1, by go_num, by omega, trivial⟩
              case measure => simp [intOf] <;> omega
            · have hjd : decide ((q : Int) ≤ (j : Int)) = true := decide_eq_true (by omega)
              rw [if_neg hjq] at hcj
              have hcj2 : wr.cell? ⟨O, 0 + j, none⟩ = some (.int .i32 0) := by rw [Nat.zero_add]; exact hcj
              go_wp2_with fail
              go_roundw
              case rel => exact ⟨j + 1, by go_num, by omega, trivial⟩
              case measure => simp [intOf] <;> omega
          · have hkb2 : decide ((j : Int) < (n : Int)) = false := by simp; omega
            obtain rfl : j = n := by omega
            go_wp2_with fail
            go_roundw
            case rel =>
              have e7 : o' = ((o + q : Nat) : Int) := by have := HO2.out; omega
              subst e7
              have hq0 := HQ.out
              have hi0 := HI.out
              have H5 := H4.out.set5 4 (.int .i64 1) (.int .i64 (cap : Int)) (.int .i64 (i : Int)) (.int .i64 ((o + q : Nat) : Int)) (.slice (some ⟨G, 0, none⟩) (f - q) (f - q)) rfl
              simp only [List.set_cons_zero, List.set_cons_succ] at H5
              have H6 := H5.sub (List.Sublist.cons _ (List.Sublist.cons _ (List.Sublist.cons _ (List.Sublist.cons _ (List.Sublist.refl _)))))
              have hGB := H5.ne 3 4 rfl rfl (by decide)
              exact ⟨i, o + q, f - q, x + 1, f - q, some ⟨G, 0, none⟩, rfl, rfl, by go_num, by omega, by omega, by omega, by omega, hid H6, hid ⟨sl_of_blk (H5.blk 3 rfl) (frm_smp (o + q) (f - q) (by omega)).wf (f - q) (frm_len _ _) (by unfold maxLen; omega), fun ad h => (by cases h; simpa using hGB)⟩, hid (H6.slN HSW.out)⟩
            case measure => simp [intOf] <;> omega
    · have hkb : decide ((x : Int) < (len : Int)) = false := by simp; omega
      obtain rfl : x = len := by omega
      have cf := hid (fun (w' : World) (hb : Below wr.heap.size wr w') => ord_fill cap i o f c a w' ⟨hc1, hc20⟩ hi (by omega) hf (HF.out.1.below hb))
      have hr := hid (Below.refl wr.heap.size wr)
      have z3 : (i : Int) - (o : Int) = (f : Int) := by omega
      have z4 : decide ((f : Int) ≤ 1 + ca % 20) = true := decide_eq_true (by have := HC.out; omega)
      have z5 : decide ((f : Int) ≤ (cap : Int)) = true := decide_eq_true (by omega)
      have bi : (i : Int) ≤ 1000 := by omega
      have bo : (o : Int) ≤ 1000 := by omega
      have hL := HL.out.facts
      simp only [liveAt, cellsAt, and_true, Nat.zero_add, Nat.reduceAdd] at hL
      clear hi
      go_wp2_with (first | (go_at_call 23; (with_reducible refine (cf.out _ hr.out).mono ?_); rintro e w5 ⟨rfl, hb5⟩; have hL5 := (HL.out.kept hb5).facts; simp only [liveAt, cellsAt, and_true, Nat.zero_add, Nat.reduceAdd, World.size_alloc, List.map_cons, List.map_nil] at hL5))
      go_ret
      exact ⟨rfl, (HL.out.kept hb5).below⟩
end Go.Proofs.Ytlelnhapcfjhfaa
