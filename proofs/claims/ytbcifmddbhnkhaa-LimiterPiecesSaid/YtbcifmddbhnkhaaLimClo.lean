/- The limiting of one frame. No statement is proved here. -/
import Derived.Test.YtbcifmddbhnkhaaLimSat
import Derived.Great.Walk
import Derived.Deep.RegionHeld3
namespace Go.Proofs.Ytbcifmddbhnkhaa
open Go.ChangeShapes Go.WideShapes Go.ChangeAt Go.RowKit
set_option linter.unusedVariables false
set_option linter.unusedSimpArgs false

theorem enter_sat : ∀ (ar : Array Value) (w : World), (callFunc 27 ar).run Try.prog w = .ok (.enter 27 ar) w := by
  intro ar w
  kernel_rfl
theorem append_room {P : Program} (sT e : TypeId) (hu : P.underlying sT = some (.slice e)) (hi : (P.info? e).map (·.size) = some 1) (w : World) (G T k n c : Nat) (z : Value) (hc : w.cell? ⟨T, 0, none⟩ = some z) (hk : k < n) {vs : List Value} {E : TypeId} (hG : w.heap[G]? = some (.cells vs.toArray E (0, 0))) (hn : vs.length = n) (h1 : z.oneCell' = true) :
    (Builtin.append_ #[sT, sT] sT #[.slice (some ⟨G, 0, none⟩) k n, .slice (some ⟨T, 0, none⟩) 1 c]).run P w = .ok (.slice (some ⟨G, 0, none⟩) (k + 1) n) (w.setCell ⟨G, k, none⟩ z) := by
  obtain ⟨i, hi1, hi2⟩ := Option.map_eq_some_iff.1 hi
  have hb : Blk w G vs E := hG
  have h := run_append_room_cells (P := P) w sT sT e i hu hi1 G 0 k n ⟨T, 0, none⟩ 1 c [z] (by simp [hi2]) (by
    intro j u hj
    match j, hj with
    | 0, hj => simp at hj; subst hj; exact hc) (by simpa using h1) (by omega) (by
    intro j hj
    have : j = 0 := by simpa using hj
    subst this
    rw [hb.cell (0 + k * i.size + 0) (List.getElem?_eq_getElem (by rw [hi2]; omega))]; rfl) (by
    intro j hj
    exact hb.frozen _)
  rw [hi2] at h
  simpa [World.setCells] using h
theorem app_state {W w : World} {G O B n x : Nat} {outs Fr : List Int} {N s : Int} {TG TO TB : TypeId} {vO vB : List Value} {LL : List (Nat × List Value × TypeId)}
    (h : Lv W w ((G, rowV n (outs ++ (Fr.take x).map (outL N)), TG) :: (O, vO, TO) :: (B, vB, TB) :: LL)) (hW : W.heap.size ≤ G) (h1 : O ≠ G) (h2 : B ≠ G) (h3 : ∀ y ∈ LL, y.1 ≠ G) (hF : x < Fr.length ∧ Fr.getD x 0 = s) (hn : outs.length + x < n) :
    Lv W (w.setCell ⟨G, outs.length + x, none⟩ (.int .i32 (outL N s))) ((G, rowV n (outs ++ (Fr.take (x + 1)).map (outL N)), TG) :: (O, vO, TO) :: (B, vB, TB) :: LL) := by
  have h9 := h.upd G (outs.length + x) (.int .i32 (outL N s)) hW
  have hl : (outs ++ (Fr.take x).map (outL N)).length = outs.length + x := by simp; omega
  have e1 : (rowV n (outs ++ (Fr.take x).map (outL N))).set (outs.length + x) (.int .i32 (outL N s)) = rowV n (outs ++ (Fr.take (x + 1)).map (outL N)) := by
    have := rowV_set (n := n) (o := outs ++ (Fr.take x).map (outL N)) (by omega) (outL N s)
    rw [hl] at this
    rw [this, take_snoc' Fr x hF.1, List.map_append, hF.2, List.map_cons, List.map_nil, List.append_assoc]
  rw [List.map_cons, List.map_cons, List.map_cons, updL_far h3] at h9
  simp only [updL, if_neg h1, if_neg h2, if_pos, e1] at h9
  exact h9
theorem store_state {W w : World} {G O B : Nat} {TG TO TB : TypeId} {vG vB : List Value} {u v : Value} {LL : List (Nat × List Value × TypeId)}
    (h : Lv W w ((G, vG, TG) :: (O, [u], TO) :: (B, vB, TB) :: LL)) (hW : W.heap.size ≤ O) (h1 : G ≠ O) (h2 : B ≠ O) (h3 : ∀ y ∈ LL, y.1 ≠ O) :
    Lv W (w.setCell ⟨O, 0, none⟩ v) ((G, vG, TG) :: (O, [v], TO) :: (B, vB, TB) :: LL) := by
  have h9 := h.upd O 0 v hW
  rw [List.map_cons, List.map_cons, List.map_cons, updL_far h3] at h9
  simp only [updL, if_neg h1, if_neg h2, if_pos, List.set_cons_zero] at h9
  exact h9
theorem gain_state {W w : World} {G O B : Nat} {TG TO TB : TypeId} {vG vO : List Value} {t r g v : Value} {LL : List (Nat × List Value × TypeId)}
    (h : Lv W w ((G, vG, TG) :: (O, vO, TO) :: (B, [t, r, g], TB) :: LL)) (hW : W.heap.size ≤ B) (h1 : G ≠ B) (h2 : O ≠ B) (h3 : ∀ y ∈ LL, y.1 ≠ B) :
    Lv W (w.setCell ⟨B, 2, none⟩ v) ((G, vG, TG) :: (O, vO, TO) :: (B, [t, r, v], TB) :: LL) := by
  have h9 := h.upd B 2 v hW
  rw [List.map_cons, List.map_cons, List.map_cons, updL_far h3] at h9
  simp only [updL, if_neg h1, if_neg h2, if_pos, List.set_cons_zero, List.set_cons_succ] at h9
  exact h9
set_option maxRecDepth 100000 in
set_option maxHeartbeats 8000000 in
theorem limit_any (W w : World) (a : Option Addr) (fl fcap : Nat) (Fr : List Int) (t r g : Int) (G O B n : Nat) (outs : List Int) (LL : List (Nat × List Value × TypeId))
    (ht : 1 ≤ t ∧ t ≤ 8388607) (hr : 1 ≤ r ∧ r ≤ 65536) (hg : 0 ≤ g ∧ g ≤ 65536) (hs : Sl .i64 W a fl fcap Fr) (hb : ∀ s ∈ Fr, -1099511627776 ≤ s ∧ s ≤ 1099511627776)
    (hl : Lv W w ((G, rowV n (outs), 21) :: (O, [.slice (some ⟨G, 0, none⟩) (outs.length) n], 34) :: (B, [.int .i64 t, .int .i64 r, .int .i64 (g)], 23) :: LL)) (hWG : W.heap.size ≤ G) (hWO : W.heap.size ≤ O) (hWB : W.heap.size ≤ B) (hGO : G ≠ O) (hGB : G ≠ B) (hOB : O ≠ B)
    (hLG : ∀ y ∈ LL, y.1 ≠ G) (hLO : ∀ y ∈ LL, y.1 ≠ O) (hLB : ∀ y ∈ LL, y.1 ≠ B) (hn : outs.length + fl ≤ n) (hn2 : n ≤ 1000000) :
    Calls Try.prog 25 #[.slice a fl fcap, .pointer (some ⟨B, 0, none⟩), .pointer (some ⟨O, 0, none⟩)] w fun e w' => e = .returned (.tuple #[]) ∧ Lv W w' ((G, rowV n (outs ++ Fr.map (outL (nxL t r g Fr))), 21) :: (O, [.slice (some ⟨G, 0, none⟩) (outs.length + fl) n], 34) :: (B, [.int .i64 t, .int .i64 r, .int .i64 (nxL t r g Fr)], 23) :: LL) := by
  have HS := hid hs
  have HB := hid hb
  have HL := hid hl
  have hz := hs.1
  have hm : fl ≤ 9223372036854775807 := by omega
  have hN := nxL_bd ht hr hg Fr hb
  have hpk := peakF_bd Fr 0 (by omega) (by omega) hb
  have hnd := needL_bd ht hpk.1 hpk.2.1
  have c1 := hid (fun (w : World) (h : Sl .i64 w a fl fcap Fr) => still_of (peakOf_any a fl fcap Fr w h hb))
  have c2 := hid (fun (w : World) => still_of (needed_any t (peakF 0 Fr) w))
  have u0 : IntKind.i64.wrap (g + r) = g + r := IntWalk.i64_in _ (by omega)
  have hX : nxL t r g Fr = min (needL t (peakF 0 Fr)) (g + r) := rfl
  obtain ⟨X, hXX⟩ : ∃ X, needL t (peakF 0 Fr) = X := ⟨_, rfl⟩
  obtain ⟨PK, hPK⟩ : ∃ PK, peakF 0 Fr = PK := ⟨_, rfl⟩
  rw [hXX] at c2 hX hnd
  rw [hPK] at c1 c2
  obtain ⟨N, hNN⟩ : ∃ N, nxL t r g Fr = N := ⟨_, rfl⟩
  rw [hNN] at hX hN ⊢
  obtain ⟨n0, n1, _⟩ := hN
  have HX := hid hX
  have HLG := hid hLG
  have HLO := hid hLO
  have HLB := hid hLB
  have hL := HL.out.facts
  simp only [liveAt, cellsAt, and_true, Nat.zero_add, Nat.reduceAdd] at hL
  obtain ⟨hLg, hLo, hLb, hLl⟩ := hL
  have hsw := HS.out.below HL.out.below
  have C1 := hid (c1.out w.drew hsw)
  have C2 := hid (c2.out w.drew)
  have HBd := hid hb
  clear hs hb hl hpk hnd hXX hPK hX hLG hLO hLB hLg hLl hsw c1 c2 HB
  go_enter Try.func25, Try.ntmps25
  go_upto_region 0 with (fail)
  refine wp_region_still_tail 12 (by kernel_rfl) (by kernel_rfl) ?_
  simp only [List.take_succ_cons, List.take_zero, List.drop_succ_cons, List.drop_zero]
  still_step
  still_step
  still_step
  still_call C1.out
  still_call C2.out
  repeat still_step
  refine wpStill_nil ?_
  change wpList _ _ _ _ _ w.drew
  have hd := HL.out.drew
  have hL := hd.facts
  simp only [liveAt, cellsAt, and_true, Nat.zero_add, Nat.reduceAdd] at hL
  obtain ⟨hLg, hLo, hLb, hLl⟩ := hL
  have HLD := hid hd
  clear hd hLg hLl C1 C2 HL
  generalize w.drew = w2 at *
  go_upto_region 1 with (fail)
  have hN3 : min X (g + r) = N := HX.out.symm
  rw [hN3]
  have hl3 := gain_state HLD.out hWB hGB hOB HLB.out (v := .int .i64 N)
  clear HLD hLo hLb hN3 HX u0
  generalize w2.setCell ⟨B, 2, none⟩ (.int .i64 N) = w3 at *
  have HL3 := hid hl3
  clear hl3
  go_wp2_with fail
  go_loopw [20] (fun v wr => ∃ x : Nat, x ≤ fl ∧ v = .int .i64 x ∧ Hid (Lv W wr ((G, rowV n (outs ++ (Fr.take x).map (outL N)), 21) :: (O, [.slice (some ⟨G, 0, none⟩) (outs.length + x) n], 34) :: (B, [.int .i64 t, .int .i64 r, .int .i64 (N)], 23) :: LL))) (fun v _ => fl - (intOf v).toNat)
  case atStart => exact ⟨0, by omega, rfl, by have h := HL3.out; simp only [List.take_zero, List.map_nil, List.append_nil, Nat.add_zero]; exact h⟩
  case round =>
    obtain ⟨x, hx, rfl, hl⟩ := hrel
    clear HL3
    by_cases hlt : x < fl
    · have hkb : decide ((x : Int) < (fl : Int)) = true := by simp; omega
      have hxz : (x : Int) < (fl : Int) := by omega
      have h6 := (HS.out.below hl.out.below).2.2.2.2.2
      rcases h6 with h6 | ⟨b', off', rfl, hbl, hc⟩
      · omega
      have g0 := hc x hlt
      have hmem : Fr.getD x 0 ∈ Fr := by rw [List.getD_eq_getElem?_getD, List.getElem?_eq_getElem (by omega)]; exact List.getElem_mem _
      obtain ⟨x0, x1⟩ := HBd.out _ hmem
      obtain ⟨s, hs1⟩ : ∃ s, Fr.getD x 0 = s := ⟨_, rfl⟩
      have hF1 := hid (show x < Fr.length ∧ Fr.getD x 0 = s from ⟨by omega, hs1⟩)
      rw [hs1] at g0 x0 x1
      clear hs1
      clear hmem hc
      go_upto_region 4 with (fail)
      · skip
        have q1 := Int.mul_le_mul_of_nonneg_left (show s ≤ 1099511627776 from x1) n0
        have q2 := Int.mul_le_mul_of_nonneg_left (show -1099511627776 ≤ s from x0) n0
        have q3 : -72057594037927936 ≤ s * N ∧ s * N ≤ 72057594037927936 := by rw [Int.mul_comm N s] at q1 q2; omega
        have q4 : (s * N).tdiv 65536 = (s * N).tdiv 65536 := rfl
        have q5 : -9223372036854775808 ≤ (s * N).tdiv 65536 ∧ (s * N).tdiv 65536 ≤ 9223372036854775807 := by
          rcases Int.le_total 0 (s * N) with h | h
          · rw [Int.tdiv_eq_ediv_of_nonneg h]; omega
          · rw [← Int.neg_neg (s * N), Int.neg_tdiv, Int.tdiv_eq_ediv_of_nonneg (show 0 ≤ -(s * N) by omega)]; omega
        have u1 : IntKind.i64.wrap (s * N) = s * N := IntWalk.i64_in _ (by omega)
        have u2 : IntKind.i64.wrap ((s * N).tdiv 65536) = (s * N).tdiv 65536 := IntWalk.i64_in _ q5
        have cs := hid (fun w => sat_any ((s * N).tdiv 65536) w q5)
        have hl0 := hl.out.drew
        clear g0 q1 q2 q3 q4
        refine wp_region_factsQ (ops := [_, _, _, _, _, _, _, _, _, _]) (fun _ => none) (phN [8, 9] (fun k w => match k with | 0 => Lv W w ((G, rowV n (outs ++ (Fr.take x).map (outL N)), 21) :: (O, [.slice (some ⟨G, 0, none⟩) (outs.length + x) n], 34) :: (B, [.int .i64 t, .int .i64 r, .int .i64 (N)], 23) :: LL)  | 1 => Lv W w ((G, rowV n (outs ++ (Fr.take (x + 1)).map (outL N)), 21) :: (O, [.slice (some ⟨G, 0, none⟩) (outs.length + x) n], 34) :: (B, [.int .i64 t, .int .i64 r, .int .i64 (N)], 23) :: LL)  | _ => Lv W w ((G, rowV n (outs ++ (Fr.take (x + 1)).map (outL N)), 21) :: (O, [.slice (some ⟨G, 0, none⟩) (outs.length + (x + 1)) n], 34) :: (B, [.int .i64 t, .int .i64 r, .int .i64 (N)], 23) :: LL))) (fun i v w => match i, v, w with | 0, v, w => v = .slice (some ⟨G, 0, none⟩) (outs.length + x) n | 1, v, w => v = .int .i64 s | 2, v, w => v = .pointer (some ⟨B, 2, none⟩) | 3, v, w => v = .int .i64 N | 4, v, w => v = .int .i64 (s * N) | 5, v, w => v = .int .i64 ((s * N).tdiv 65536) | 6, v, w => v = .int .i32 (outL N s) | 7, v, w => ∃ T : Nat, v = .slice (some ⟨T, 0, none⟩) 1 1 ∧ w.cell? ⟨T, 0, none⟩ = some (.int .i32 (outL N s)) ∧ T ≠ G ∧ T ≠ O | 8, v, w => v = .slice (some ⟨G, 0, none⟩) (outs.length + (x + 1)) n | 9, v, w => True | _, _, _ => True) (by kernel_rfl) (by kernel_rfl) (by kernel_rfl) (phN_put 0 (by simp) hl0) ?_ (by kernel_rfl) ?_ ?_
        · intro g b h; cases h
        · refine ⟨?_, ?_, ?_, ?_, ?_, ?_, ?_, ?_, ?_, ?_, trivial⟩
          · unfold StepGP; rw [if_pos (by kernel_rfl)]; intro a1 wx L hs hdf hfar hI hno hup hdeps K hK
            have ef2 : a1.eval (.tmp 2) = .pointer (some ⟨O, 0, none⟩) := far_eval (hfar 2 (by kernel_rfl)) rfl
            have x2 := tmp_eval ef2
            have HI2 := hid (phN_keep (i := 0) (by kernel_rfl) hI)
            have hk : ([8, 9] : List Nat).countP L = 0 := by simp [hno 8 (by kernel_rfl), hno 9 (by kernel_rfl)]
            have hS : Lv W wx ((G, rowV n (outs ++ (Fr.take x).map (outL N)), 21) :: (O, [.slice (some ⟨G, 0, none⟩) (outs.length + x) n], 34) :: (B, [.int .i64 t, .int .i64 r, .int .i64 (N)], 23) :: LL) := phN_get 0 hk hI
            have hL := hS.facts
            simp only [liveAt, cellsAt, and_true, Nat.zero_add, Nat.reduceAdd, List.set_cons_succ, List.set_cons_zero] at hL
            clear hS hk
            clear hdf hs hfar hdeps hI hno hup ef2
            have HK := hid hK; clear hK
            go_simp
            exact HK.out _ _ HI2.out (by first | rfl | (show _ = _; simp [*]; done) | (simp [*]; done)) (fun j _ _ u h => h)
          · unfold StepGP; rw [if_pos (by kernel_rfl)]; intro a1 wx L hs hdf hfar hI hno hup hdeps K hK
            have ef5 : a1.eval (.tmp 5) = .int .i64 s := far_eval (hfar 5 (by kernel_rfl)) rfl
            exact wp_move (.tmp 5) (.inl rfl) _ ef5 (hK _ _ (phN_keep (i := 1) (by kernel_rfl) hI) rfl (fun j _ _ u h => h))
          · unfold StepGP; rw [if_pos (by kernel_rfl)]; intro a1 wx L hs hdf hfar hI hno hup hdeps K hK
            have ef1 : a1.eval (.tmp 1) = .pointer (some ⟨B, 0, none⟩) := far_eval (hfar 1 (by kernel_rfl)) rfl
            have x1 := tmp_eval ef1
            have HI2 := hid (phN_keep (i := 2) (by kernel_rfl) hI)
            have hk : ([8, 9] : List Nat).countP L = 0 := by simp [hno 8 (by kernel_rfl), hno 9 (by kernel_rfl)]
            have hS : Lv W wx ((G, rowV n (outs ++ (Fr.take x).map (outL N)), 21) :: (O, [.slice (some ⟨G, 0, none⟩) (outs.length + x) n], 34) :: (B, [.int .i64 t, .int .i64 r, .int .i64 (N)], 23) :: LL) := phN_get 0 hk hI
            have hL := hS.facts
            simp only [liveAt, cellsAt, and_true, Nat.zero_add, Nat.reduceAdd, List.set_cons_succ, List.set_cons_zero] at hL
            clear hS hk
            clear hdf hs hfar hdeps hI hno hup ef1
            have HK := hid hK; clear hK
            go_simp
            exact HK.out _ _ HI2.out (by first | rfl | (show _ = _; simp [*]; done) | (simp [*]; done)) (fun j _ _ u h => h)
          · unfold StepGP; rw [if_pos (by kernel_rfl)]; intro a1 wx L hs hdf hfar hI hno hup hdeps K hK
            have e2 : (a1.eval (.tmp 26)) = .pointer (some ⟨B, 2, none⟩) := hdeps 2 (by kernel_rfl) (by kernel_rfl) _ rfl
            have x26 := tmp_eval e2
            have HI2 := hid (phN_keep (i := 3) (by kernel_rfl) hI)
            have hk : ([8, 9] : List Nat).countP L = 0 := by simp [hno 8 (by kernel_rfl), hno 9 (by kernel_rfl)]
            have hS : Lv W wx ((G, rowV n (outs ++ (Fr.take x).map (outL N)), 21) :: (O, [.slice (some ⟨G, 0, none⟩) (outs.length + x) n], 34) :: (B, [.int .i64 t, .int .i64 r, .int .i64 (N)], 23) :: LL) := phN_get 0 hk hI
            have hL := hS.facts
            simp only [liveAt, cellsAt, and_true, Nat.zero_add, Nat.reduceAdd, List.set_cons_succ, List.set_cons_zero] at hL
            clear hS hk
            clear hdf hs hfar hdeps hI hno hup e2
            have HK := hid hK; clear hK
            go_simp
            exact HK.out _ _ HI2.out (by first | rfl | (show _ = _; simp [*]; done) | (simp [*]; done)) (fun j _ _ u h => h)
          · unfold StepGP; rw [if_pos (by kernel_rfl)]; intro a1 wx L hs hdf hfar hI hno hup hdeps K hK
            have e1 : (a1.eval (.tmp 25)) = .int .i64 s := hdeps 1 (by kernel_rfl) (by kernel_rfl) _ rfl
            have e3 : (a1.eval (.tmp 27)) = .int .i64 N := hdeps 3 (by kernel_rfl) (by kernel_rfl) _ rfl
            have x25 := tmp_eval e1
            have x27 := tmp_eval e3
            have HI2 := hid (phN_keep (i := 4) (by kernel_rfl) hI)
            have hk : ([8, 9] : List Nat).countP L = 0 := by simp [hno 8 (by kernel_rfl), hno 9 (by kernel_rfl)]
            have hS : Lv W wx ((G, rowV n (outs ++ (Fr.take x).map (outL N)), 21) :: (O, [.slice (some ⟨G, 0, none⟩) (outs.length + x) n], 34) :: (B, [.int .i64 t, .int .i64 r, .int .i64 (N)], 23) :: LL) := phN_get 0 hk hI
            have hL := hS.facts
            simp only [liveAt, cellsAt, and_true, Nat.zero_add, Nat.reduceAdd, List.set_cons_succ, List.set_cons_zero] at hL
            clear hS hk
            clear hdf hs hfar hdeps hI hno hup e1 e3
            have HK := hid hK; clear hK
            go_simp
            exact HK.out _ _ HI2.out (by first | rfl | (show _ = _; simp [*]; done) | (simp [*]; done)) (fun j _ _ u h => h)
          · unfold StepGP; rw [if_pos (by kernel_rfl)]; intro a1 wx L hs hdf hfar hI hno hup hdeps K hK
            have e4 : (a1.eval (.tmp 28)) = .int .i64 (s * N) := hdeps 4 (by kernel_rfl) (by kernel_rfl) _ rfl
            have x28 := tmp_eval e4
            have HI2 := hid (phN_keep (i := 5) (by kernel_rfl) hI)
            have hk : ([8, 9] : List Nat).countP L = 0 := by simp [hno 8 (by kernel_rfl), hno 9 (by kernel_rfl)]
            have hS : Lv W wx ((G, rowV n (outs ++ (Fr.take x).map (outL N)), 21) :: (O, [.slice (some ⟨G, 0, none⟩) (outs.length + x) n], 34) :: (B, [.int .i64 t, .int .i64 r, .int .i64 (N)], 23) :: LL) := phN_get 0 hk hI
            have hL := hS.facts
            simp only [liveAt, cellsAt, and_true, Nat.zero_add, Nat.reduceAdd, List.set_cons_succ, List.set_cons_zero] at hL
            clear hS hk
            clear hdf hs hfar hdeps hI hno hup e4
            have HK := hid hK; clear hK
            go_simp
            exact HK.out _ _ HI2.out (by first | rfl | (show _ = _; simp [*]; done) | (simp [*]; done)) (fun j _ _ u h => h)
          · unfold StepGP; rw [if_pos (by kernel_rfl)]; intro a1 wx L hs hdf hfar hI hno hup hdeps K hK
            have e5 : (a1.eval (.tmp 29)) = .int .i64 ((s * N).tdiv 65536) := hdeps 5 (by kernel_rfl) (by kernel_rfl) _ rfl
            refine wp_fn 27 [.tmp 29] _ rfl [.int .i64 ((s * N).tdiv 65536)] (by simp only [List.map_cons, List.map_nil, e5]) enter_sat (cs.out wx) ?_
            rintro e wy ⟨rfl, rfl⟩
            exact ⟨_, rfl, hK _ _ (phN_keep (i := 6) (by kernel_rfl) hI) rfl (fun j _ _ u h => h)⟩
          · unfold StepGP; rw [if_pos (by kernel_rfl)]; intro a1 wx L hs hdf hfar hI hno hup hdeps K hK
            have e6 : (a1.eval (.tmp 30)) = .int .i32 (outL N s) := hdeps 6 (by kernel_rfl) (by kernel_rfl) _ rfl
            have x30 := tmp_eval e6
            have hk : ([8, 9] : List Nat).countP L = 0 := by simp [hno 8 (by kernel_rfl), hno 9 (by kernel_rfl)]
            have hS : Lv W wx ((G, rowV n (outs ++ (Fr.take x).map (outL N)), 21) :: (O, [.slice (some ⟨G, 0, none⟩) (outs.length + x) n], 34) :: (B, [.int .i64 t, .int .i64 r, .int .i64 (N)], 23) :: LL) := phN_get 0 hk hI
            have hT := hS.kept ((Below.refl wx.heap.size wx).alloc (Nat.le_refl _) (.cells #[.int .i32 (outL N s)] 21))
            have hG := hS.lt
            have hO := hS.drop.lt
            have HA := hid (phN_put (ws := [8, 9]) (A := fun k w => match k with | 0 => Lv W w ((G, rowV n (outs ++ (Fr.take x).map (outL N)), 21) :: (O, [.slice (some ⟨G, 0, none⟩) (outs.length + x) n], 34) :: (B, [.int .i64 t, .int .i64 r, .int .i64 (N)], 23) :: LL) | 1 => Lv W w ((G, rowV n (outs ++ (Fr.take (x + 1)).map (outL N)), 21) :: (O, [.slice (some ⟨G, 0, none⟩) (outs.length + x) n], 34) :: (B, [.int .i64 t, .int .i64 r, .int .i64 (N)], 23) :: LL) | _ => Lv W w ((G, rowV n (outs ++ (Fr.take (x + 1)).map (outL N)), 21) :: (O, [.slice (some ⟨G, 0, none⟩) (outs.length + (x + 1)) n], 34) :: (B, [.int .i64 t, .int .i64 r, .int .i64 (N)], 23) :: LL)) (L := fun j => if j = 7 then true else L j) 0 (by simp [hno 8 (by kernel_rfl), hno 9 (by kernel_rfl)]) hT)
            clear hdf hs hfar hdeps hI hno hup hT hS hk e6
            have HK := hid hK; clear hK
            go_simp
            refine HK.out _ _ HA.out ⟨wx.heap.size, rfl, by simp, by omega, by omega⟩ ?_
            intro j hj hl u hf
            revert hf
            match j with
            | 7 => exact absurd rfl hj
            | 0 => exact fun h => h
            | 1 => exact fun h => h
            | 2 => exact fun h => h
            | 3 => exact fun h => h
            | 4 => exact fun h => h
            | 5 => exact fun h => h
            | 6 => exact fun h => h
            | 8 => exact fun h => h
            | 9 => exact fun h => h
            | j + 10 => exact fun h => h
          · unfold StepGP; rw [if_pos (by kernel_rfl)]; intro a1 wx L hs hdf hfar hI hno hup hdeps K hK
            have e0 : a1.eval (.tmp 24) = .slice (some ⟨G, 0, none⟩) (outs.length + x) n := hdeps 0 (by kernel_rfl) (by kernel_rfl) _ rfl
            obtain ⟨T, e7, hc, hTG, hTO⟩ : ∃ T : Nat, a1.eval (.tmp 31) = .slice (some ⟨T, 0, none⟩) 1 1 ∧ wx.cell? ⟨T, 0, none⟩ = some (.int .i32 (outL N s)) ∧ T ≠ G ∧ T ≠ O := hdeps 7 (by kernel_rfl) (by kernel_rfl) _ rfl
            have hk : ([8, 9] : List Nat).countP L = 0 := by simp [hno 8 (by kernel_rfl), hno 9 (by kernel_rfl)]
            have hS : Lv W wx ((G, rowV n (outs ++ (Fr.take x).map (outL N)), 21) :: (O, [.slice (some ⟨G, 0, none⟩) (outs.length + x) n], 34) :: (B, [.int .i64 t, .int .i64 r, .int .i64 (N)], 23) :: LL) := phN_get 0 hk hI
            have hS2 := app_state hS hWG hGO.symm hGB.symm HLG.out hF1.out (by omega)
            have hr := append_room (P := Try.prog) 34 21 Try.underlying34 (by kernel_rfl) wx G T (outs.length + x) n 1 (.int .i32 (outL N s)) hc (by omega) hS.live.1 (rowV_len (by simp; omega)) rfl
            refine Lib.wp_append_run wx (.tmp 24) (.tmp 31) _ _ rfl _ _ e0 e7 _ _ hr (hK _ _ (phN_put 1 (by simp [hno 9 (by kernel_rfl)]) hS2) rfl ?_)
            intro j hj hl u hf
            revert hf
            match j with
            | 7 => exact fun ⟨T, h1, h2, h3, h4⟩ => ⟨T, h1, (World.cell?_setCell_far _ _ _ _ (Ne.symm h3)).trans h2, h3, h4⟩
            | 8 => exact absurd rfl hj
            | 0 => exact fun h => h
            | 1 => exact fun h => h
            | 2 => exact fun h => h
            | 3 => exact fun h => h
            | 4 => exact fun h => h
            | 5 => exact fun h => h
            | 6 => exact fun h => h
            | 9 => exact fun h => h
            | j + 10 => exact fun h => h
          · unfold StepGP; rw [if_pos (by kernel_rfl)]; intro a1 wx L hs hdf hfar hI hno hup hdeps K hK
            have ef2 : a1.eval (.tmp 2) = .pointer (some ⟨O, 0, none⟩) := far_eval (hfar 2 (by kernel_rfl)) rfl
            have e8 : (a1.eval (.tmp 32)) = .slice (some ⟨G, 0, none⟩) (outs.length + (x + 1)) n := hdeps 8 (by kernel_rfl) (by kernel_rfl) _ rfl
            have hk : ([8, 9] : List Nat).countP L = 1 := by simp [hup 8 (by kernel_rfl) (by kernel_rfl), hno 9 (by kernel_rfl)]
            have hS : Lv W wx ((G, rowV n (outs ++ (Fr.take (x + 1)).map (outL N)), 21) :: (O, [.slice (some ⟨G, 0, none⟩) (outs.length + x) n], 34) :: (B, [.int .i64 t, .int .i64 r, .int .i64 (N)], 23) :: LL) := phN_get 1 hk hI
            have hS2 := store_state hS hWO hGO hOB.symm HLO.out (v := .slice (some ⟨G, 0, none⟩) (outs.length + (x + 1)) n)
            have x2 := tmp_eval ef2
            have x32 := tmp_eval e8
            have hL := hS.drop.facts
            simp only [liveAt, cellsAt, and_true, Nat.zero_add, Nat.reduceAdd] at hL
            have HA := hid (phN_put (ws := [8, 9]) (A := fun k w => match k with | 0 => Lv W w ((G, rowV n (outs ++ (Fr.take x).map (outL N)), 21) :: (O, [.slice (some ⟨G, 0, none⟩) (outs.length + x) n], 34) :: (B, [.int .i64 t, .int .i64 r, .int .i64 (N)], 23) :: LL) | 1 => Lv W w ((G, rowV n (outs ++ (Fr.take (x + 1)).map (outL N)), 21) :: (O, [.slice (some ⟨G, 0, none⟩) (outs.length + x) n], 34) :: (B, [.int .i64 t, .int .i64 r, .int .i64 (N)], 23) :: LL) | _ => Lv W w ((G, rowV n (outs ++ (Fr.take (x + 1)).map (outL N)), 21) :: (O, [.slice (some ⟨G, 0, none⟩) (outs.length + (x + 1)) n], 34) :: (B, [.int .i64 t, .int .i64 r, .int .i64 (N)], 23) :: LL)) (L := fun j => if j = 9 then true else L j) 2 (by simp [hup 8 (by kernel_rfl) (by kernel_rfl)]) hS2)
            clear hdf hs hfar hdeps hI hno hup hS hk ef2 e8 hS2
            have HK := hid hK; clear hK
            go_simp
            refine HK.out undef _ HA.out trivial ?_
            intro j hj hl u hf
            revert hf
            match j with
            | 7 => exact fun ⟨T, h1, h2, h3, h4⟩ => ⟨T, h1, (World.cell?_setCell_far _ _ _ _ (Ne.symm h4)).trans h2, h3, h4⟩
            | 9 => exact absurd rfl hj
            | 0 => exact fun h => h
            | 1 => exact fun h => h
            | 2 => exact fun h => h
            | 3 => exact fun h => h
            | 4 => exact fun h => h
            | 5 => exact fun h => h
            | 6 => exact fun h => h
            | 8 => exact fun h => h
            | j + 10 => exact fun h => h
        · intro vs wx L hvs hall hI hF
          obtain ⟨v0, r0, rfl, h0r⟩ := list_open hvs
          obtain ⟨v1, r1, rfl, h1r⟩ := list_open h0r
          obtain ⟨v2, r2, rfl, h2r⟩ := list_open h1r
          obtain ⟨v3, r3, rfl, h3r⟩ := list_open h2r
          obtain ⟨v4, r4, rfl, h4r⟩ := list_open h3r
          obtain ⟨v5, r5, rfl, h5r⟩ := list_open h4r
          obtain ⟨v6, r6, rfl, h6r⟩ := list_open h5r
          obtain ⟨v7, r7, rfl, h7r⟩ := list_open h6r
          obtain ⟨v8, r8, rfl, h8r⟩ := list_open h7r
          obtain ⟨v9, r9, rfl, h9r⟩ := list_open h8r
          obtain rfl : r9 = [] := List.eq_nil_of_length_eq_zero h9r
          clear h0r h1r h2r h3r h4r h5r h6r h7r h8r
          have f0 : v0 = .slice (some ⟨G, 0, none⟩) (outs.length + x) n := hF 0 (Nat.le_of_ble_eq_true rfl)
          have f1 : v1 = .int .i64 s := hF 1 (Nat.le_of_ble_eq_true rfl)
          have f2 : v2 = .pointer (some ⟨B, 2, none⟩) := hF 2 (Nat.le_of_ble_eq_true rfl)
          have f3 : v3 = .int .i64 N := hF 3 (Nat.le_of_ble_eq_true rfl)
          have f4 : v4 = .int .i64 (s * N) := hF 4 (Nat.le_of_ble_eq_true rfl)
          have f5 : v5 = .int .i64 ((s * N).tdiv 65536) := hF 5 (Nat.le_of_ble_eq_true rfl)
          have f6 : v6 = .int .i32 (outL N s) := hF 6 (Nat.le_of_ble_eq_true rfl)
          have f7 : ∃ T : Nat, v7 = .slice (some ⟨T, 0, none⟩) 1 1 ∧ wx.cell? ⟨T, 0, none⟩ = some (.int .i32 (outL N s)) ∧ T ≠ G ∧ T ≠ O := hF 7 (Nat.le_of_ble_eq_true rfl)
          have f8 : v8 = .slice (some ⟨G, 0, none⟩) (outs.length + (x + 1)) n := hF 8 (Nat.le_of_ble_eq_true rfl)
          have hk : ([8, 9] : List Nat).countP L = 2 := by simp [hall 8 (Nat.le_of_ble_eq_true rfl), hall 9 (Nat.le_of_ble_eq_true rfl)]
          have hS : Lv W wx ((G, rowV n (outs ++ (Fr.take (x + 1)).map (outL N)), 21) :: (O, [.slice (some ⟨G, 0, none⟩) (outs.length + (x + 1)) n], 34) :: (B, [.int .i64 t, .int .i64 r, .int .i64 (N)], 23) :: LL) := phN_get 2 hk hI
          clear hk hI hF hall
          subst f0
          subst f1
          subst f2
          subst f3
          subst f4
          subst f5
          subst f6
          subst f8
          simp only [putVals, List.setIfInBounds_toArray, List.set_cons_zero, List.set_cons_succ]
          have HS9 := hid hS
          clear hS hl hl0 f7
          go_wp2_with fail
          go_roundw
          case rel => exact ⟨x + 1, by omega, by go_num, HS9⟩
          case measure => simp [intOf] <;> omega
    · obtain rfl : x = fl := by omega
      have hkb : decide ((x : Int) < (x : Int)) = false := by simp
      go_wp2_with fail
      refine Go.Great.bodyPost_end0 rfl rfl ?_
      exact ⟨rfl, by have h := hl.out; rw [← hz, List.take_length, hz] at h; exact h⟩
end Go.Proofs.Ytbcifmddbhnkhaa
