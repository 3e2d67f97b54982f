/- What the conducts of the law are made of: no statement is proved here. -/
import Derived.Test.YtnfkcfogmficfaaClientLaws
import Derived.Test.YtnfkcfogmficfaaDeck
import Derived.Deep.RegionWith
import Derived.Deep.DrawnRows
import Derived.Deep.MidRow
namespace Go.Proofs.Ytnfkcfogmficfaa
open Go.ChangeShapes Go.WideShapes Go.ChangeAt Go.RowKit
set_option linter.unusedVariables false
attribute [local go_sem ↓] Go.wp_at_zero Go.wp_at_succ

abbrev CB (p g t s : Int) (d : Bool) : Array Value := #[.int .i64 p, .int .i64 g, .int .i64 t, .int .i64 s, .bool d]
/-- block c holds a conduct -/
def CBox (w : World) (c : Nat) (p g t s : Int) (d : Bool) : Prop := Box w c (CB p g t s d) 82
theorem CBox.facts {w : World} {c : Nat} {p g t s : Int} {d : Bool} (h : CBox w c p g t s d) :
    w.cell? ⟨c, 0, none⟩ = some (.int .i64 p) ∧ w.cell? ⟨c, 1, none⟩ = some (.int .i64 g) ∧ w.cell? ⟨c, 2, none⟩ = some (.int .i64 t) ∧ w.cell? ⟨c, 3, none⟩ = some (.int .i64 s) ∧ w.cell? ⟨c, 4, none⟩ = some (.bool d) ∧
    w.frozen? ⟨c, 0, none⟩ = false ∧ w.frozen? ⟨c, 1, none⟩ = false ∧ w.frozen? ⟨c, 2, none⟩ = false ∧ w.frozen? ⟨c, 3, none⟩ = false ∧ w.frozen? ⟨c, 4, none⟩ = false :=
  ⟨h.cell 0 rfl, h.cell 1 rfl, h.cell 2 rfl, h.cell 3 rfl, h.cell 4 rfl, h.frozen 0, h.frozen 1, h.frozen 2, h.frozen 3, h.frozen 4⟩
def cset (w : World) (c : Nat) (p g t s : Int) (d : Bool) : World := w.setCells c 0 [.int .i64 p, .int .i64 g, .int .i64 t, .int .i64 s, .bool d]
theorem CBox.there {w : World} {c : Nat} {p g t s : Int} {d : Bool} (h : CBox w c p g t s d) : w.there c 0 5 := by
  intro j hj
  rw [Nat.zero_add]
  obtain ⟨v, hv⟩ : ∃ v, (CB p g t s d)[j]? = some v := ⟨(CB p g t s d)[j]'hj, Array.getElem?_eq_getElem hj⟩
  exact ⟨by rw [h.cell j hv]; rfl, h.frozen j⟩
theorem CBox.set {w : World} {c : Nat} {p g t s : Int} {d : Bool} (h : CBox w c p g t s d) (p' g' t' s' : Int) (d' : Bool) : CBox (cset w c p' g' t' s' d') c p' g' t' s' d' :=
  Box.set (Box.set (Box.set (Box.set (Box.set h 0 (.int .i64 p')) 1 (.int .i64 g')) 2 (.int .i64 t')) 3 (.int .i64 s')) 4 (.bool d')
theorem cset_far {w : World} {c b : Nat} {p g t s : Int} {d : Bool} {vs : Array Value} {T : TypeId} (h : Box w b vs T) (hb : b ≠ c) : Box (cset w c p g t s d) b vs T :=
  ((((h.set_far 0 _ hb).set_far 1 _ hb).set_far 2 _ hb).set_far 3 _ hb).set_far 4 _ hb
theorem cset_deck {w : World} {c D : Nat} {p g t s : Int} {d : Bool} (h : Deck w D) (hb : D < c) : Deck (cset w c p g t s d) D := ((((h.set hb).set hb).set hb).set hb).set hb
theorem cset_below {B : Nat} {W w : World} {c : Nat} {p g t s : Int} {d : Bool} (h : Below B W w) (hb : B ≤ c) : Below B W (cset w c p g t s d) := ((((h.setCell hb _).setCell hb _).setCell hb _).setCell hb _).setCell hb _
/-- where the making stands: the deck, the conduct, the result's place -/
structure CSt (W w : World) (D C R : Nat) (p g t s : Int) (d : Bool) : Prop where
  deck : Deck w D
  con : CBox w C p g t s d
  res : CBox w R 0 0 0 0 false
  below : Below W.heap.size W w
  lo : W.heap.size ≤ D ∧ W.heap.size ≤ R ∧ R < D ∧ D < C
theorem CSt.size {W w : World} {D C R : Nat} {p g t s : Int} {d : Bool} (h : CSt W w D C R p g t s d) : W.heap.size ≤ w.heap.size := h.below.size
theorem CSt.next {W w w' : World} {D C R : Nat} {p g t s : Int} {d : Bool} (h : CSt W w D C R p g t s d) (hk : Deck w' D) (hb : But D w w') : CSt W w' D C R p g t s d :=
  ⟨hk, h.con.but hb (by have := h.lo; omega), h.res.but hb (by have := h.lo; omega), step_below h.below hb h.lo.1 h.below.size, h.lo⟩
theorem CSt.kept {W w w' : World} {D C R : Nat} {p g t s : Int} {d : Bool} (h : CSt W w D C R p g t s d) (hb : Below w.heap.size w w') : CSt W w' D C R p g t s d :=
  ⟨h.deck.kept hb, h.con.kept hb, h.res.kept hb, h.below.trans (hb.mono h.below.size), h.lo⟩
theorem CSt.drew {W w : World} {D C R : Nat} {p g t s : Int} {d : Bool} (h : CSt W w D C R p g t s d) : CSt W w.drew D C R p g t s d := h.kept ((Below.refl _ _).drew)
theorem CSt.set {W w : World} {D C R : Nat} {p g t s : Int} {d : Bool} (h : CSt W w D C R p g t s d) (p' g' t' s' : Int) (d' : Bool) : CSt W (cset w C p' g' t' s' d') D C R p' g' t' s' d' :=
  ⟨cset_deck h.deck h.lo.2.2.2, h.con.set p' g' t' s' d', cset_far h.res (by have := h.lo; omega), cset_below h.below (by have := h.lo; omega), h.lo⟩

set_option maxHeartbeats 4000000 in
theorem made36_any (a : Option Addr) (len cap : Nat) (l : List Int) (w : World) (hs : Sl .i64 w a len cap l) :
    Calls Try.prog 46 #[.slice a len cap] w fun e w' => (∃ p g t s d, e = .returned (.agg #[.int .i64 p, .int .i64 g, .int .i64 t, .int .i64 s, .bool d])) ∧ Below w.heap.size w w' := by
  have HS := hid hs
  clear hs
  have HR := hid (show CBox (w.alloc (.cells (CB 0 0 0 0 false) 82)) w.heap.size 0 0 0 0 false from Box.alloc_new _ _ _)
  go_enter Try.func46, Try.ntmps46
  go_wp2_with (first
    | (go_at_call 23; (with_reducible refine (new_any a len cap l _ (HS.out.below (by go_grown))).mono ?_); rintro e w1 ⟨rfl, hk, hb⟩; have HK := hid (show Deck w1 (w.heap.size + 1) from ⟨_, by simpa using hk⟩); have HR1 := hid (HR.out.kept hb); have HB := hid (show Below w.heap.size w w1 from ((Below.refl _ _).alloc (Nat.le_refl _) _).trans (hb.mono (by simp))); clear hk hb)
    | (go_at_call 63; (with_reducible refine (next_some (w.heap.size + 1) 4 (by omega) (by omega) w1 HK.out).mono ?_); rintro e w2 ⟨⟨x, rfl, hx0, hx1⟩, hk, hb⟩; have HK2 := hid hk; have HR2 := hid (HR1.out.but hb (by omega)); have HB2 := hid (step_below HB.out hb (by omega) HB.out.size); clear hk hb)
    | (go_at_call 58; (with_reducible refine (rnew_any x w2).mono ?_); rintro e w3 ⟨rfl, hb⟩; have H3 := hid (show CSt w (w3.alloc (.cells (CB (cnew x).1 0 0 0 false) 82)) (w.heap.size + 1) w3.heap.size w.heap.size (cnew x).1 0 0 0 false from by
        have hb2 : Below w2.heap.size w2 (w3.alloc (.cells (CB (cnew x).1 0 0 0 false) 82)) := hb.alloc hb.size _
        exact ⟨HK2.out.kept hb2, Box.alloc_new _ _ _, HR2.out.kept hb2, HB2.out.trans (hb2.mono HB2.out.size), by omega, Nat.le_refl _, by omega, by have := HK2.out.lt; have := hb.size; omega⟩); clear hb)
    | (go_at_call 63; (with_reducible refine (next_some (w.heap.size + 1) 10 (by omega) (by omega) _ H3.out.deck).mono ?_); rintro e w4 ⟨⟨kk, rfl, hk0, hk1⟩, hk, hb⟩; have H4 := hid (H3.out.next hk hb); clear hk hb))
  have hkk : kk = ((kk.toNat : Nat) : Int) := by omega
  obtain ⟨k0, hk0'⟩ : ∃ k0, kk.toNat = k0 := ⟨_, rfl⟩
  rw [hk0'] at hkk
  subst hkk
  clear HR HR1 HR2 HK HK2 HB HB2 H3
  generalize w3.heap.size = C at *
  go_loopw [6] (fun k wr => ∃ (j : Nat) (p g t s : Int) (d : Bool), j ≤ 9 ∧ k = .int .i64 j ∧ Hid (CSt w wr (w.heap.size + 1) C w.heap.size p g t s d)) (fun k _ => (intOf k).toNat)
  case atStart => exact ⟨k0, _, _, _, _, _, by omega, rfl, H4⟩
  case round =>
    obtain ⟨j, p, g, t, s, d, hj, rfl, hst⟩ := hrel
    clear H4
    by_cases hlt : 0 < j
    · go_wp2_with (go_at_call 63; (with_reducible refine (next_some (w.heap.size + 1) 2 (by omega) (by omega) _ hst.out.deck).mono ?_); rintro e w5 ⟨⟨x2, rfl, x20, x21⟩, hk, hb⟩; have H5 := hid (hst.out.next hk hb); obtain ⟨c0, c1, c2, c3, c4, z0, z1, z2, z3, z4⟩ := H5.out.con.facts; clear hk hb)
      · go_region_with (first
          | (go_at_call 63; (with_reducible refine (next_some (w.heap.size + 1) 100 (by omega) (by omega) _ H5.out.drew.deck).mono ?_); rintro e w6 ⟨⟨x3, rfl, x30, x31⟩, hk, hb⟩; have H6 := hid (H5.out.drew.next hk hb); obtain ⟨c0, c1, c2, c3, c4, z0, z1, z2, z3, z4⟩ := H6.out.con.facts; clear hk hb)
          | (go_at_call 54; (with_reducible refine (rwrote_any p g t s x3 d _ (by omega) (by omega)).mono ?_); rintro e w9 ⟨rfl, hb⟩; have H7 := hid (H6.out.kept hb); obtain ⟨c0, c1, c2, c3, c4, z0, z1, z2, z3, z4⟩ := H7.out.con.facts; clear hb))
        all_goals (go_wp2; go_roundw)
        all_goals first
          | exact ⟨j - 1, _, _, _, _, _, by omega, by go_num, H7.out.set _ _ _ _ _⟩
          | (simp [intOf]; omega)
      · go_region_with (first
          | (go_at_call 63; (with_reducible refine (next_some (w.heap.size + 1) 80 (by omega) (by omega) _ H5.out.drew.deck).mono ?_); rintro e w6 ⟨⟨x3, rfl, x30, x31⟩, hk, hb⟩; have H6 := hid (H5.out.drew.next hk hb); obtain ⟨c0, c1, c2, c3, c4, z0, z1, z2, z3, z4⟩ := H6.out.con.facts; clear hk hb)
          | (go_at_call 56; (with_reducible refine (rtick_any p g t s x3 d _ (by omega) (by omega)).mono ?_); rintro e w9 ⟨rfl, hb⟩; have H7 := hid (H6.out.kept hb); obtain ⟨c0, c1, c2, c3, c4, z0, z1, z2, z3, z4⟩ := H7.out.con.facts; clear hb))
        all_goals (go_wp2; go_roundw)
        all_goals first
          | exact ⟨j - 1, _, _, _, _, _, by omega, by go_num, H7.out.set _ _ _ _ _⟩
          | (simp [intOf]; omega)
    · have hlo := hst.out.lo.2.2.2
      have hl1 : C ≠ w.heap.size := by omega
      have hl2 : w.heap.size ≠ C := by omega
      clear HS hx0 hx1 hk0 hk1 hk0' hlo
      generalize hRR : w.heap.size = R at *
      go_wp2_with (first
        | (go_at_call 63; (with_reducible refine (next_some (R + 1) 6 (by omega) (by omega) _ hst.out.deck).mono ?_); rintro e w5 ⟨⟨x2, rfl, x20, x21⟩, hk, hb⟩; have H5 := hid (hst.out.next hk hb); obtain ⟨c0, c1, c2, c3, c4, z0, z1, z2, z3, z4⟩ := H5.out.con.facts; obtain ⟨d0, d1, d2, d3, d4, y0, y1, y2, y3, y4⟩ := (CBox.facts H5.out.res); clear hk hb))
      · refine (rdie_any p g t s d _).mono ?_
        rintro e w9 ⟨rfl, hb⟩
        have H7 := hid (H5.out.kept hb)
        clear hb
        simp only []
        apply_assumption
        refine wpList_store_mid (by rfl) _ _ _ (by rfl) C 0 (CB p g t s true) (by rfl) (by rfl) (CBox.there H7.out.con) (by kernel_rfl) (by simp [CB, Value.oneCell']) ?_
        have H8 := hid (H7.out.set p g t s true)
        obtain ⟨w10, hw10⟩ : ∃ w10, cset w9 C p g t s true = w10 := ⟨_, rfl⟩
        rw [hw10] at H8
        have hw10' : World.setCells w9 C 0 (CB p g t s true).toList = w10 := hw10
        rw [hw10']
        clear hw10 hw10' H5
        obtain ⟨c0, c1, c2, c3, c4, z0, z1, z2, z3, z4⟩ := H8.out.con.facts
        obtain ⟨d0, d1, d2, d3, d4, y0, y1, y2, y3, y4⟩ := CBox.facts H8.out.res
        have hb10 := H8.out.below
        go_wp2
        refine bodyPost_ret (by simp [results, Try.results46, go_sem, *]; try rfl) rfl ?_
        exact ⟨⟨_, _, _, _, _, rfl⟩, by go_grown⟩
      · have hb5 := H5.out.below
        refine bodyPost_ret (by simp [results, Try.results46, go_sem, *]; try rfl) rfl ?_
        exact ⟨⟨_, _, _, _, _, rfl⟩, by go_grown⟩
end Go.Proofs.Ytnfkcfogmficfaa
