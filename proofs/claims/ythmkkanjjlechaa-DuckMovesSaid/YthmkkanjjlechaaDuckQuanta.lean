/- After how many quanta an envelope has what is wanted: no statement is proved here. -/
import Derived.Test.YthmkkanjjlechaaDuckMade
import Derived.Deep.LoopGhost
import Derived.Deep.QuietTactic
import Derived.BigQuiet
namespace Go.Proofs.Ythmkkanjjlechaa
open Go.ChangeShapes Go.WideShapes Go.ChangeAt Go.RowKit
set_option linter.unusedVariables false
set_option linter.unusedSimpArgs false

theorem Lv.set {W w : World} {b i : Nat} {v : Value} {vs : List Value} {T : TypeId} {L : List (Nat × List Value × TypeId)} (h : Lv W w ((b, vs, T) :: L)) (hb : W.heap.size ≤ b) (hL : ∀ x ∈ L, x.1 ≠ b) : Lv W (w.setCell ⟨b, i, none⟩ v) ((b, vs.set i v, T) :: L) := by
  have hbk : ∀ k, k < w.heap.size → k ≠ b → (w.setCell ⟨b, i, none⟩ v).heap[k]? = w.heap[k]? := fun k _ hk => Below.heap_setCell _ _ _ _ hk
  refine ⟨h.below.setCell (by show W.heap.size ≤ b; omega) _, ?_, h.live.2.turn hbk hL⟩
  have := heap_setCell_same w b i vs.toArray T v h.live.1
  simpa using this
theorem Lv.swp {W w : World} {x y : Nat × List Value × TypeId} {L : List (Nat × List Value × TypeId)} (h : Lv W w (x :: y :: L)) : Lv W w (y :: x :: L) := ⟨h.below, h.live.2.1, h.live.1, h.live.2.2⟩

def stpV (d s : Int) : Int := (d + s - 1) / s
theorem steps_any (d s : Int) (hd : 0 ≤ d ∧ d ≤ 262144) (hs : 1 ≤ s ∧ s ≤ 262144) (w : World) :
    Calls Try.prog 69 #[.int .i64 d, .int .i64 s] w fun e w' => e = .returned (.int .i64 (stpV d s)) ∧ w = w' := by
  obtain ⟨d0, d1⟩ := hd
  obtain ⟨s0, s1⟩ := hs
  go_enter Try.func69, Try.ntmps69
  go_wp2
  go_ret
  exact ⟨rfl, rfl⟩
theorem stp_bd {d s : Int} (hd : 0 ≤ d) (hs : 1 ≤ s) : 0 ≤ stpV d s ∧ stpV d s ≤ d := by
  unfold stpV
  refine ⟨Int.ediv_nonneg (by omega) (by omega), ?_⟩
  have h : d + s - 1 ≤ d * s + (s - 1) := by
    have : d * 1 ≤ d * s := Int.mul_le_mul_of_nonneg_left (by omega) hd
    omega
  have : (d + s - 1) / s < d + 1 := Int.ediv_lt_of_lt_mul (by omega) (by rw [Int.add_mul]; omega)
  omega
theorem stp_zero {s : Int} (hs : 1 ≤ s) : stpV 0 s = 0 := by
  unfold stpV; rw [Int.ediv_eq_zero_of_lt (by omega) (by omega)]
theorem stp_more {d s : Int} (hd : s ≤ d) (hs : 1 ≤ s) : stpV d s = stpV (d - s) s + 1 := by
  unfold stpV
  rw [show d + s - 1 = (d - s + s - 1) + s * 1 by omega, Int.add_mul_ediv_left _ _ (by omega)]
theorem stp_last {d s : Int} (h0 : 0 < d) (hd : d ≤ s) : stpV d s = 1 := by
  unfold stpV
  rw [show d + s - 1 = (d - 1) + s * 1 by omega, Int.add_mul_ediv_left _ _ (by omega), Int.ediv_eq_zero_of_lt (by omega) (by omega)]; rfl
/-- how many quanta, for an envelope and a slope that are valid -/
def qgo (g q a r x : Int) : Int := if x < g then stpV (g - x) a else if g < x then q + stpV (x - g) r else 0
def quaV (g q a r h x : Int) : Int := if duV g q a r h = true ∧ 0 ≤ x ∧ x ≤ 262144 then qgo g q a r x else 0
theorem qgo_bd {g q a r h x : Int} (hv : duV g q a r h = true) (hx : 0 ≤ x ∧ x ≤ 262144) : 0 ≤ qgo g q a r x ∧ qgo g q a r x ≤ 266240 := by
  obtain ⟨⟨g1, g2⟩, ⟨h1, h2⟩, ⟨q1, q2⟩, ⟨a1, a2⟩, r1, r2⟩ := duV_true.1 hv
  unfold qgo
  split
  · have := stp_bd (d := g - x) (s := a) (by omega) (by omega); omega
  · split
    · have := stp_bd (d := x - g) (s := r) (by omega) (by omega); omega
    · omega
theorem qgo_zero {g q a r x : Int} (h : qgo g q a r x = 0) (hq : 0 ≤ q) (ha : 1 ≤ a) (hr : 1 ≤ r) : g = x := by
  unfold qgo at h
  split at h
  · rename_i hlt
    by_cases h1 : g - x ≤ a
    · rw [stp_last (by omega) h1] at h; omega
    · rw [stp_more (by omega) ha] at h
      have := stp_bd (d := g - x - a) (s := a) (by omega) ha; omega
  · split at h
    · rename_i hlt
      by_cases h1 : x - g ≤ r
      · rw [stp_last (by omega) h1] at h; omega
      · rw [stp_more (by omega) hr] at h
        have := stp_bd (d := x - g - r) (s := r) (by omega) hr; omega
    · omega
theorem qgo_self (q a r x : Int) : qgo x q a r x = 0 := by unfold qgo; rw [if_neg (by omega), if_neg (by omega)]
/-- a quantum more -/
theorem qgo_step {g q a r h x : Int} (hv : duV g q a r h = true) (hx : 0 ≤ x ∧ x ≤ 262144) (hne : g ≠ x) :
    qgo g q a r x = qgo (nexV g q a r h x).1 (nexV g q a r h x).2 a r x + 1 ∧ duV (nexV g q a r h x).1 (nexV g q a r h x).2 a r h = true := by
  obtain ⟨⟨g1, g2⟩, ⟨h1, h2⟩, ⟨q1, q2⟩, ⟨a1, a2⟩, r1, r2⟩ := duV_true.1 hv
  rw [duV_true]
  unfold nexV
  by_cases c1 : x < g
  · rw [if_pos c1]
    refine ⟨?_, ⟨⟨by simp only; omega, by simp only; omega⟩, ⟨h1, h2⟩, ⟨h1, by simp only; omega⟩, ⟨a1, a2⟩, r1, r2⟩⟩
    show qgo g q a r x = qgo (max x (g - a)) h a r x + 1
    by_cases c2 : g - x ≤ a
    · rw [show max x (g - a) = x by omega, qgo_self]
      unfold qgo; rw [if_pos c1, stp_last (by omega) c2]; rfl
    · rw [show max x (g - a) = g - a by omega]
      unfold qgo; rw [if_pos c1, if_pos (by omega), stp_more (by omega) a1, show g - x - a = g - a - x by omega]
  · rw [if_neg c1]
    by_cases c3 : g < x ∧ 0 < q
    · rw [if_pos c3]
      refine ⟨?_, ⟨⟨g1, g2⟩, ⟨h1, h2⟩, ⟨by simp only; omega, by simp only; omega⟩, ⟨a1, a2⟩, r1, r2⟩⟩
      show qgo g q a r x = qgo g (q - 1) a r x + 1
      unfold qgo; rw [if_neg c1, if_pos c3.1, if_neg c1, if_pos c3.1]; omega
    · rw [if_neg c3]
      have hq : q = 0 := by omega
      subst hq
      refine ⟨?_, ⟨⟨by simp only; omega, by simp only; omega⟩, ⟨h1, h2⟩, ⟨q1, q2⟩, ⟨a1, a2⟩, r1, r2⟩⟩
      show qgo g 0 a r x = qgo (min x (g + r)) 0 a r x + 1
      by_cases c2 : x - g ≤ r
      · rw [show min x (g + r) = x by omega, qgo_self]
        unfold qgo; rw [if_neg c1, if_pos (by omega), stp_last (by omega) c2]
      · rw [show min x (g + r) = g + r by omega]
        unfold qgo; rw [if_neg c1, if_pos (by omega), if_neg (by omega), if_pos (by omega), stp_more (by omega) r1, show x - g - r = x - (g + r) by omega]; omega
set_option maxHeartbeats 8000000 in
theorem dquanta_any (g q a r h x : Int) (w : World) :
    Calls Try.prog 36 #[.agg #[.int .i64 g, .int .i64 q], .agg #[.int .i64 a, .int .i64 r, .int .i64 h], .int .i64 x] w fun e w' => e = .returned (.int .i64 (quaV g q a r h x)) ∧ Below w.heap.size w w' := by
  have cv := hid (fun w => dvalid_any g q a r h w)
  have w1 := hid (fun w => within_any x 0 262144 w)
  have ee : quaV g q a r h x = if duV g q a r h = true ∧ 0 ≤ x ∧ x ≤ 262144 then qgo g q a r x else 0 := rfl
  generalize quaV g q a r h x = V at *
  cases hv : duV g q a r h
  · rw [hv, if_neg (by simp)] at ee
    subst ee
    rw [hv] at cv
    go_enter Try.func36, Try.ntmps36
    go_wp2_with (go_at_call 31; (with_reducible refine (cv.out _).mono ?_); rintro e v1 ⟨rfl, hb⟩; have hbel := ((((Below.refl w.heap.size w).alloc (Nat.le_refl _) _).alloc (by simp) _).trans (hb.mono (by simp; omega))); clear hb)
    go_ret
    exact ⟨rfl, hbel⟩
  · by_cases hx : 0 ≤ x ∧ x ≤ 262144
    · rw [hv, if_pos ⟨rfl, hx⟩] at ee
      obtain ⟨⟨g1, g2⟩, ⟨h1, h2⟩, ⟨q1, q2⟩, ⟨a1, a2⟩, r1, r2⟩ := duV_true.1 hv
      obtain ⟨x1, x2⟩ := hx
      have HE := hid ee
      rw [hv] at cv
      rw [show decide (0 ≤ x ∧ x ≤ 262144) = true from decide_eq_true ⟨x1, x2⟩] at w1
      clear ee hv
      by_cases c1 : x < g
      · have st := hid (fun w => steps_any (g - x) a ⟨by omega, by omega⟩ ⟨a1, a2⟩ w)
        go_enter Try.func36, Try.ntmps36
        go_wp2_with (first
          | (go_at_call 31; (with_reducible refine (cv.out _).mono ?_); rintro e v1 ⟨rfl, hb⟩; have HL := hid (Lv.kept (Lv.alloc (vs := [.int .i64 a, .int .i64 r, .int .i64 h]) (T := 61) (Lv.alloc (vs := [.int .i64 g, .int .i64 q]) (T := 59) (Lv.start w))) hb); have hL := HL.out.facts; simp only [liveAt, cellsAt, and_true, Nat.zero_add, Nat.reduceAdd, World.size_alloc] at hL; clear hb)
          | (go_at_call 66; (with_reducible refine (w1.out _).mono ?_); rintro e v2 ⟨rfl, rfl⟩)
          | (go_at_call 69; (with_reducible refine (st.out _).mono ?_); rintro e v2 ⟨rfl, rfl⟩))
        go_ret
        exact ⟨ret_int (by rw [HE.out]; unfold qgo; rw [if_pos c1]), HL.out.below⟩
      · by_cases c2 : g < x
        · have sb := stp_bd (d := x - g) (s := r) (by omega) r1
          have st := hid (fun w => steps_any (x - g) r ⟨by omega, by omega⟩ ⟨r1, r2⟩ w)
          obtain ⟨sb1, sb2⟩ := sb
          have HE2 : Hid (V = q + stpV (x - g) r) := hid (by rw [HE.out]; unfold qgo; rw [if_neg c1, if_pos c2])
          generalize stpV (x - g) r = Z at *
          clear HE
          have z1 : IntKind.i64.wrap (x - g) = x - g := IntWalk.i64_in _ (by omega)
          have z2 : IntKind.i64.wrap (q + Z) = q + Z := IntWalk.i64_in _ (by omega)
          go_enter Try.func36, Try.ntmps36
          go_wp2_with (first
            | (go_at_call 31; (with_reducible refine (cv.out _).mono ?_); rintro e v1 ⟨rfl, hb⟩; have HL := hid (Lv.kept (Lv.alloc (vs := [.int .i64 a, .int .i64 r, .int .i64 h]) (T := 61) (Lv.alloc (vs := [.int .i64 g, .int .i64 q]) (T := 59) (Lv.start w))) hb); have hL := HL.out.facts; simp only [liveAt, cellsAt, and_true, Nat.zero_add, Nat.reduceAdd, World.size_alloc] at hL; clear hb)
            | (go_at_call 66; (with_reducible refine (w1.out _).mono ?_); rintro e v2 ⟨rfl, rfl⟩))
          go_quiet ((go_at_call 69; exact Calls.quiet_of_same ((st.out _).mono fun e w' h => ⟨h.1, h.2.symm⟩)))
          go_wp2
          go_ret
          exact ⟨ret_int HE2.out.symm, (HL.out.drewN).below⟩
        · go_enter Try.func36, Try.ntmps36
          go_wp2_with (first
            | (go_at_call 31; (with_reducible refine (cv.out _).mono ?_); rintro e v1 ⟨rfl, hb⟩; have HL := hid (Lv.kept (Lv.alloc (vs := [.int .i64 a, .int .i64 r, .int .i64 h]) (T := 61) (Lv.alloc (vs := [.int .i64 g, .int .i64 q]) (T := 59) (Lv.start w))) hb); have hL := HL.out.facts; simp only [liveAt, cellsAt, and_true, Nat.zero_add, Nat.reduceAdd, World.size_alloc] at hL; clear hb)
            | (go_at_call 66; (with_reducible refine (w1.out _).mono ?_); rintro e v2 ⟨rfl, rfl⟩))
          go_ret
          exact ⟨ret_int (by rw [HE.out]; unfold qgo; rw [if_neg (by omega), if_neg (by omega)]), HL.out.below⟩
    · rw [if_neg (fun k => hx k.2)] at ee
      subst ee
      rw [hv] at cv
      rw [show decide (0 ≤ x ∧ x ≤ 262144) = false from decide_eq_false hx] at w1
      go_enter Try.func36, Try.ntmps36
      go_wp2_with (first
        | (go_at_call 31; (with_reducible refine (cv.out _).mono ?_); rintro e v1 ⟨rfl, hb⟩; have hbel := ((((Below.refl w.heap.size w).alloc (Nat.le_refl _) _).alloc (by simp) _).trans (hb.mono (by simp; omega))); clear hb)
        | (go_at_call 66; (with_reducible refine (w1.out _).mono ?_); rintro e v2 ⟨rfl, rfl⟩))
      go_ret
      exact ⟨rfl, hbel⟩
set_option maxHeartbeats 8000000 in
theorem rdquanta_any (g q a r h x : Int) (w : World) :
    Calls Try.prog 37 #[.agg #[.int .i64 g, .int .i64 q], .agg #[.int .i64 a, .int .i64 r, .int .i64 h], .int .i64 x] w fun e w' => e = .returned (.int .i64 (quaV g q a r h x)) ∧ Below w.heap.size w w' := by
  have cv := hid (fun w => rdvalid_any g q a r h w)
  have ee : quaV g q a r h x = if duV g q a r h = true ∧ 0 ≤ x ∧ x ≤ 262144 then qgo g q a r x else 0 := rfl
  generalize quaV g q a r h x = V at *
  cases hv : duV g q a r h
  · rw [hv, if_neg (by simp)] at ee
    subst ee
    rw [hv] at cv
    go_enter Try.func37, Try.ntmps37
    go_wp2_with (go_at_call 32; (with_reducible refine (cv.out _).mono ?_); rintro e v1 ⟨rfl, hb⟩; have hbel := ((((Below.refl w.heap.size w).alloc (Nat.le_refl _) _).alloc (by simp) _).trans (hb.mono (by simp; omega))); clear hb)
    go_ret
    exact ⟨rfl, hbel⟩
  · by_cases hx : 0 ≤ x ∧ x ≤ 262144
    · rw [hv, if_pos ⟨rfl, hx⟩] at ee
      have HV := hid hv
      have HX := hid hx
      obtain ⟨x1, x2⟩ := hx
      have HE := hid ee
      rw [hv] at cv
      clear ee hv
      go_enter Try.func37, Try.ntmps37
      go_wp2_with (go_at_call 32; (with_reducible refine (cv.out _).mono ?_); rintro e v1 ⟨rfl, hb⟩; have HL := hid (Lv.kept (Lv.alloc (vs := [.int .i64 a, .int .i64 r, .int .i64 h]) (T := 61) (Lv.alloc (vs := [.int .i64 g, .int .i64 q]) (T := 59) (Lv.start w))) hb); clear hb)
      have hl := HL.out
      simp only [World.size_alloc] at hl
      have HL2 := hid hl.swp
      clear hl HL
      obtain ⟨b1, b2⟩ := qgo_bd HV.out HX.out
      go_loopg [7] (qgo g q a r x).toNat (fun k n wr => ∃ G Q : Int, Hid (duV G Q a r h = true) ∧ Hid (qgo G Q a r x = k) ∧ n = .int .i64 (qgo g q a r x - k) ∧ Hid (Lv w wr [(w.heap.size, [.int .i64 G, .int .i64 Q], 59), (w.heap.size + 1, [.int .i64 a, .int .i64 r, .int .i64 h], 61)]))
      case atStart => exact ⟨g, q, HV, hid (by omega), by rw [show qgo g q a r x - ((qgo g q a r x).toNat : Int) = 0 by omega], HL2⟩
      case round =>
        obtain ⟨G, Q, hG, hQ, rfl, hl⟩ := hrel
        clear HL2 cv
        have hL := hl.out.facts
        simp only [liveAt, cellsAt, and_true, Nat.zero_add, Nat.reduceAdd, World.size_alloc] at hL
        obtain ⟨y1, y2⟩ := qgo_bd hG.out HX.out
        have y3 := hQ.out
        by_cases hne : G = x
        · subst hne
          have hz : gk = 0 := by rw [qgo_self] at y3; omega
          subst hz
          clear y3 y1 y2
          go_wp2
          go_ret
          exact ⟨ret_int (by rw [HE.out]; omega), hl.out.below⟩
        · obtain ⟨s1, s2⟩ := qgo_step hG.out HX.out hne
          have cm := hid (fun w => dmoved_any G Q a r h x hG.out HX.out w)
          have hneb : (G == x) = false := by simpa using hne
          have hneb2 : (G != x) = true := by simpa using hne
          generalize (nexV G Q a r h x).1 = G2 at *
          generalize (nexV G Q a r h x).2 = Q2 at *
          have S1 := hid s1
          have hgk : 1 ≤ gk := by have := qgo_bd s2 HX.out; omega
          have HS2 := hid s2
          have bb : qgo g q a r x - gk ≤ 266240 := by omega
          have bc : -266240 ≤ qgo g q a r x - gk := by
            by_cases hh : (gk : Int) ≤ 266240
            · omega
            · omega
          clear s1 s2 y1 y2 y3 hne
          go_wp2_with (go_at_call 68; (with_reducible refine (cm.out _).mono ?_); rintro e v1 ⟨rfl, hb⟩; have H2 := hid (hl.out.kept hb); clear hb hL; have hL := H2.out.facts; simp only [liveAt, cellsAt, and_true, Nat.zero_add, Nat.reduceAdd, World.size_alloc] at hL)
          have H3 := hid (((H2.out.set (i := 0) (v := .int .i64 G2) (Nat.le_refl _) (by simp)).set (i := 1) (v := .int .i64 Q2) (Nat.le_refl _) (by simp)))
          clear hL H2 hl
          go_roundg (gk - 1)
          case measure => omega
          case rel => exact ⟨G2, Q2, HS2, hid (by have := S1.out; have := hQ.out; omega), by congr 1; omega, H3⟩
    · rw [if_neg (fun k => hx k.2)] at ee
      subst ee
      rw [hv] at cv
      have HX := hid hx
      go_enter Try.func37, Try.ntmps37
      go_wp2_with (go_at_call 32; (with_reducible refine (cv.out _).mono ?_); rintro e v1 ⟨rfl, hb⟩; have hbel := ((((Below.refl w.heap.size w).alloc (Nat.le_refl _) _).alloc (by simp) _).trans (hb.mono (by simp; omega))); clear hb)
      all_goals first
        | (exfalso; apply HX.out; omega)
        | (go_ret; exact ⟨rfl, hbel⟩)
        | trace_state
end Go.Proofs.Ythmkkanjjlechaa
