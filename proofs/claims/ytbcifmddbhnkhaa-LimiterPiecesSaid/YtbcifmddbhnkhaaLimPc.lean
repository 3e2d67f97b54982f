/- LimiterPieces: the walk. -/
import Derived.Test.YtbcifmddbhnkhaaLimSane
import Derived.Test.YtbcifmddbhnkhaaLimLaws
import Derived.Test.YtbcifmddbhnkhaaBlkSame
import Derived.Test.YtbcifmddbhnkhaaBlkJoin
import Derived.Test.YtbcifmddbhnkhaaSf
namespace Go.Proofs.Ytbcifmddbhnkhaa
open Go.ChangeShapes Go.WideShapes Go.ChangeAt Go.RowKit
set_option linter.unusedVariables false
set_option linter.unusedSimpArgs false

def FP17A (Z : World) (lo B6 : Nat) (t r gm g2 : Int) (vs vsub : Value) (fm hi q : Nat) (dt : List Int) : Nat → World → Prop := fun _ w => Below Z.heap.size Z w ∧ lo = Z.heap.size
def FP17 (Z : World) (lo B6 : Nat) (t r gm g2 : Int) (vs vsub : Value) (fm hi q : Nat) (dt : List Int) (ph : Nat) : Nat → Value → World → Prop
  | 0, v, w => v = .agg #[.int .i64 t, .int .i64 r, .int .i64 gm]
  | 1, v, w => v = vs
  | 2, v, w => v = .int .i64 (fm : Int)
  | 3, v, w => v = .int .i64 (hi : Int)
  | 4, v, w => v = vsub
  | 5, v, w => match ph with | 0 => ∃ G : Nat, v = .tuple #[.agg #[.int .i64 3, .slice (some ⟨G, 0, none⟩) q q], .agg #[.int .i64 t, .int .i64 r, .int .i64 g2], .int .i64 0] ∧ NZ w lo G (dt.map (Value.int .i32)) 21 | 1 => True | _ => True
  | 6, v, w => match ph with | 0 => ∃ G : Nat, v = .tuple #[.agg #[.int .i64 3, .slice (some ⟨G, 0, none⟩) q q], .agg #[.int .i64 t, .int .i64 r, .int .i64 g2], .int .i64 0] ∧ NZ w lo G (dt.map (Value.int .i32)) 21 | 1 => ∃ G : Nat, v = .tuple #[.agg #[.int .i64 3, .slice (some ⟨G, 0, none⟩) q q], .agg #[.int .i64 t, .int .i64 r, .int .i64 g2], .int .i64 0] | _ => ∃ G : Nat, v = .tuple #[.agg #[.int .i64 3, .slice (some ⟨G, 0, none⟩) q q], .agg #[.int .i64 t, .int .i64 r, .int .i64 g2], .int .i64 0]
  | 7, v, w => match ph with | 0 => ∃ G : Nat, v = .agg #[.int .i64 3, .slice (some ⟨G, 0, none⟩) q q] ∧ NZ w lo G (dt.map (Value.int .i32)) 21 | 1 => True | _ => True
  | 8, v, w => v = .agg #[.int .i64 t, .int .i64 r, .int .i64 g2]
  | 9, v, w => v = .int .i64 0
  | 10, v, w => match ph with | 0 => ∃ b : Nat, v = .pointer (some ⟨b, 0, none⟩) ∧ NZ w lo b [.int .i64 0, .slice none 0 0] 36 | 1 => ∃ b G : Nat, v = .pointer (some ⟨b, 0, none⟩) ∧ NZ w lo b [.int .i64 3, .slice (some ⟨G, 0, none⟩) q q] 36 ∧ NZ w lo G (dt.map (Value.int .i32)) 21 | _ => ∃ b G : Nat, v = .pointer (some ⟨b, 0, none⟩) ∧ NZ w lo b [.int .i64 3, .slice (some ⟨G, 0, none⟩) q q] 36 ∧ NZ w lo G (dt.map (Value.int .i32)) 21
  | 11, v, w => match ph with | 0 => ∃ c : Nat, v = .pointer (some ⟨c, 0, none⟩) ∧ NZ w lo c [.int .i64 0, .int .i64 0, .int .i64 0] 23 | 1 => ∃ c : Nat, v = .pointer (some ⟨c, 0, none⟩) ∧ NZ w lo c [.int .i64 0, .int .i64 0, .int .i64 0] 23 | _ => ∃ c : Nat, v = .pointer (some ⟨c, 0, none⟩) ∧ NZ w lo c [.int .i64 t, .int .i64 r, .int .i64 g2] 23
  | 14, v, w => v = .int .i64 0
  | _, _, _ => True
theorem FP17_below {Z : World} {lo B6 : Nat} {t r gm g2 : Int} {vs vsub : Value} {fm hi q : Nat} {dt : List Int} {w w' : World} (hb : Below w.heap.size w w') : ∀ (k j : Nat) (u : Value), FP17 Z lo B6 t r gm g2 vs vsub fm hi q dt k j u w → FP17 Z lo B6 t r gm g2 vs vsub fm hi q dt k j u w' := by
  intro k j u hf
  rcases k with _ | _ | k
  all_goals (unfold FP17 at *; split at hf)
  all_goals first
    | exact hf
    | (obtain ⟨G, e, h⟩ := hf; exact ⟨G, e, h.below hb⟩)
    | (obtain ⟨b, G, e, h, h2⟩ := hf; exact ⟨b, G, e, h.below hb, h2.below hb⟩)
theorem FP17_6 {Z : World} {lo B6 : Nat} {t r gm g2 : Int} {vs vsub : Value} {fm hi q : Nat} {dt : List Int} {ph : Nat} {v : Value} {w : World} (h : FP17 Z lo B6 t r gm g2 vs vsub fm hi q dt ph 6 v w) : ∃ G : Nat, v = .tuple #[.agg #[.int .i64 3, .slice (some ⟨G, 0, none⟩) q q], .agg #[.int .i64 t, .int .i64 r, .int .i64 g2], .int .i64 0] := by
  rcases ph with _ | _ | ph
  · obtain ⟨G, e, _⟩ := h; exact ⟨G, e⟩
  · exact h
  · exact h
def FP20A (W : World) (d B11 B6 B9 B8 G b c2 G2 k cap5 fm hi q c : Nat) (t r gm g2 ge : Int) (p p5 : Option Addr) (l2 dat dm dt : List Int) : Nat → World → Prop
  | 0, w => Lx W w (some d) [(b, [.int .i64 3, .slice (some ⟨G2, 0, none⟩) q q], 36), (c2, [.int .i64 t, .int .i64 r, .int .i64 g2], 23), (G2, dt.map (Value.int .i32), 21), (B11, [.int .i64 3, .slice p fm c], 36), (B9, [.int .i64 t, .int .i64 r, .int .i64 ge], 23), (B8, [.int .i64 3, .slice (some ⟨G, 0, none⟩) (3 * k) (3 * k)], 36), (G, dat.map (Value.int .i32), 21), (B6, [.int .i64 t, .int .i64 r, .int .i64 gm], 23)] ∧ Sf .i32 w p fm c dm [B6, B11] ∧ Sf .i64 w p5 (3 * k) cap5 l2 [B6, B11]
  | 1, w => ∃ (pn : Option Addr) (cn : Nat), Lx W w (some d) [(b, [.int .i64 3, .slice (some ⟨G2, 0, none⟩) q q], 36), (c2, [.int .i64 t, .int .i64 r, .int .i64 g2], 23), (G2, dt.map (Value.int .i32), 21), (B11, [.int .i64 3, .slice pn hi cn], 36), (B9, [.int .i64 t, .int .i64 r, .int .i64 ge], 23), (B8, [.int .i64 3, .slice (some ⟨G, 0, none⟩) (3 * k) (3 * k)], 36), (G, dat.map (Value.int .i32), 21), (B6, [.int .i64 t, .int .i64 r, .int .i64 gm], 23)] ∧ Sf .i32 w pn hi cn (dm ++ dt) [B6, B11] ∧ Sf .i64 w p5 (3 * k) cap5 l2 [B6, B11]
  | _, w => ∃ (pn : Option Addr) (cn : Nat), Lx W w (some d) [(b, [.int .i64 3, .slice (some ⟨G2, 0, none⟩) q q], 36), (c2, [.int .i64 t, .int .i64 r, .int .i64 g2], 23), (G2, dt.map (Value.int .i32), 21), (B11, [.int .i64 3, .slice pn hi cn], 36), (B9, [.int .i64 t, .int .i64 r, .int .i64 ge], 23), (B8, [.int .i64 3, .slice (some ⟨G, 0, none⟩) (3 * k) (3 * k)], 36), (G, dat.map (Value.int .i32), 21), (B6, [.int .i64 t, .int .i64 r, .int .i64 g2], 23)] ∧ Sf .i32 w pn hi cn (dm ++ dt) [B6, B11] ∧ Sf .i64 w p5 (3 * k) cap5 l2 [B6, B11]
def FP20 (W : World) (d B11 B6 B9 B8 G b c2 G2 k cap5 fm hi q c : Nat) (t r gm g2 ge : Int) (p p5 : Option Addr) (l2 dat dm dt : List Int) (ph : Nat) : Nat → Value → World → Prop
  | 0, v, w => v = .agg #[.int .i64 3, .slice p fm c]
  | 1, v, w => v = .agg #[.int .i64 3, .slice (some ⟨G2, 0, none⟩) q q]
  | 2, v, w => ∃ (pn : Option Addr) (cn : Nat), v = .agg #[.int .i64 3, .slice pn hi cn] ∧ Sf .i32 w pn hi cn (dm ++ dt) [B6, B11]
  | 3, v, w => v = .agg #[.int .i64 t, .int .i64 r, .int .i64 g2]
  | 4, v, w => v = .int .i64 (hi : Int)
  | 7, v, w => v = .int .i64 (hi : Int)
  | _, _, _ => True
theorem FP20A_c {W : World} {d B11 B6 B9 B8 G b c2 G2 k cap5 fm hi q c : Nat} {t r gm g2 ge : Int} {p p5 : Option Addr} {l2 dat dm dt : List Int} {w : World} {ph : Nat} (h : FP20A W d B11 B6 B9 B8 G b c2 G2 k cap5 fm hi q c t r gm g2 ge p p5 l2 dat dm dt ph w) : w.cell? ⟨c2, 0, none⟩ = some (.int .i64 t) ∧ w.cell? ⟨c2, 1, none⟩ = some (.int .i64 r) ∧ w.cell? ⟨c2, 2, none⟩ = some (.int .i64 g2) := by
  rcases ph with _ | _ | ph
  · obtain ⟨h, _⟩ := h; exact ⟨h.cell 1 0 rfl rfl, h.cell 1 1 rfl rfl, h.cell 1 2 rfl rfl⟩
  · obtain ⟨_, _, h, _⟩ := h; exact ⟨h.cell 1 0 rfl rfl, h.cell 1 1 rfl rfl, h.cell 1 2 rfl rfl⟩
  · obtain ⟨_, _, h, _⟩ := h; exact ⟨h.cell 1 0 rfl rfl, h.cell 1 1 rfl rfl, h.cell 1 2 rfl rfl⟩
theorem runL_take (c : Nat) (t r : Int) : ∀ (n : Nat) (g : Int) (l : List Int) (m : Nat), n * c ≤ m → runL c t r n g (l.take m) = runL c t r n g l := by
  intro n
  induction n with
  | zero => intro g l m _; rfl
  | succ n ih =>
    intro g l m hm
    rw [Nat.add_mul] at hm
    rw [runL, runL, List.take_take, Nat.min_eq_left (by omega), List.drop_take, ih _ _ _ (by omega)]
theorem enter_join : ∀ (ar : Array Value) (w : World), (callFunc 22 ar).run Try.prog w = .ok (.enter 22 ar) w := by
  intro ar w
  kernel_rfl
theorem enter_run : ∀ (ar : Array Value) (w : World), (callFunc 12 ar).run Try.prog w = .ok (.enter 12 ar) w := by
  intro ar w
  kernel_rfl
set_option maxRecDepth 100000 in
set_option maxHeartbeats 16000000 in
theorem limiterPieces_walk (a : Option Addr) (len cap : Nat) (l : List Int) (a1 : Option Addr) (len1 cap1 : Nat) (l1 : List Int) (W : World) (hs : Sl .u8 W a len cap l) (hs1 : Sl .u8 W a1 len1 cap1 l1) :
    Calls Try.prog 5 #[.slice a len cap, .slice a1 len1 cap1] W fun e w' => e = .returned (.bool true) ∧ Below W.heap.size W w' := by
  have HS := hid hs
  have HS1 := hid hs1
  have hm1 : len1 ≤ 9223372036854775807 := by have k1 := hs1.2.1; have k2 := hs1.2.2.1; unfold maxLen at k2; omega
  clear hs hs1
  by_cases hlen : 10 < len1
  · go_enter Try.func5, Try.ntmps5
    go_wp2_with fail
    (with_reducible refine (sane_any _).mono ?_); rintro e w1 ⟨rfl, hb⟩
    go_wp2_with fail
    go_ret
    exact ⟨rfl, hb⟩
  go_enter Try.func5, Try.ntmps5
  go_wp2_with fail
  (with_reducible refine (sane_any _).mono ?_); rintro e w1 ⟨rfl, hb⟩; have H1 := hid ((Lx.start W).kept hb); clear hb
  go_wp2_with fail
  (with_reducible refine (new_any a len cap l _ (H1.out.slN HS.out)).mono ?_); rintro e w2 ⟨d, rfl, hd0, hdk, hb⟩; have hWd := Nat.le_trans H1.out.size hd0; have H2 := hid (H1.out.roll hb hdk); clear hb hdk hd0 H1 HS
  go_wp2_with fail
  (with_reducible refine (made_any d _ H2.out.diceAt).mono ?_); rintro e w3 ⟨⟨t, r, g, rfl, hT, hR, hG⟩, hk, hb⟩; have H3 := hid ((H2.out.next hk hb).alloc (vs := [.int .i64 t, .int .i64 r, .int .i64 g]) (T := 23)); clear hk hb H2
  have HT := hid hT; have HR := hid hR; have HG := hid hG; clear hT hR hG
  go_upto_region 7 with (fail)
  have hB3 : w3.heap.size < (w3.alloc (.cells #[.int .i64 t, .int .i64 r, .int .i64 g] 23)).heap.size := by simp
  generalize w3.alloc (.cells #[.int .i64 t, .int .i64 r, .int .i64 g] 23) = W3 at *
  generalize w3.heap.size = B6 at *
  go_wp2_with fail
  (with_reducible refine (next_any d 12 (by omega) (by omega) _ H3.out.diceAt).mono ?_); rintro e w4 ⟨⟨k, rfl, k0, k1⟩, hk, hb⟩; have H4 := hid (H3.out.next hk hb); have hB4 := Nat.lt_of_lt_of_le hB3 hb.size; clear hk hb H3 hB3
  obtain ⟨k, rfl⟩ : ∃ n : Nat, k = n := ⟨k.toNat, by omega⟩
  go_wp2_with fail
  (with_reducible refine (sums_w d (3 * k) _ _ (by omega) H4.out.diceAt (by omega)).mono ?_); rintro e w5 ⟨v, l2, rfl, hla, hll, hls⟩; have H5 := hid (H4.out.next hla.lx.diceAt hla.lx.but); clear H4
  have hrow := hla.row.lt
  obtain ⟨p5, cap5, rfl, hsl, hp5⟩ := hla.sl hls.wf
  have HSL := hid hsl
  have HLL := hid hll
  have HLS := hid (fun s hs => (show -1099511627776 ≤ s ∧ s ≤ 1099511627776 by have := hls s hs; omega))
  have hp6 : ∀ ad, p5 = some ad → ad.block < w5.heap.size := fun ad e => (hrow ad.block (by rw [e]; rfl)).2
  have hp5 : ∀ ad, p5 = some ad → w4.heap.size ≤ ad.block := fun ad e => (hp5 ad e).1
  clear hla hsl hll hls hrow
  have hL := H5.out.facts
  simp only [liveAt, cellsAt, and_true, Nat.zero_add, Nat.reduceAdd] at hL
  go_wp2_with fail
  (with_reducible refine (lrun_w t r g 3 3 k (3 * k) p5 cap5 l2 _ rfl (by omega) HT.out HR.out HG.out (by omega) (by omega) HSL.out HLS.out).mono ?_); rintro e w6 ⟨G, rfl, hB, hGs, hb⟩
  clear hL
  have H7 := hid ((((H5.out.keptNew hb hB hGs).alloc (vs := [.int .i64 3, .slice (some ⟨G, 0, none⟩) (3 * k) (3 * k)]) (T := 36)).alloc (vs := [.int .i64 t, .int .i64 r, .int .i64 (runL 3 t r k g l2).2]) (T := 23)).alloc (vs := [.int .i64 3, .slice none 0 0]) (T := 36))
  have HS7 := hid (HSL.out.below (((hb.alloc hb.size (.cells #[.int .i64 3, .slice (some ⟨G, 0, none⟩) (3 * k) (3 * k)] 36)).alloc (by have := hb.size; simp; omega) (.cells #[.int .i64 t, .int .i64 r, .int .i64 (runL 3 t r k g l2).2] 23)).alloc (by have := hb.size; simp; omega) (.cells #[.int .i64 3, .slice none 0 0] 36)))
  simp only [World.size_alloc] at H7
  have hz6 : w5.heap.size ≤ w6.heap.size + 1 + 1 := by have := hb.size; omega
  clear hb hB hGs H5 HSL
  obtain ⟨ge, hge⟩ : ∃ ge, (runL 3 t r k g l2).2 = ge := ⟨_, rfl⟩
  rw [hge] at H7 HS7
  simp only [hge]
  have HGE := hid hge
  clear hge
  obtain ⟨dat, hdat⟩ : ∃ dat, (runL 3 t r k g l2).1 = dat := ⟨_, rfl⟩
  rw [hdat] at H7
  have HDAT := hid hdat
  clear hdat
  go_upto_region 10 with (fail)
  generalize ((w6.alloc (.cells #[.int .i64 3, .slice (some ⟨G, 0, none⟩) (3 * k) (3 * k)] 36)).alloc (.cells #[.int .i64 t, .int .i64 r, .int .i64 ge] 23)).alloc (.cells #[.int .i64 3, .slice none 0 0] 36) = W7 at *
  generalize w6.heap.size + 1 + 1 = B11 at *
  generalize w6.heap.size + 1 = B9 at *
  generalize w6.heap.size = B8 at *
  have HF5 := hid (show Sf .i64 W7 p5 (3 * k) cap5 l2 [B6, B11] from ⟨HS7.out, fun ad e hm => by
    have h5 := hp5 ad e
    have h6 := hp6 ad e
    simp at hm; omega⟩)
  have HS17 := hid (H7.out.sl HS1.out (fun d' e _ ad ha => by
    cases e
    have := HS1.out.2.2.2.2.2
    rcases this with h | ⟨b, off, e2, hb, _⟩
    · omega
    · rw [e2] at ha; cases ha; simp; omega))
  go_wp2_with fail
  obtain ⟨K3, hK3⟩ : ∃ K3 : Int, 3 * (k : Int) = K3 := ⟨_, rfl⟩
  rw [hK3]
  clear hK3
  go_loopw [12, 13] (fun f i wr => ∃ (m x : Nat) (p : Option Addr) (c : Nat), m ≤ k ∧ x ≤ len1 + 1 ∧ i = .int .i64 x ∧ f = .int .i64 ((3 * m : Nat) : Int) ∧ (x = len1 + 1 → m = k) ∧ Hid (Lx W wr (some d) [(B11, [.int .i64 3, .slice p (3 * m) c], 36), (B9, [.int .i64 t, .int .i64 r, .int .i64 ge], 23), (B8, [.int .i64 3, .slice (some ⟨G, 0, none⟩) (3 * k) (3 * k)], 36), (G, dat.map (Value.int .i32), 21), (B6, [.int .i64 t, .int .i64 r, .int .i64 ((runL 3 t r m g l2).2)], 23)]) ∧ Hid (Sf .i32 wr p (3 * m) c (runL 3 t r m g l2).1 [B6, B11]) ∧ Hid (Sf .i64 wr p5 (3 * k) cap5 l2 [B6, B11])) (fun _ i _ => len1 + 1 - (intOf i).toNat)
  case atStart => exact ⟨0, 0, none, 0, by omega, by omega, rfl, rfl, by omega, H7, hid ⟨sl_nil _ _, fun ad h => (by cases h)⟩, HF5⟩
  case round =>
    obtain ⟨m, x, p, c, hmk, hx, rfl, rfl, hlast, HL, HO, HI5⟩ := hrel
    clear H7 HF5 HS7
    obtain ⟨wo, rfl⟩ : ∃ wo : World, wo = wr := ⟨_, rfl⟩
    by_cases hxl : x ≤ len1
    · have hkb : decide ((x : Int) ≤ (len1 : Int)) = true := by simp; omega
      have hkz : (x : Int) ≤ (len1 : Int) := by omega
      by_cases hxl2 : x < len1
      · have hkb2 : decide ((x : Int) < (len1 : Int)) = true := by simp; omega
        have hkz2 : (x : Int) < (len1 : Int) := by omega
        have h1 := HL.out.sl HS1.out (fun d' e _ ad ha => by
          cases e
          have := HS1.out.2.2.2.2.2
          rcases this with h | ⟨b, off, e2, hb, _⟩
          · omega
          · rw [e2] at ha; cases ha; simp; omega)
        rcases h1.2.2.2.2.2 with h6 | ⟨b1, off1, rfl, hbl, hcs⟩
        · omega
        have g0 := hcs x hxl2
        have hy := byte_getD (byte_of_wf HS1.out.2.2.2.1) x
        generalize l1.getD x 0 = y at *
        obtain ⟨y0, y1⟩ := hy
        clear hcs
        go_upto_region 17 with (fail)
        obtain ⟨mt, hmn, hm1, hm2, hm3⟩ : ∃ mt : Nat, min (3 * (k : Int)) (3 * (m : Int) + 3 * (y % 5)) = ((3 * mt : Nat) : Int) ∧ m ≤ mt ∧ mt ≤ k ∧ (x = len1 → mt = k) := ⟨min k (m + (y % 5).toNat), by omega, by omega, by omega, by omega⟩
        rw [hmn]
        clear hmn g0
        obtain ⟨gm, hgm⟩ : ∃ gm, (runL 3 t r m g l2).2 = gm := ⟨_, rfl⟩
        obtain ⟨dm, hdm⟩ : ∃ dm, (runL 3 t r m g l2).1 = dm := ⟨_, rfl⟩
        rw [hgm] at HL
        rw [hdm] at HO
        have hgb := runL_gain 3 HT.out HR.out m g l2 HG.out HLS.out
        rw [hgm] at hgb
        have hadd := runL_add 3 t r m (mt - m) g l2
        rw [show m + (mt - m) = mt by omega, hgm, hdm] at hadd
        obtain ⟨ps, qs, hsu, hslu, _⟩ := run_part (P := Try.prog) (t := 24) (e := 2) Try.underlying24 (by kernel_rfl) (by kernel_rfl) HI5.out.1 .i64 .i64 (3 * m) (3 * mt) (by omega) (by omega)
        rw [show l2.drop (3 * m) = l2.drop (m * 3) by rw [Nat.mul_comm]] at hslu
        have hsb : ∀ s ∈ (l2.drop (m * 3)).take (3 * mt - 3 * m), -1099511627776 ≤ s ∧ s ≤ 1099511627776 := fun s hs => HLS.out s (mem_frame hs)
        have htk : runL 3 t r (mt - m) gm ((l2.drop (m * 3)).take (3 * mt - 3 * m)) = runL 3 t r (mt - m) gm (l2.drop (m * 3)) := runL_take 3 t r (mt - m) gm _ _ (by omega)
        rw [← htk] at hadd
        have hdl := runL_len 3 t r (mt - m) gm ((l2.drop (m * 3)).take (3 * mt - 3 * m)) (by rw [List.length_take, List.length_drop, HLL.out]; omega)
        have hds := runL_sample 3 t r (mt - m) gm ((l2.drop (m * 3)).take (3 * mt - 3 * m))
        have hds1 := runL_sample 3 t r m g l2
        rw [hdm] at hds1
        obtain ⟨subl, hsubl⟩ : ∃ subl, (l2.drop (m * 3)).take (3 * mt - 3 * m) = subl := ⟨_, rfl⟩
        rw [hsubl] at hslu hsb hadd hdl hds
        obtain ⟨g2, hg2⟩ : ∃ g2, (runL 3 t r (mt - m) gm subl).2 = g2 := ⟨_, rfl⟩
        obtain ⟨dt, hdt⟩ : ∃ dt, (runL 3 t r (mt - m) gm subl).1 = dt := ⟨_, rfl⟩
        rw [hg2, hdt] at hadd
        rw [hdt] at hdl hds
        obtain ⟨q, hq⟩ : ∃ q, 3 * mt - 3 * m = q := ⟨_, rfl⟩
        obtain ⟨fm, hfm⟩ : ∃ fm, 3 * m = fm := ⟨_, rfl⟩
        obtain ⟨hi, hhi⟩ : ∃ hi, 3 * mt = hi := ⟨_, rfl⟩
        rw [hq] at hslu hsu
        rw [hfm, hhi] at hsu
        rw [hfm] at HL HO
        have HQ := hid (show fm + q = hi by omega)
        have HDQ := hid (show dt.length = q by omega)
        have hqb : fm + q ≤ 1000 := by omega
        have hwfs : ∀ (z : List Int), (∀ s ∈ z, -8388608 ≤ s ∧ s ≤ 8388607) → ∀ n ∈ z, (Lit.int .i32 n).wf = true := by
          intro z hz n hn
          have h0 := hz n hn
          have e : wrap32 n = n := by unfold wrap32; omega
          have h2 := wrap32_wf n
          rw [e] at h2
          exact h2
        have HDW := hid (hwfs dt hds)
        have HDD := hid (hwfs (dm ++ dt) (fun s hs => by rcases List.mem_append.1 hs with h | h; exact hds1 s h; exact hds s h))
        have HADD := hid hadd
        have HHI := hid hhi
        obtain ⟨vsub, hvsub⟩ : ∃ vsub, Value.slice ps q qs = vsub := ⟨_, rfl⟩
        obtain ⟨vs, hvs⟩ : ∃ vs, Value.slice p5 (3 * k) cap5 = vs := ⟨_, rfl⟩
        obtain ⟨Z, hZ⟩ : ∃ Z, wo.drew = Z := ⟨_, rfl⟩
        have hwZ : Below wo.heap.size wo Z := hZ ▸ (Below.refl _ _).drew
        have hHZ := HL.out.kept hwZ
        have hOZ := HO.out.below hwZ
        have hIZ := HI5.out.below hwZ
        obtain ⟨lo, hlo0⟩ : ∃ lo, lo = Z.heap.size := ⟨_, rfl⟩
        have hl6 := hHZ.lt 4 rfl
        have HC6 := hid (show Z.cell? ⟨B6, 0, none⟩ = some (.int .i64 t) ∧ Z.cell? ⟨B6, 1, none⟩ = some (.int .i64 r) ∧ Z.cell? ⟨B6, 2, none⟩ = some (.int .i64 gm) from ⟨hHZ.cell 4 0 rfl rfl, hHZ.cell 4 1 rfl rfl, hHZ.cell 4 2 rfl rfl⟩)
        rw [hvs, hvsub] at hsu
        have HSU := hid hsu
        have HCR := hid (fun (w' : World) (hb : Below Z.heap.size Z w') => lrun_w t r gm 3 3 (mt - m) q ps qs subl w' rfl (by omega) HT.out HR.out hgb (by omega) (by omega) ((hslu.below hwZ).below hb) hsb)
        simp only [hg2, hdt, hvsub] at HCR
        simp only [hfm, hhi, hvs]
        have HV := hid hvs
        clear hsu hslu hsb htk hdl hds hds1 hgm hdm hg2 hdt hfm hhi hvs hvsub hq hsubl hgb hadd hwfs HL HO HI5
        have hI0 : Below Z.heap.size Z wo.drew ∧ lo = Z.heap.size := by rw [hZ]; exact ⟨Below.refl _ _, hlo0⟩
        refine wp_region_factsR (ops := [_, _, _, _, _, _, _, _, _, _, _, _, _, _, _]) (fun _ => none) (phA [12, 13] (FP17A Z lo B6 t r gm g2 vs vsub fm hi q dt)) (phF [12, 13] (FP17 Z lo B6 t r gm g2 vs vsub fm hi q dt)) (by kernel_rfl) (by kernel_rfl) (by kernel_rfl) (show (FP17A Z lo B6 t r gm g2 vs vsub fm hi q dt) 0 _ from hI0) ?_ (by kernel_rfl) ?_ ?_
        · intro g b h; cases h
        · refine ⟨?_, ?_, ?_, ?_, ?_, ?_, ?_, ?_, ?_, ?_, ?_, ?_, ?_, ?_, ?_, trivial⟩
          · unfold StepGPR; rw [if_pos (by kernel_rfl)]; intro a1 wx L hs hdf hfar hold hI hno hup hdeps K hK; have HOLD := hid hold; clear hold
            have hK := phK_plain (i := 0) (by kernel_rfl) hK
            have ef6 : a1.eval (.tmp 6) = .pointer (some ⟨B6, 0, none⟩) := far_eval (hfar 6 (by kernel_rfl)) rfl
            have x1_ := tmp_eval ef6
            obtain ⟨hbz, hlo⟩ := (show Below Z.heap.size Z wx ∧ lo = Z.heap.size from hI)
            obtain ⟨c0, c1, c2⟩ := HC6.out
            have c0 := (bcell hbz).1 B6 0 (by omega) |>.trans c0
            have c1 := (bcell hbz).1 B6 1 (by omega) |>.trans c1
            have c2 := (bcell hbz).1 B6 2 (by omega) |>.trans c2
            have HI := hid (phA_self hI)
            have HK := hid hK
            clear ef6 hbz hlo
            clear hdf hs hfar hdeps hI hno hup hK
            go_simp
            exact HK.out _ _ HI.out (by first | rfl | (show _ = _; simp [*]; done)) (fun _ _ _ _ _ h => h)
          · unfold StepGPR; rw [if_pos (by kernel_rfl)]; intro a1 wx L hs hdf hfar hold hI hno hup hdeps K hK; have HOLD := hid hold; clear hold
            have hK := phK_plain (i := 1) (by kernel_rfl) hK
            exact wp_move (.tmp 7) (.inl rfl) _ (far_eval (hfar 7 (by kernel_rfl)) rfl) (hK _ _ (phA_self hI) (by first | rfl | trivial) (fun _ _ _ _ _ h => h))
          · unfold StepGPR; rw [if_pos (by kernel_rfl)]; intro a1 wx L hs hdf hfar hold hI hno hup hdeps K hK; have HOLD := hid hold; clear hold
            have hK := phK_plain (i := 2) (by kernel_rfl) hK
            exact wp_move (.tmp 12) (.inl rfl) _ (far_eval (hfar 12 (by kernel_rfl)) rfl) (hK _ _ (phA_self hI) (by first | rfl | trivial) (fun _ _ _ _ _ h => h))
          · unfold StepGPR; rw [if_pos (by kernel_rfl)]; intro a1 wx L hs hdf hfar hold hI hno hup hdeps K hK; have HOLD := hid hold; clear hold
            have hK := phK_plain (i := 3) (by kernel_rfl) hK
            exact wp_move (.tmp 14) (.inl rfl) _ (far_eval (hfar 14 (by kernel_rfl)) rfl) (hK _ _ (phA_self hI) (by first | rfl | trivial) (fun _ _ _ _ _ h => h))
          · unfold StepGPR; rw [if_pos (by kernel_rfl)]; intro a1 wx L hs hdf hfar hold hI hno hup hdeps K hK; have HOLD := hid hold; clear hold
            have hK := phK_plain (i := 4) (by kernel_rfl) hK
            obtain e1 := (show (a1.eval (.tmp 66)) = vs from phF_self (hdeps 1 (by kernel_rfl) (by kernel_rfl) _ rfl))
            obtain e2 := (show (a1.eval (.tmp 67)) = .int .i64 (fm : Int) from phF_self (hdeps 2 (by kernel_rfl) (by kernel_rfl) _ rfl))
            obtain e3 := (show (a1.eval (.tmp 68)) = .int .i64 (hi : Int) from phF_self (hdeps 3 (by kernel_rfl) (by kernel_rfl) _ rfl))
            refine wp_value _ ?_ (hK vsub wx (phA_self hI) rfl (fun _ _ _ _ _ h => h))
            unfold execOp
            simp only [Option.map_some, Option.map_none, e1, e2, e3, Sem.run_bind, HSU.out, Result.andThen_ok, Sem.run_pure]
          · unfold StepGPR; rw [if_pos (by kernel_rfl)]; intro a1 wx L hs hdf hfar hold hI hno hup hdeps K hK; have HOLD := hid hold; clear hold
            have hK := phK_plain (i := 5) (by kernel_rfl) hK
            have hk : ([12, 13] : List Nat).countP L = 0 := by simp [hno 12 (by kernel_rfl), hno 13 (by kernel_rfl)]
            obtain ⟨hbz, hlo⟩ := (show Below Z.heap.size Z wx ∧ lo = Z.heap.size from hI)
            obtain e1 := (show (a1.eval (.tmp 65)) = .agg #[.int .i64 t, .int .i64 r, .int .i64 gm] from phF_at hk (hdeps 0 (by kernel_rfl) (by kernel_rfl) _ rfl))
            obtain e2 := (show (a1.eval (.tmp 69)) = vsub from phF_at hk (hdeps 4 (by kernel_rfl) (by kernel_rfl) _ rfl))
            rw [hk] at hK
            refine wp_fn 12 [.tmp 65, .const (.int .i64 3), .tmp 69] _ rfl [.agg #[.int .i64 t, .int .i64 r, .int .i64 gm], .int .i64 3, vsub] (by simp only [List.map_cons, List.map_nil, e1, e2]; rfl) enter_run (HCR.out wx hbz) ?_
            rintro e wy ⟨G, rfl, hB, hG, hb⟩
            have hbl := hbz.size
            have hM := (show ∀ (k j : Nat) (u : Value), FP17 Z lo B6 t r gm g2 vs vsub fm hi q dt k j u wx → FP17 Z lo B6 t r gm g2 vs vsub fm hi q dt k j u wy from FP17_below hb)
            refine ⟨_, rfl, hK _ wy ⟨hbz.trans (hb.mono hbz.size), hlo⟩ ⟨G, rfl, hB, by omega⟩ (fun j oj _ _ _ h => hM _ _ _ h)⟩
          · unfold StepGPR; rw [if_pos (by kernel_rfl)]; intro a1 wx L hs hdf hfar hold hI hno hup hdeps K hK; have HOLD := hid hold; clear hold
            have hK := phK_plain (i := 6) (by kernel_rfl) hK
            have hk : ([12, 13] : List Nat).countP L = 0 := by simp [hno 12 (by kernel_rfl), hno 13 (by kernel_rfl)]
            obtain ⟨G, e1, hB⟩ := (show ∃ G : Nat, (a1.eval (.tmp 70)) = .tuple #[.agg #[.int .i64 3, .slice (some ⟨G, 0, none⟩) q q], .agg #[.int .i64 t, .int .i64 r, .int .i64 g2], .int .i64 0] ∧ NZ wx lo G (dt.map (Value.int .i32)) 21 from phF_at hk (hdeps 5 (by kernel_rfl) (by kernel_rfl) _ rfl))
            rw [hk] at hK
            exact wp_move (.tmp 70) (.inl rfl) _ e1 (hK _ _ (phA_at hk hI) ⟨G, rfl, hB⟩ (fun _ _ _ _ _ h => h))
          · unfold StepGPR; rw [if_pos (by kernel_rfl)]; intro a1 wx L hs hdf hfar hold hI hno hup hdeps K hK; have HOLD := hid hold; clear hold
            have hK := phK_plain (i := 7) (by kernel_rfl) hK
            have hk : ([12, 13] : List Nat).countP L = 0 := by simp [hno 12 (by kernel_rfl), hno 13 (by kernel_rfl)]
            obtain ⟨G, e1, hB⟩ := (show ∃ G : Nat, (a1.eval (.tmp 64)) = .tuple #[.agg #[.int .i64 3, .slice (some ⟨G, 0, none⟩) q q], .agg #[.int .i64 t, .int .i64 r, .int .i64 g2], .int .i64 0] ∧ NZ wx lo G (dt.map (Value.int .i32)) 21 from phF_at hk (hdeps 6 (by kernel_rfl) (by kernel_rfl) _ rfl))
            rw [hk] at hK
            have x1_ := tmp_eval e1
            have HI := hid (phA_at hk hI)
            have HK := hid hK
            have HB := hid hB
            clear e1 hB hk
            clear hdf hs hfar hdeps hI hno hup hK
            go_simp
            exact HK.out _ _ HI.out ⟨G, rfl, HB.out⟩ (fun _ _ _ _ _ h => h)
          · unfold StepGPR; rw [if_pos (by kernel_rfl)]; intro a1 wx L hs hdf hfar hold hI hno hup hdeps K hK; have HOLD := hid hold; clear hold
            have hK := phK_plain (i := 8) (by kernel_rfl) hK
            obtain ⟨G, e1⟩ := (show ∃ G : Nat, (a1.eval (.tmp 64)) = .tuple #[.agg #[.int .i64 3, .slice (some ⟨G, 0, none⟩) q q], .agg #[.int .i64 t, .int .i64 r, .int .i64 g2], .int .i64 0] from FP17_6 (phF_self (hdeps 6 (by kernel_rfl) (by kernel_rfl) _ rfl)))
            have x1_ := tmp_eval e1
            have HI := hid (phA_self hI)
            have HK := hid hK
            clear e1
            clear hdf hs hfar hdeps hI hno hup hK
            go_simp
            exact HK.out _ _ HI.out rfl (fun _ _ _ _ _ h => h)
          · unfold StepGPR; rw [if_pos (by kernel_rfl)]; intro a1 wx L hs hdf hfar hold hI hno hup hdeps K hK; have HOLD := hid hold; clear hold
            have hK := phK_plain (i := 9) (by kernel_rfl) hK
            obtain ⟨G, e1⟩ := (show ∃ G : Nat, (a1.eval (.tmp 64)) = .tuple #[.agg #[.int .i64 3, .slice (some ⟨G, 0, none⟩) q q], .agg #[.int .i64 t, .int .i64 r, .int .i64 g2], .int .i64 0] from FP17_6 (phF_self (hdeps 6 (by kernel_rfl) (by kernel_rfl) _ rfl)))
            have x1_ := tmp_eval e1
            have HI := hid (phA_self hI)
            have HK := hid hK
            clear e1
            clear hdf hs hfar hdeps hI hno hup hK
            go_simp
            exact HK.out _ _ HI.out rfl (fun _ _ _ _ _ h => h)
          · unfold StepGPR; rw [if_pos (by kernel_rfl)]; intro a1 wx L hs hdf hfar hold hI hno hup hdeps K hK; have HOLD := hid hold; clear hold
            have hK := phK_plain (i := 10) (by kernel_rfl) hK
            have hk : ([12, 13] : List Nat).countP L = 0 := by simp [hno 12 (by kernel_rfl), hno 13 (by kernel_rfl)]
            obtain ⟨hbz, hlo⟩ := (show Below Z.heap.size Z wx ∧ lo = Z.heap.size from hI)
            have hbl := hbz.size
            have hb : Below wx.heap.size wx (wx.alloc (.cells #[.int .i64 0, .slice none 0 0] 36)) := by go_grown
            have hB : NZ (wx.alloc (.cells #[.int .i64 0, .slice none 0 0] 36)) lo wx.heap.size [.int .i64 0, .slice none 0 0] 36 := ⟨Blk.alloc_new wx [.int .i64 0, .slice none 0 0] 36, by omega⟩
            have hM := (show ∀ (k j : Nat) (u : Value), FP17 Z lo B6 t r gm g2 vs vsub fm hi q dt k j u wx → FP17 Z lo B6 t r gm g2 vs vsub fm hi q dt k j u (wx.alloc (.cells #[.int .i64 0, .slice none 0 0] 36)) from FP17_below hb)
            have HI := hid (show Below Z.heap.size Z (wx.alloc (.cells #[.int .i64 0, .slice none 0 0] 36)) ∧ lo = Z.heap.size from ⟨hbz.trans (hb.mono hbz.size), hlo⟩)
            have HM := hid hM
            have HB := hid hB
            have HK := hid hK
            rw [hk] at HK
            clear hk
            clear hbz hbl hb hB hM
            clear hdf hs hfar hdeps hI hno hup hK
            go_simp
            exact HK.out _ _ HI.out ⟨_, rfl, HB.out⟩ (fun j oj _ _ _ h => HM.out _ _ _ h)
          · unfold StepGPR; rw [if_pos (by kernel_rfl)]; intro a1 wx L hs hdf hfar hold hI hno hup hdeps K hK; have HOLD := hid hold; clear hold
            have hK := phK_plain (i := 11) (by kernel_rfl) hK
            have hk : ([12, 13] : List Nat).countP L = 0 := by simp [hno 12 (by kernel_rfl), hno 13 (by kernel_rfl)]
            obtain ⟨hbz, hlo⟩ := (show Below Z.heap.size Z wx ∧ lo = Z.heap.size from hI)
            have hbl := hbz.size
            have hb : Below wx.heap.size wx (wx.alloc (.cells #[.int .i64 0, .int .i64 0, .int .i64 0] 23)) := by go_grown
            have hB : NZ (wx.alloc (.cells #[.int .i64 0, .int .i64 0, .int .i64 0] 23)) lo wx.heap.size [.int .i64 0, .int .i64 0, .int .i64 0] 23 := ⟨Blk.alloc_new wx [.int .i64 0, .int .i64 0, .int .i64 0] 23, by omega⟩
            have hM := (show ∀ (k j : Nat) (u : Value), FP17 Z lo B6 t r gm g2 vs vsub fm hi q dt k j u wx → FP17 Z lo B6 t r gm g2 vs vsub fm hi q dt k j u (wx.alloc (.cells #[.int .i64 0, .int .i64 0, .int .i64 0] 23)) from FP17_below hb)
            have HI := hid (show Below Z.heap.size Z (wx.alloc (.cells #[.int .i64 0, .int .i64 0, .int .i64 0] 23)) ∧ lo = Z.heap.size from ⟨hbz.trans (hb.mono hbz.size), hlo⟩)
            have HM := hid hM
            have HB := hid hB
            have HK := hid hK
            rw [hk] at HK
            clear hk
            clear hbz hbl hb hB hM
            clear hdf hs hfar hdeps hI hno hup hK
            go_simp
            exact HK.out _ _ HI.out ⟨_, rfl, HB.out⟩ (fun j oj _ _ _ h => HM.out _ _ _ h)
          · unfold StepGPR; rw [if_pos (by kernel_rfl)]; intro a1 wx L hs hdf hfar hold hI hno hup hdeps K hK; have HOLD := hid hold; clear hold
            have hk : ([12, 13] : List Nat).countP L = 0 := by simp [hno 12 (by kernel_rfl), hno 13 (by kernel_rfl)]
            have hK := phK_write (i := 12) 0 hk (by rw [phN_count (by kernel_rfl) (hno 12 (by kernel_rfl)), hk]) hK
            obtain ⟨b, e1, hB⟩ := (show ∃ b : Nat, (a1.eval (.tmp 15)) = .pointer (some ⟨b, 0, none⟩) ∧ NZ wx lo b [.int .i64 0, .slice none 0 0] 36 from phF_at hk (hdeps 10 (by kernel_rfl) (by kernel_rfl) _ rfl))
            obtain ⟨G, e2, hG⟩ := (show ∃ G : Nat, (a1.eval (.tmp 71)) = .agg #[.int .i64 3, .slice (some ⟨G, 0, none⟩) q q] ∧ NZ wx lo G (dt.map (Value.int .i32)) 21 from phF_at hk (hdeps 7 (by kernel_rfl) (by kernel_rfl) _ rfl))
            obtain ⟨hbz, hlo⟩ := (show Below Z.heap.size Z wx ∧ lo = Z.heap.size from hI)
            have hbl := hbz.size
            have hGb : G ≠ b := by intro e; subst e; have h1 := hB.1.symm.trans hG.1; simp at h1
            refine wp_store_blk _ _ _ rfl b e1 [.int .i64 3, .slice (some ⟨G, 0, none⟩) q q] e2 _ _ hB.1 rfl (by kernel_rfl) (by intro v hv; simp at hv; rcases hv with rfl | rfl <;> rfl) ?_
            intro w' hb' ho
            have hBz : Z.heap.size ≤ b := hlo ▸ hB.2
            refine hK undef w' ⟨hbz.trans (ho.below hBz hbz.size), hlo⟩ trivial ?_
            intro j oj hj hji hl hf
            have hu : j = 10 → slotOf a1 oj = .pointer (some ⟨b, 0, none⟩) := by intro e; subst e; cases hj; exact e1
            revert hf hu
            generalize slotOf a1 oj = u
            intro hf hu
            match j with
            | 10 => exact ⟨b, G, hu rfl, ⟨hb', hB.2⟩, hG.only ho hGb⟩
            | 11 =>
              obtain ⟨c, e, hC⟩ := hf
              refine ⟨c, e, hC.only ho ?_⟩
              intro e; subst e; have h1 := hB.1.symm.trans hC.1; simp at h1
            | 0 => exact hf
            | 1 => exact hf
            | 2 => exact hf
            | 3 => exact hf
            | 4 => exact hf
            | 8 => exact hf
            | 9 => exact hf
            | 14 => exact hf
            | 6 => obtain ⟨G, e, _⟩ := hf; exact ⟨G, e⟩
            | 5 => exact trivial
            | 7 => exact trivial
            | 12 => exact trivial
            | 13 => exact trivial
            | j + 15 => exact trivial
          · unfold StepGPR; rw [if_pos (by kernel_rfl)]; intro a1 wx L hs hdf hfar hold hI hno hup hdeps K hK; have HOLD := hid hold; clear hold
            have hk : ([12, 13] : List Nat).countP L = 1 := by simp [hup 12 (by kernel_rfl) (by kernel_rfl), hno 13 (by kernel_rfl)]
            have hK := phK_write (i := 13) 1 hk (by rw [phN_count (by kernel_rfl) (hno 13 (by kernel_rfl)), hk]) hK
            obtain ⟨c, e1, hC⟩ := (show ∃ c : Nat, (a1.eval (.tmp 16)) = .pointer (some ⟨c, 0, none⟩) ∧ NZ wx lo c [.int .i64 0, .int .i64 0, .int .i64 0] 23 from phF_at hk (hdeps 11 (by kernel_rfl) (by kernel_rfl) _ rfl))
            obtain e2 := (show (a1.eval (.tmp 72)) = .agg #[.int .i64 t, .int .i64 r, .int .i64 g2] from phF_at hk (hdeps 8 (by kernel_rfl) (by kernel_rfl) _ rfl))
            obtain ⟨hbz, hlo⟩ := (show Below Z.heap.size Z wx ∧ lo = Z.heap.size from hI)
            have hbl := hbz.size
            refine wp_store_blk _ _ _ rfl c e1 [.int .i64 t, .int .i64 r, .int .i64 g2] e2 _ _ hC.1 rfl (by kernel_rfl) (by intro v hv; simp at hv; rcases hv with rfl | rfl | rfl <;> rfl) ?_
            intro w' hb' ho
            have hBz : Z.heap.size ≤ c := hlo ▸ hC.2
            refine hK undef w' ⟨hbz.trans (ho.below hBz hbz.size), hlo⟩ trivial ?_
            intro j oj hj hji hl hf
            have hu : j = 11 → slotOf a1 oj = .pointer (some ⟨c, 0, none⟩) := by intro e; subst e; cases hj; exact e1
            revert hf hu
            generalize slotOf a1 oj = u
            intro hf hu
            match j with
            | 11 => exact ⟨c, hu rfl, hb', hC.2⟩
            | 10 =>
              obtain ⟨b, G, e, hB, hG⟩ := hf
              refine ⟨b, G, e, hB.only ho ?_, hG.only ho ?_⟩
              · intro e; subst e; have h1 := hB.1.symm.trans hC.1; simp at h1
              · intro e; subst e; have h1 := hG.1.symm.trans hC.1; simp at h1
            | 0 => exact hf
            | 1 => exact hf
            | 2 => exact hf
            | 3 => exact hf
            | 4 => exact hf
            | 6 => exact hf
            | 8 => exact hf
            | 9 => exact hf
            | 14 => exact hf
            | 5 => exact trivial
            | 7 => exact trivial
            | 12 => exact trivial
            | 13 => exact trivial
            | j + 15 => exact trivial
          · unfold StepGPR; rw [if_pos (by kernel_rfl)]; intro a1 wx L hs hdf hfar hold hI hno hup hdeps K hK; have HOLD := hid hold; clear hold
            have hK := phK_plain (i := 14) (by kernel_rfl) hK
            exact wp_move (.tmp 73) (.inr rfl) _ rfl (hK _ _ (phA_self hI) (phF_self (hdeps 9 (by kernel_rfl) (by kernel_rfl) _ rfl)) (fun _ _ _ _ _ h => h))
        · intro vs wx L hvs hall hI hF
          obtain ⟨v0, r0, rfl, h0r⟩ := list_open hvs
          obtain ⟨v1, r1, rfl, h1r⟩ := list_open h0r
          obtain ⟨v2, r2, rfl, h2r⟩ := list_open h1r
          obtain ⟨v3, r3, rfl, h3r⟩ := list_open h2r
          obtain ⟨v4, r4, rfl, h4r⟩ := list_open h3r
          obtain ⟨v5, r5, rfl, h5r⟩ := list_open h4r
          obtain ⟨v6, r6, rfl, h6r⟩ := list_open h5r
          obtain ⟨v7, r7, rfl, h7r⟩ := list_open h6r
          obtain ⟨v8, r8, rfl, h8r⟩ := list_open h7r
          obtain ⟨v9, r9, rfl, h9r⟩ := list_open h8r
          obtain ⟨v10, r10, rfl, h10r⟩ := list_open h9r
          obtain ⟨v11, r11, rfl, h11r⟩ := list_open h10r
          obtain ⟨v12, r12, rfl, h12r⟩ := list_open h11r
          obtain ⟨v13, r13, rfl, h13r⟩ := list_open h12r
          obtain ⟨v14, r14, rfl, h14r⟩ := list_open h13r
          obtain rfl : r14 = [] := List.eq_nil_of_length_eq_zero h14r
          clear h0r h1r h2r h3r h4r h5r h6r h7r h8r h9r h10r h11r h12r h13r
          have hk : ([12, 13] : List Nat).countP L = 2 := by simp [hall 12 (Nat.le_of_ble_eq_true rfl), hall 13 (Nat.le_of_ble_eq_true rfl)]
          have f0 : v0 = .agg #[.int .i64 t, .int .i64 r, .int .i64 gm] := phF_at hk (hF 0 (Nat.le_of_ble_eq_true rfl))
          have f1 : v1 = vs := phF_at hk (hF 1 (Nat.le_of_ble_eq_true rfl))
          have f2 : v2 = .int .i64 (fm : Int) := phF_at hk (hF 2 (Nat.le_of_ble_eq_true rfl))
          have f3 : v3 = .int .i64 (hi : Int) := phF_at hk (hF 3 (Nat.le_of_ble_eq_true rfl))
          have f4 : v4 = vsub := phF_at hk (hF 4 (Nat.le_of_ble_eq_true rfl))
          have f6 : ∃ G : Nat, v6 = .tuple #[.agg #[.int .i64 3, .slice (some ⟨G, 0, none⟩) q q], .agg #[.int .i64 t, .int .i64 r, .int .i64 g2], .int .i64 0] := phF_at hk (hF 6 (Nat.le_of_ble_eq_true rfl))
          have f8 : v8 = .agg #[.int .i64 t, .int .i64 r, .int .i64 g2] := phF_at hk (hF 8 (Nat.le_of_ble_eq_true rfl))
          have f9 : v9 = .int .i64 0 := phF_at hk (hF 9 (Nat.le_of_ble_eq_true rfl))
          have f10 : ∃ b G : Nat, v10 = .pointer (some ⟨b, 0, none⟩) ∧ NZ wx lo b [.int .i64 3, .slice (some ⟨G, 0, none⟩) q q] 36 ∧ NZ wx lo G (dt.map (Value.int .i32)) 21 := phF_at hk (hF 10 (Nat.le_of_ble_eq_true rfl))
          have f11 : ∃ c : Nat, v11 = .pointer (some ⟨c, 0, none⟩) ∧ NZ wx lo c [.int .i64 t, .int .i64 r, .int .i64 g2] 23 := phF_at hk (hF 11 (Nat.le_of_ble_eq_true rfl))
          have f14 : v14 = .int .i64 0 := phF_at hk (hF 14 (Nat.le_of_ble_eq_true rfl))
          have hS : Below Z.heap.size Z wx ∧ lo = Z.heap.size := phA_at hk hI
          clear hk hI hF hall
          subst f0
          subst f1
          subst f2
          subst f3
          subst f4
          subst f8
          subst f9
          subst f14
          simp only [putVals, List.setIfInBounds_toArray, List.set_cons_zero, List.set_cons_succ]
          obtain ⟨b, G2, rfl, hB, hG2⟩ := f10
          obtain ⟨c2, rfl, hC⟩ := f11
          obtain ⟨hbz, _⟩ := hS
          have hL1 := hHZ.kept hbz
          have hO1 := hOZ.below hbz
          have hI1 := hIZ.below hbz
          have hbc : b ≠ c2 := by intro e; subst e; have h1 := hB.1.symm.trans hC.1; simp at h1
          have hGb : G2 ≠ b := by intro e; subst e; have h1 := hB.1.symm.trans hG2.1; simp at h1
          have hGc : G2 ≠ c2 := by intro e; subst e; have h1 := hC.1.symm.trans hG2.1; simp at h1
          have hltZ := hHZ.live.ltAll
          have hdZ := hHZ.diceAt.lt
          have hWZ := hHZ.size
          have hB2 := hB.2; have hC2 := hC.2; have hG22 := hG2.2
          have hL2 := ((hL1.enter hG2.1 (by omega) (fun d' e => by cases e; omega) (fun x hx => by have := hltZ x hx; omega)).enter hC.1 (by omega) (fun d' e => by cases e; omega) (by
            intro x hx
            rcases List.mem_cons.1 hx with rfl | hx
            · exact hGc
            · have := hltZ x hx; omega)).enter hB.1 (by omega) (fun d' e => by cases e; omega) (by
            intro x hx
            rcases List.mem_cons.1 hx with rfl | hx
            · exact Ne.symm hbc
            rcases List.mem_cons.1 hx with rfl | hx
            · exact hGb
            · have := hltZ x hx; omega)
          clear hHZ hOZ hIZ hB hC hG2 hL1 hltZ hbz HC6 HSU HCR
          have HL2 := hid hL2
          have HO1 := hid hO1
          have HI1 := hid hI1
          clear hL2 hO1 hI1
          go_upto_region 20 with (fail)
          have hJ0 : Lx W wx.drew (some d) [(b, [.int .i64 3, .slice (some ⟨G2, 0, none⟩) q q], 36), (c2, [.int .i64 t, .int .i64 r, .int .i64 g2], 23), (G2, dt.map (Value.int .i32), 21), (B11, [.int .i64 3, .slice p fm c], 36), (B9, [.int .i64 t, .int .i64 r, .int .i64 ge], 23), (B8, [.int .i64 3, .slice (some ⟨G, 0, none⟩) (3 * k) (3 * k)], 36), (G, dat.map (Value.int .i32), 21), (B6, [.int .i64 t, .int .i64 r, .int .i64 gm], 23)] ∧ Sf .i32 wx.drew p fm c dm [B6, B11] ∧ Sf .i64 wx.drew p5 (3 * k) cap5 l2 [B6, B11] := ⟨HL2.out.drew, HO1.out.below ((Below.refl _ _).drew), HI1.out.below ((Below.refl _ _).drew)⟩
          have W9 : True := trivial
          refine wp_region_factsR (ops := [_, _, _, _, _, _, _, _]) (fun _ => none) (phA [5, 6] (FP20A W d B11 B6 B9 B8 G b c2 G2 k cap5 fm hi q c t r gm g2 ge p p5 l2 dat dm dt)) (phF [5, 6] (FP20 W d B11 B6 B9 B8 G b c2 G2 k cap5 fm hi q c t r gm g2 ge p p5 l2 dat dm dt)) (by kernel_rfl) (by kernel_rfl) (by kernel_rfl) (show (FP20A W d B11 B6 B9 B8 G b c2 G2 k cap5 fm hi q c t r gm g2 ge p p5 l2 dat dm dt) 0 _ from hJ0) ?_ (by kernel_rfl) ?_ ?_
          · intro g b h; cases h
          · refine ⟨?_, ?_, ?_, ?_, ?_, ?_, ?_, ?_, trivial⟩
            · unfold StepGPR; rw [if_pos (by kernel_rfl)]; intro a1 wx L hs hdf hfar hold hI hno hup hdeps K hK; have HOLD := hid hold; clear hold
              have hK := phK_plain (i := 0) (by kernel_rfl) hK
              have ef11 : a1.eval (.tmp 11) = .pointer (some ⟨B11, 0, none⟩) := far_eval (hfar 11 (by kernel_rfl)) rfl
              have x1_ := tmp_eval ef11
              have hk : ([5, 6] : List Nat).countP L = 0 := by simp [hno 5 (by kernel_rfl), hno 6 (by kernel_rfl)]
              obtain ⟨hS, _, _⟩ := (show Lx W wx (some d) [(b, [.int .i64 3, .slice (some ⟨G2, 0, none⟩) q q], 36), (c2, [.int .i64 t, .int .i64 r, .int .i64 g2], 23), (G2, dt.map (Value.int .i32), 21), (B11, [.int .i64 3, .slice p fm c], 36), (B9, [.int .i64 t, .int .i64 r, .int .i64 ge], 23), (B8, [.int .i64 3, .slice (some ⟨G, 0, none⟩) (3 * k) (3 * k)], 36), (G, dat.map (Value.int .i32), 21), (B6, [.int .i64 t, .int .i64 r, .int .i64 gm], 23)] ∧ Sf .i32 wx p fm c dm [B6, B11] ∧ Sf .i64 wx p5 (3 * k) cap5 l2 [B6, B11] from phA_at hk hI)
              have cc0 := hS.cell 3 0 rfl rfl
              have cc1 := hS.cell 3 1 rfl rfl
              clear hS
              rw [hk] at hK
              have HI := hid (phA_at hk hI)
              have HK := hid hK
              clear ef11 hk
              clear hdf hs hfar hdeps hI hno hup hK
              go_simp
              exact HK.out _ _ HI.out (by first | rfl | (show _ = _; simp [*]; done)) (fun _ _ _ _ _ h => h)
            · unfold StepGPR; rw [if_pos (by kernel_rfl)]; intro a1 wx L hs hdf hfar hold hI hno hup hdeps K hK; have HOLD := hid hold; clear hold
              have hK := phK_plain (i := 1) (by kernel_rfl) hK
              have ef15 : a1.eval (.tmp 15) = .pointer (some ⟨b, 0, none⟩) := far_eval (hfar 15 (by kernel_rfl)) rfl
              have x1_ := tmp_eval ef15
              have hk : ([5, 6] : List Nat).countP L = 0 := by simp [hno 5 (by kernel_rfl), hno 6 (by kernel_rfl)]
              obtain ⟨hS, _, _⟩ := (show Lx W wx (some d) [(b, [.int .i64 3, .slice (some ⟨G2, 0, none⟩) q q], 36), (c2, [.int .i64 t, .int .i64 r, .int .i64 g2], 23), (G2, dt.map (Value.int .i32), 21), (B11, [.int .i64 3, .slice p fm c], 36), (B9, [.int .i64 t, .int .i64 r, .int .i64 ge], 23), (B8, [.int .i64 3, .slice (some ⟨G, 0, none⟩) (3 * k) (3 * k)], 36), (G, dat.map (Value.int .i32), 21), (B6, [.int .i64 t, .int .i64 r, .int .i64 gm], 23)] ∧ Sf .i32 wx p fm c dm [B6, B11] ∧ Sf .i64 wx p5 (3 * k) cap5 l2 [B6, B11] from phA_at hk hI)
              have cc0 := hS.cell 0 0 rfl rfl
              have cc1 := hS.cell 0 1 rfl rfl
              clear hS
              rw [hk] at hK
              have HI := hid (phA_at hk hI)
              have HK := hid hK
              clear ef15 hk
              clear hdf hs hfar hdeps hI hno hup hK
              go_simp
              exact HK.out _ _ HI.out (by first | rfl | (show _ = _; simp [*]; done)) (fun _ _ _ _ _ h => h)
            · unfold StepGPR; rw [if_pos (by kernel_rfl)]; intro a1 wx L hs hdf hfar hold hI hno hup hdeps K hK; have HOLD := hid hold; clear hold
              have hK := phK_plain (i := 2) (by kernel_rfl) hK
              have hk : ([5, 6] : List Nat).countP L = 0 := by simp [hno 5 (by kernel_rfl), hno 6 (by kernel_rfl)]
              obtain ⟨hS, hO, hQ⟩ := (show Lx W wx (some d) [(b, [.int .i64 3, .slice (some ⟨G2, 0, none⟩) q q], 36), (c2, [.int .i64 t, .int .i64 r, .int .i64 g2], 23), (G2, dt.map (Value.int .i32), 21), (B11, [.int .i64 3, .slice p fm c], 36), (B9, [.int .i64 t, .int .i64 r, .int .i64 ge], 23), (B8, [.int .i64 3, .slice (some ⟨G, 0, none⟩) (3 * k) (3 * k)], 36), (G, dat.map (Value.int .i32), 21), (B6, [.int .i64 t, .int .i64 r, .int .i64 gm], 23)] ∧ Sf .i32 wx p fm c dm [B6, B11] ∧ Sf .i64 wx p5 (3 * k) cap5 l2 [B6, B11] from phA_at hk hI)
              obtain e1 := (show (a1.eval (.tmp 76)) = .agg #[.int .i64 3, .slice p fm c] from phF_at hk (hdeps 0 (by kernel_rfl) (by kernel_rfl) _ rfl))
              obtain e2 := (show (a1.eval (.tmp 77)) = .agg #[.int .i64 3, .slice (some ⟨G2, 0, none⟩) q q] from phF_at hk (hdeps 1 (by kernel_rfl) (by kernel_rfl) _ rfl))
              rw [hk] at hK
              refine wp_fn 22 [.tmp 76, .tmp 77] _ rfl [.agg #[.int .i64 3, .slice p fm c], .agg #[.int .i64 3, .slice (some ⟨G2, 0, none⟩) q q]] (by simp only [List.map_cons, List.map_nil, e1, e2]) enter_join (join_any 3 3 p fm c dm (some ⟨G2, 0, none⟩) q q dt wx hO.1 (sl_of_blk (hS.blk 2 rfl) HDW.out q HDQ.out (by unfold maxLen; omega)) (by omega)) ?_
              rintro e wy ⟨va, rfl, hla⟩
              have hrow := hla.row.lt
              obtain ⟨pn, cn, rfl, hsl, hpn⟩ := hla.sl HDD.out
              have hb := hla.lx.below
              rw [HQ.out] at hsl hrow
              have hl6 := hS.lt 7 rfl
              have hl11 := hS.lt 3 rfl
              refine ⟨_, rfl, hK _ wy ⟨hS.kept hb, hO.below hb, hQ.below hb⟩ ⟨pn, cn, by rw [← HQ.out]; rfl, hsl, fun ad e hm => by have := (hpn ad e).1; simp at hm; omega⟩ ?_⟩
              intro j oj hj hji hl hf
              match j with
              | 2 => exact absurd rfl hji
              | 0 => exact hf
              | 1 => exact hf
              | 3 => exact hf
              | 4 => exact hf
              | 7 => exact hf
              | 5 => exact trivial
              | 6 => exact trivial
              | j + 8 => exact trivial
            · unfold StepGPR; rw [if_pos (by kernel_rfl)]; intro a1 wx L hs hdf hfar hold hI hno hup hdeps K hK; have HOLD := hid hold; clear hold
              have hK := phK_plain (i := 3) (by kernel_rfl) hK
              have ef16 : a1.eval (.tmp 16) = .pointer (some ⟨c2, 0, none⟩) := far_eval (hfar 16 (by kernel_rfl)) rfl
              have x1_ := tmp_eval ef16
              obtain ⟨cc0, cc1, cc2⟩ := FP20A_c (phA_self hI)
              have HI := hid (phA_self hI)
              have HK := hid hK
              clear ef16
              clear hdf hs hfar hdeps hI hno hup hK
              go_simp
              exact HK.out _ _ HI.out (by first | rfl | (show _ = _; simp [*]; done)) (fun _ _ _ _ _ h => h)
            · unfold StepGPR; rw [if_pos (by kernel_rfl)]; intro a1 wx L hs hdf hfar hold hI hno hup hdeps K hK; have HOLD := hid hold; clear hold
              have hK := phK_plain (i := 4) (by kernel_rfl) hK
              exact wp_move (.tmp 14) (.inl rfl) _ (far_eval (hfar 14 (by kernel_rfl)) rfl) (hK _ _ (phA_self hI) (by first | rfl | trivial) (fun _ _ _ _ _ h => h))
            · unfold StepGPR; rw [if_pos (by kernel_rfl)]; intro a1 wx L hs hdf hfar hold hI hno hup hdeps K hK; have HOLD := hid hold; clear hold
              have hk : ([5, 6] : List Nat).countP L = 0 := by simp [hno 5 (by kernel_rfl), hno 6 (by kernel_rfl)]
              have hK := phK_write (i := 5) 0 hk (by rw [phN_count (by kernel_rfl) (hno 5 (by kernel_rfl)), hk]) hK
              obtain ⟨hS, hO, hQ⟩ := (show Lx W wx (some d) [(b, [.int .i64 3, .slice (some ⟨G2, 0, none⟩) q q], 36), (c2, [.int .i64 t, .int .i64 r, .int .i64 g2], 23), (G2, dt.map (Value.int .i32), 21), (B11, [.int .i64 3, .slice p fm c], 36), (B9, [.int .i64 t, .int .i64 r, .int .i64 ge], 23), (B8, [.int .i64 3, .slice (some ⟨G, 0, none⟩) (3 * k) (3 * k)], 36), (G, dat.map (Value.int .i32), 21), (B6, [.int .i64 t, .int .i64 r, .int .i64 gm], 23)] ∧ Sf .i32 wx p fm c dm [B6, B11] ∧ Sf .i64 wx p5 (3 * k) cap5 l2 [B6, B11] from phA_at hk hI)
              obtain ⟨pn, cn, e2, hN⟩ := (show ∃ (pn : Option Addr) (cn : Nat), (a1.eval (.tmp 78)) = .agg #[.int .i64 3, .slice pn hi cn] ∧ Sf .i32 wx pn hi cn (dm ++ dt) [B6, B11] from phF_at hk (hdeps 2 (by kernel_rfl) (by kernel_rfl) _ rfl))
              have e11 : a1.eval (.tmp 11) = .pointer (some ⟨B11, 0, none⟩) := far_eval (hfar 11 (by kernel_rfl)) rfl
              refine wp_store_blk _ _ _ rfl B11 e11 [.int .i64 3, .slice pn hi cn] e2 _ _ (hS.blk 3 rfl) rfl (by kernel_rfl) (by intro v hv; simp at hv; rcases hv with rfl | rfl <;> rfl) ?_
              intro w' hb' ho
              have hl4 := hS.onlySet 3 rfl ho hb'
              simp only [List.set_cons_zero, List.set_cons_succ] at hl4
              refine hK undef w' ⟨pn, cn, hl4, hN.only ho (by simp), hQ.only ho (by simp)⟩ trivial ?_
              intro j oj hj hji hl hf
              match j with
              | 5 => exact absurd rfl hji
              | 6 => exact trivial
              | 2 => obtain ⟨pn, cn, e, h⟩ := hf; exact ⟨pn, cn, e, h.only ho (by simp)⟩
              | 0 => exact hf
              | 1 => exact hf
              | 3 => exact hf
              | 4 => exact hf
              | 7 => exact hf
              | j + 8 => exact trivial
            · unfold StepGPR; rw [if_pos (by kernel_rfl)]; intro a1 wx L hs hdf hfar hold hI hno hup hdeps K hK; have HOLD := hid hold; clear hold
              have hk : ([5, 6] : List Nat).countP L = 1 := by simp [hup 5 (by kernel_rfl) (by kernel_rfl), hno 6 (by kernel_rfl)]
              have hK := phK_write (i := 6) 1 hk (by rw [phN_count (by kernel_rfl) (hno 6 (by kernel_rfl)), hk]) hK
              obtain ⟨pn, cn, hS, hO, hQ⟩ := (show ∃ (pn : Option Addr) (cn : Nat), Lx W wx (some d) [(b, [.int .i64 3, .slice (some ⟨G2, 0, none⟩) q q], 36), (c2, [.int .i64 t, .int .i64 r, .int .i64 g2], 23), (G2, dt.map (Value.int .i32), 21), (B11, [.int .i64 3, .slice pn hi cn], 36), (B9, [.int .i64 t, .int .i64 r, .int .i64 ge], 23), (B8, [.int .i64 3, .slice (some ⟨G, 0, none⟩) (3 * k) (3 * k)], 36), (G, dat.map (Value.int .i32), 21), (B6, [.int .i64 t, .int .i64 r, .int .i64 gm], 23)] ∧ Sf .i32 wx pn hi cn (dm ++ dt) [B6, B11] ∧ Sf .i64 wx p5 (3 * k) cap5 l2 [B6, B11] from phA_at hk hI)
              obtain e2 := (show (a1.eval (.tmp 79)) = .agg #[.int .i64 t, .int .i64 r, .int .i64 g2] from phF_at hk (hdeps 3 (by kernel_rfl) (by kernel_rfl) _ rfl))
              have e6 : a1.eval (.tmp 6) = .pointer (some ⟨B6, 0, none⟩) := far_eval (hfar 6 (by kernel_rfl)) rfl
              refine wp_store_blk _ _ _ rfl B6 e6 [.int .i64 t, .int .i64 r, .int .i64 g2] e2 _ _ (hS.blk 7 rfl) rfl (by kernel_rfl) (by intro v hv; simp at hv; rcases hv with rfl | rfl | rfl <;> rfl) ?_
              intro w' hb' ho
              have hl4 := hS.onlySet 7 rfl ho hb'
              simp only [List.set_cons_zero, List.set_cons_succ] at hl4
              refine hK undef w' ⟨pn, cn, hl4, hO.only ho (by simp), hQ.only ho (by simp)⟩ trivial ?_
              intro j oj hj hji hl hf
              match j with
              | 6 => exact absurd rfl hji
              | 5 => exact trivial
              | 2 => obtain ⟨pn, cn, e, h⟩ := hf; exact ⟨pn, cn, e, h.only ho (by simp)⟩
              | 0 => exact hf
              | 1 => exact hf
              | 3 => exact hf
              | 4 => exact hf
              | 7 => exact hf
              | j + 8 => exact trivial
            · unfold StepGPR; rw [if_pos (by kernel_rfl)]; intro a1 wx L hs hdf hfar hold hI hno hup hdeps K hK; have HOLD := hid hold; clear hold
              have hK := phK_plain (i := 7) (by kernel_rfl) hK
              exact wp_move (.tmp 80) (.inr rfl) _ rfl (hK _ _ (phA_self hI) (phF_self (hdeps 4 (by kernel_rfl) (by kernel_rfl) _ rfl)) (fun _ _ _ _ _ h => h))
          · intro vs wx L hvs hall hI hF
            obtain ⟨v0, r0, rfl, h0r⟩ := list_open hvs
            obtain ⟨v1, r1, rfl, h1r⟩ := list_open h0r
            obtain ⟨v2, r2, rfl, h2r⟩ := list_open h1r
            obtain ⟨v3, r3, rfl, h3r⟩ := list_open h2r
            obtain ⟨v4, r4, rfl, h4r⟩ := list_open h3r
            obtain ⟨v5, r5, rfl, h5r⟩ := list_open h4r
            obtain ⟨v6, r6, rfl, h6r⟩ := list_open h5r
            obtain ⟨v7, r7, rfl, h7r⟩ := list_open h6r
            obtain rfl : r7 = [] := List.eq_nil_of_length_eq_zero h7r
            clear h0r h1r h2r h3r h4r h5r h6r
            have hk : ([5, 6] : List Nat).countP L = 2 := by simp [hall 5 (Nat.le_of_ble_eq_true rfl), hall 6 (Nat.le_of_ble_eq_true rfl)]
            have f0 : v0 = .agg #[.int .i64 3, .slice p fm c] := phF_at hk (hF 0 (Nat.le_of_ble_eq_true rfl))
            have f1 : v1 = .agg #[.int .i64 3, .slice (some ⟨G2, 0, none⟩) q q] := phF_at hk (hF 1 (Nat.le_of_ble_eq_true rfl))
            have f2 : ∃ (pn : Option Addr) (cn : Nat), v2 = .agg #[.int .i64 3, .slice pn hi cn] ∧ Sf .i32 wx pn hi cn (dm ++ dt) [B6, B11] := phF_at hk (hF 2 (Nat.le_of_ble_eq_true rfl))
            have f3 : v3 = .agg #[.int .i64 t, .int .i64 r, .int .i64 g2] := phF_at hk (hF 3 (Nat.le_of_ble_eq_true rfl))
            have f4 : v4 = .int .i64 (hi : Int) := phF_at hk (hF 4 (Nat.le_of_ble_eq_true rfl))
            have f7 : v7 = .int .i64 (hi : Int) := phF_at hk (hF 7 (Nat.le_of_ble_eq_true rfl))
            have hS : ∃ (pn : Option Addr) (cn : Nat), Lx W wx (some d) [(b, [.int .i64 3, .slice (some ⟨G2, 0, none⟩) q q], 36), (c2, [.int .i64 t, .int .i64 r, .int .i64 g2], 23), (G2, dt.map (Value.int .i32), 21), (B11, [.int .i64 3, .slice pn hi cn], 36), (B9, [.int .i64 t, .int .i64 r, .int .i64 ge], 23), (B8, [.int .i64 3, .slice (some ⟨G, 0, none⟩) (3 * k) (3 * k)], 36), (G, dat.map (Value.int .i32), 21), (B6, [.int .i64 t, .int .i64 r, .int .i64 g2], 23)] ∧ Sf .i32 wx pn hi cn (dm ++ dt) [B6, B11] ∧ Sf .i64 wx p5 (3 * k) cap5 l2 [B6, B11] := phA_at hk hI
            clear hk hI hF hall
            subst f0
            subst f1
            subst f3
            subst f4
            subst f7
            simp only [putVals, List.setIfInBounds_toArray, List.set_cons_zero, List.set_cons_succ]
            obtain ⟨pn, cn, hl9, ho9, hi9⟩ := hS
            have K1 := hid (hl9.sub (L' := [(B11, [.int .i64 3, .slice pn hi cn], 36), (B9, [.int .i64 t, .int .i64 r, .int .i64 ge], 23), (B8, [.int .i64 3, .slice (some ⟨G, 0, none⟩) (3 * k) (3 * k)], 36), (G, dat.map (Value.int .i32), 21), (B6, [.int .i64 t, .int .i64 r, .int .i64 (g2)], 23)]) (by exact ((List.Sublist.refl _).cons _).cons _ |>.cons _))
            have K2 := hid ho9
            have K3 := hid hi9
            clear hl9 ho9 hi9 f2
            rw [← HV.out]
            go_wp2_with fail
            go_roundw
            case rel => exact ⟨mt, x + 1, pn, cn, by omega, by omega, by go_num, by rw [HHI.out], by omega, by rw [HADD.out, HHI.out]; exact K1, by rw [HADD.out, HHI.out]; exact K2, K3⟩
            case measure => simp [intOf] <;> omega
      · have hkb2 : decide ((x : Int) < (len1 : Int)) = false := by simp; omega
        go_upto_region 17 with (fail)
        obtain ⟨mt, hmn, hm1, hm2, hm3⟩ : ∃ mt : Nat, 3 * (k : Int) = ((3 * mt : Nat) : Int) ∧ m ≤ mt ∧ mt ≤ k ∧ (x = len1 → mt = k) := ⟨k, by omega, by omega, by omega, by omega⟩
        rw [hmn]
        clear hmn
        obtain ⟨gm, hgm⟩ : ∃ gm, (runL 3 t r m g l2).2 = gm := ⟨_, rfl⟩
        obtain ⟨dm, hdm⟩ : ∃ dm, (runL 3 t r m g l2).1 = dm := ⟨_, rfl⟩
        rw [hgm] at HL
        rw [hdm] at HO
        have hgb := runL_gain 3 HT.out HR.out m g l2 HG.out HLS.out
        rw [hgm] at hgb
        have hadd := runL_add 3 t r m (mt - m) g l2
        rw [show m + (mt - m) = mt by omega, hgm, hdm] at hadd
        obtain ⟨ps, qs, hsu, hslu, _⟩ := run_part (P := Try.prog) (t := 24) (e := 2) Try.underlying24 (by kernel_rfl) (by kernel_rfl) HI5.out.1 .i64 .i64 (3 * m) (3 * mt) (by omega) (by omega)
        rw [show l2.drop (3 * m) = l2.drop (m * 3) by rw [Nat.mul_comm]] at hslu
        have hsb : ∀ s ∈ (l2.drop (m * 3)).take (3 * mt - 3 * m), -1099511627776 ≤ s ∧ s ≤ 1099511627776 := fun s hs => HLS.out s (mem_frame hs)
        have htk : runL 3 t r (mt - m) gm ((l2.drop (m * 3)).take (3 * mt - 3 * m)) = runL 3 t r (mt - m) gm (l2.drop (m * 3)) := runL_take 3 t r (mt - m) gm _ _ (by omega)
        rw [← htk] at hadd
        have hdl := runL_len 3 t r (mt - m) gm ((l2.drop (m * 3)).take (3 * mt - 3 * m)) (by rw [List.length_take, List.length_drop, HLL.out]; omega)
        have hds := runL_sample 3 t r (mt - m) gm ((l2.drop (m * 3)).take (3 * mt - 3 * m))
        have hds1 := runL_sample 3 t r m g l2
        rw [hdm] at hds1
        obtain ⟨subl, hsubl⟩ : ∃ subl, (l2.drop (m * 3)).take (3 * mt - 3 * m) = subl := ⟨_, rfl⟩
        rw [hsubl] at hslu hsb hadd hdl hds
        obtain ⟨g2, hg2⟩ : ∃ g2, (runL 3 t r (mt - m) gm subl).2 = g2 := ⟨_, rfl⟩
        obtain ⟨dt, hdt⟩ : ∃ dt, (runL 3 t r (mt - m) gm subl).1 = dt := ⟨_, rfl⟩
        rw [hg2, hdt] at hadd
        rw [hdt] at hdl hds
        obtain ⟨q, hq⟩ : ∃ q, 3 * mt - 3 * m = q := ⟨_, rfl⟩
        obtain ⟨fm, hfm⟩ : ∃ fm, 3 * m = fm := ⟨_, rfl⟩
        obtain ⟨hi, hhi⟩ : ∃ hi, 3 * mt = hi := ⟨_, rfl⟩
        rw [hq] at hslu hsu
        rw [hfm, hhi] at hsu
        rw [hfm] at HL HO
        have HQ := hid (show fm + q = hi by omega)
        have HDQ := hid (show dt.length = q by omega)
        have hqb : fm + q ≤ 1000 := by omega
        have hwfs : ∀ (z : List Int), (∀ s ∈ z, -8388608 ≤ s ∧ s ≤ 8388607) → ∀ n ∈ z, (Lit.int .i32 n).wf = true := by
          intro z hz n hn
          have h0 := hz n hn
          have e : wrap32 n = n := by unfold wrap32; omega
          have h2 := wrap32_wf n
          rw [e] at h2
          exact h2
        have HDW := hid (hwfs dt hds)
        have HDD := hid (hwfs (dm ++ dt) (fun s hs => by rcases List.mem_append.1 hs with h | h; exact hds1 s h; exact hds s h))
        have HADD := hid hadd
        have HHI := hid hhi
        obtain ⟨vsub, hvsub⟩ : ∃ vsub, Value.slice ps q qs = vsub := ⟨_, rfl⟩
        obtain ⟨vs, hvs⟩ : ∃ vs, Value.slice p5 (3 * k) cap5 = vs := ⟨_, rfl⟩
        obtain ⟨Z, hZ⟩ : ∃ Z, wo.drew = Z := ⟨_, rfl⟩
        have hwZ : Below wo.heap.size wo Z := hZ ▸ (Below.refl _ _).drew
        have hHZ := HL.out.kept hwZ
        have hOZ := HO.out.below hwZ
        have hIZ := HI5.out.below hwZ
        obtain ⟨lo, hlo0⟩ : ∃ lo, lo = Z.heap.size := ⟨_, rfl⟩
        have hl6 := hHZ.lt 4 rfl
        have HC6 := hid (show Z.cell? ⟨B6, 0, none⟩ = some (.int .i64 t) ∧ Z.cell? ⟨B6, 1, none⟩ = some (.int .i64 r) ∧ Z.cell? ⟨B6, 2, none⟩ = some (.int .i64 gm) from ⟨hHZ.cell 4 0 rfl rfl, hHZ.cell 4 1 rfl rfl, hHZ.cell 4 2 rfl rfl⟩)
        rw [hvs, hvsub] at hsu
        have HSU := hid hsu
        have HCR := hid (fun (w' : World) (hb : Below Z.heap.size Z w') => lrun_w t r gm 3 3 (mt - m) q ps qs subl w' rfl (by omega) HT.out HR.out hgb (by omega) (by omega) ((hslu.below hwZ).below hb) hsb)
        simp only [hg2, hdt, hvsub] at HCR
        simp only [hfm, hhi, hvs]
        have HV := hid hvs
        clear hsu hslu hsb htk hdl hds hds1 hgm hdm hg2 hdt hfm hhi hvs hvsub hq hsubl hgb hadd hwfs HL HO HI5
        have hI0 : Below Z.heap.size Z wo.drew ∧ lo = Z.heap.size := by rw [hZ]; exact ⟨Below.refl _ _, hlo0⟩
        refine wp_region_factsR (ops := [_, _, _, _, _, _, _, _, _, _, _, _, _, _, _]) (fun _ => none) (phA [12, 13] (FP17A Z lo B6 t r gm g2 vs vsub fm hi q dt)) (phF [12, 13] (FP17 Z lo B6 t r gm g2 vs vsub fm hi q dt)) (by kernel_rfl) (by kernel_rfl) (by kernel_rfl) (show (FP17A Z lo B6 t r gm g2 vs vsub fm hi q dt) 0 _ from hI0) ?_ (by kernel_rfl) ?_ ?_
        · intro g b h; cases h
        · refine ⟨?_, ?_, ?_, ?_, ?_, ?_, ?_, ?_, ?_, ?_, ?_, ?_, ?_, ?_, ?_, trivial⟩
          · unfold StepGPR; rw [if_pos (by kernel_rfl)]; intro a1 wx L hs hdf hfar hold hI hno hup hdeps K hK; have HOLD := hid hold; clear hold
            have hK := phK_plain (i := 0) (by kernel_rfl) hK
            have ef6 : a1.eval (.tmp 6) = .pointer (some ⟨B6, 0, none⟩) := far_eval (hfar 6 (by kernel_rfl)) rfl
            have x1_ := tmp_eval ef6
            obtain ⟨hbz, hlo⟩ := (show Below Z.heap.size Z wx ∧ lo = Z.heap.size from hI)
            obtain ⟨c0, c1, c2⟩ := HC6.out
            have c0 := (bcell hbz).1 B6 0 (by omega) |>.trans c0
            have c1 := (bcell hbz).1 B6 1 (by omega) |>.trans c1
            have c2 := (bcell hbz).1 B6 2 (by omega) |>.trans c2
            have HI := hid (phA_self hI)
            have HK := hid hK
            clear ef6 hbz hlo
            clear hdf hs hfar hdeps hI hno hup hK
            go_simp
            exact HK.out _ _ HI.out (by first | rfl | (show _ = _; simp [*]; done)) (fun _ _ _ _ _ h => h)
          · unfold StepGPR; rw [if_pos (by kernel_rfl)]; intro a1 wx L hs hdf hfar hold hI hno hup hdeps K hK; have HOLD := hid hold; clear hold
            have hK := phK_plain (i := 1) (by kernel_rfl) hK
            exact wp_move (.tmp 7) (.inl rfl) _ (far_eval (hfar 7 (by kernel_rfl)) rfl) (hK _ _ (phA_self hI) (by first | rfl | trivial) (fun _ _ _ _ _ h => h))
          · unfold StepGPR; rw [if_pos (by kernel_rfl)]; intro a1 wx L hs hdf hfar hold hI hno hup hdeps K hK; have HOLD := hid hold; clear hold
            have hK := phK_plain (i := 2) (by kernel_rfl) hK
            exact wp_move (.tmp 12) (.inl rfl) _ (far_eval (hfar 12 (by kernel_rfl)) rfl) (hK _ _ (phA_self hI) (by first | rfl | trivial) (fun _ _ _ _ _ h => h))
          · unfold StepGPR; rw [if_pos (by kernel_rfl)]; intro a1 wx L hs hdf hfar hold hI hno hup hdeps K hK; have HOLD := hid hold; clear hold
            have hK := phK_plain (i := 3) (by kernel_rfl) hK
            exact wp_move (.tmp 14) (.inl rfl) _ (far_eval (hfar 14 (by kernel_rfl)) rfl) (hK _ _ (phA_self hI) (by first | rfl | trivial) (fun _ _ _ _ _ h => h))
          · unfold StepGPR; rw [if_pos (by kernel_rfl)]; intro a1 wx L hs hdf hfar hold hI hno hup hdeps K hK; have HOLD := hid hold; clear hold
            have hK := phK_plain (i := 4) (by kernel_rfl) hK
            obtain e1 := (show (a1.eval (.tmp 66)) = vs from phF_self (hdeps 1 (by kernel_rfl) (by kernel_rfl) _ rfl))
            obtain e2 := (show (a1.eval (.tmp 67)) = .int .i64 (fm : Int) from phF_self (hdeps 2 (by kernel_rfl) (by kernel_rfl) _ rfl))
            obtain e3 := (show (a1.eval (.tmp 68)) = .int .i64 (hi : Int) from phF_self (hdeps 3 (by kernel_rfl) (by kernel_rfl) _ rfl))
            refine wp_value _ ?_ (hK vsub wx (phA_self hI) rfl (fun _ _ _ _ _ h => h))
            unfold execOp
            simp only [Option.map_some, Option.map_none, e1, e2, e3, Sem.run_bind, HSU.out, Result.andThen_ok, Sem.run_pure]
          · unfold StepGPR; rw [if_pos (by kernel_rfl)]; intro a1 wx L hs hdf hfar hold hI hno hup hdeps K hK; have HOLD := hid hold; clear hold
            have hK := phK_plain (i := 5) (by kernel_rfl) hK
            have hk : ([12, 13] : List Nat).countP L = 0 := by simp [hno 12 (by kernel_rfl), hno 13 (by kernel_rfl)]
            obtain ⟨hbz, hlo⟩ := (show Below Z.heap.size Z wx ∧ lo = Z.heap.size from hI)
            obtain e1 := (show (a1.eval (.tmp 65)) = .agg #[.int .i64 t, .int .i64 r, .int .i64 gm] from phF_at hk (hdeps 0 (by kernel_rfl) (by kernel_rfl) _ rfl))
            obtain e2 := (show (a1.eval (.tmp 69)) = vsub from phF_at hk (hdeps 4 (by kernel_rfl) (by kernel_rfl) _ rfl))
            rw [hk] at hK
            refine wp_fn 12 [.tmp 65, .const (.int .i64 3), .tmp 69] _ rfl [.agg #[.int .i64 t, .int .i64 r, .int .i64 gm], .int .i64 3, vsub] (by simp only [List.map_cons, List.map_nil, e1, e2]; rfl) enter_run (HCR.out wx hbz) ?_
            rintro e wy ⟨G, rfl, hB, hG, hb⟩
            have hbl := hbz.size
            have hM := (show ∀ (k j : Nat) (u : Value), FP17 Z lo B6 t r gm g2 vs vsub fm hi q dt k j u wx → FP17 Z lo B6 t r gm g2 vs vsub fm hi q dt k j u wy from FP17_below hb)
            refine ⟨_, rfl, hK _ wy ⟨hbz.trans (hb.mono hbz.size), hlo⟩ ⟨G, rfl, hB, by omega⟩ (fun j oj _ _ _ h => hM _ _ _ h)⟩
          · unfold StepGPR; rw [if_pos (by kernel_rfl)]; intro a1 wx L hs hdf hfar hold hI hno hup hdeps K hK; have HOLD := hid hold; clear hold
            have hK := phK_plain (i := 6) (by kernel_rfl) hK
            have hk : ([12, 13] : List Nat).countP L = 0 := by simp [hno 12 (by kernel_rfl), hno 13 (by kernel_rfl)]
            obtain ⟨G, e1, hB⟩ := (show ∃ G : Nat, (a1.eval (.tmp 70)) = .tuple #[.agg #[.int .i64 3, .slice (some ⟨G, 0, none⟩) q q], .agg #[.int .i64 t, .int .i64 r, .int .i64 g2], .int .i64 0] ∧ NZ wx lo G (dt.map (Value.int .i32)) 21 from phF_at hk (hdeps 5 (by kernel_rfl) (by kernel_rfl) _ rfl))
            rw [hk] at hK
            exact wp_move (.tmp 70) (.inl rfl) _ e1 (hK _ _ (phA_at hk hI) ⟨G, rfl, hB⟩ (fun _ _ _ _ _ h => h))
          · unfold StepGPR; rw [if_pos (by kernel_rfl)]; intro a1 wx L hs hdf hfar hold hI hno hup hdeps K hK; have HOLD := hid hold; clear hold
            have hK := phK_plain (i := 7) (by kernel_rfl) hK
            have hk : ([12, 13] : List Nat).countP L = 0 := by simp [hno 12 (by kernel_rfl), hno 13 (by kernel_rfl)]
            obtain ⟨G, e1, hB⟩ := (show ∃ G : Nat, (a1.eval (.tmp 64)) = .tuple #[.agg #[.int .i64 3, .slice (some ⟨G, 0, none⟩) q q], .agg #[.int .i64 t, .int .i64 r, .int .i64 g2], .int .i64 0] ∧ NZ wx lo G (dt.map (Value.int .i32)) 21 from phF_at hk (hdeps 6 (by kernel_rfl) (by kernel_rfl) _ rfl))
            rw [hk] at hK
            have x1_ := tmp_eval e1
            have HI := hid (phA_at hk hI)
            have HK := hid hK
            have HB := hid hB
            clear e1 hB hk
            clear hdf hs hfar hdeps hI hno hup hK
            go_simp
            exact HK.out _ _ HI.out ⟨G, rfl, HB.out⟩ (fun _ _ _ _ _ h => h)
          · unfold StepGPR; rw [if_pos (by kernel_rfl)]; intro a1 wx L hs hdf hfar hold hI hno hup hdeps K hK; have HOLD := hid hold; clear hold
            have hK := phK_plain (i := 8) (by kernel_rfl) hK
            obtain ⟨G, e1⟩ := (show ∃ G : Nat, (a1.eval (.tmp 64)) = .tuple #[.agg #[.int .i64 3, .slice (some ⟨G, 0, none⟩) q q], .agg #[.int .i64 t, .int .i64 r, .int .i64 g2], .int .i64 0] from FP17_6 (phF_self (hdeps 6 (by kernel_rfl) (by kernel_rfl) _ rfl)))
            have x1_ := tmp_eval e1
            have HI := hid (phA_self hI)
            have HK := hid hK
            clear e1
            clear hdf hs hfar hdeps hI hno hup hK
            go_simp
            exact HK.out _ _ HI.out rfl (fun _ _ _ _ _ h => h)
          · unfold StepGPR; rw [if_pos (by kernel_rfl)]; intro a1 wx L hs hdf hfar hold hI hno hup hdeps K hK; have HOLD := hid hold; clear hold
            have hK := phK_plain (i := 9) (by kernel_rfl) hK
            obtain ⟨G, e1⟩ := (show ∃ G : Nat, (a1.eval (.tmp 64)) = .tuple #[.agg #[.int .i64 3, .slice (some ⟨G, 0, none⟩) q q], .agg #[.int .i64 t, .int .i64 r, .int .i64 g2], .int .i64 0] from FP17_6 (phF_self (hdeps 6 (by kernel_rfl) (by kernel_rfl) _ rfl)))
            have x1_ := tmp_eval e1
            have HI := hid (phA_self hI)
            have HK := hid hK
            clear e1
            clear hdf hs hfar hdeps hI hno hup hK
            go_simp
            exact HK.out _ _ HI.out rfl (fun _ _ _ _ _ h => h)
          · unfold StepGPR; rw [if_pos (by kernel_rfl)]; intro a1 wx L hs hdf hfar hold hI hno hup hdeps K hK; have HOLD := hid hold; clear hold
            have hK := phK_plain (i := 10) (by kernel_rfl) hK
            have hk : ([12, 13] : List Nat).countP L = 0 := by simp [hno 12 (by kernel_rfl), hno 13 (by kernel_rfl)]
            obtain ⟨hbz, hlo⟩ := (show Below Z.heap.size Z wx ∧ lo = Z.heap.size from hI)
            have hbl := hbz.size
            have hb : Below wx.heap.size wx (wx.alloc (.cells #[.int .i64 0, .slice none 0 0] 36)) := by go_grown
            have hB : NZ (wx.alloc (.cells #[.int .i64 0, .slice none 0 0] 36)) lo wx.heap.size [.int .i64 0, .slice none 0 0] 36 := ⟨Blk.alloc_new wx [.int .i64 0, .slice none 0 0] 36, by omega⟩
            have hM := (show ∀ (k j : Nat) (u : Value), FP17 Z lo B6 t r gm g2 vs vsub fm hi q dt k j u wx → FP17 Z lo B6 t r gm g2 vs vsub fm hi q dt k j u (wx.alloc (.cells #[.int .i64 0, .slice none 0 0] 36)) from FP17_below hb)
            have HI := hid (show Below Z.heap.size Z (wx.alloc (.cells #[.int .i64 0, .slice none 0 0] 36)) ∧ lo = Z.heap.size from ⟨hbz.trans (hb.mono hbz.size), hlo⟩)
            have HM := hid hM
            have HB := hid hB
            have HK := hid hK
            rw [hk] at HK
            clear hk
            clear hbz hbl hb hB hM
            clear hdf hs hfar hdeps hI hno hup hK
            go_simp
            exact HK.out _ _ HI.out ⟨_, rfl, HB.out⟩ (fun j oj _ _ _ h => HM.out _ _ _ h)
          · unfold StepGPR; rw [if_pos (by kernel_rfl)]; intro a1 wx L hs hdf hfar hold hI hno hup hdeps K hK; have HOLD := hid hold; clear hold
            have hK := phK_plain (i := 11) (by kernel_rfl) hK
            have hk : ([12, 13] : List Nat).countP L = 0 := by simp [hno 12 (by kernel_rfl), hno 13 (by kernel_rfl)]
            obtain ⟨hbz, hlo⟩ := (show Below Z.heap.size Z wx ∧ lo = Z.heap.size from hI)
            have hbl := hbz.size
            have hb : Below wx.heap.size wx (wx.alloc (.cells #[.int .i64 0, .int .i64 0, .int .i64 0] 23)) := by go_grown
            have hB : NZ (wx.alloc (.cells #[.int .i64 0, .int .i64 0, .int .i64 0] 23)) lo wx.heap.size [.int .i64 0, .int .i64 0, .int .i64 0] 23 := ⟨Blk.alloc_new wx [.int .i64 0, .int .i64 0, .int .i64 0] 23, by omega⟩
            have hM := (show ∀ (k j : Nat) (u : Value), FP17 Z lo B6 t r gm g2 vs vsub fm hi q dt k j u wx → FP17 Z lo B6 t r gm g2 vs vsub fm hi q dt k j u (wx.alloc (.cells #[.int .i64 0, .int .i64 0, .int .i64 0] 23)) from FP17_below hb)
            have HI := hid (show Below Z.heap.size Z (wx.alloc (.cells #[.int .i64 0, .int .i64 0, .int .i64 0] 23)) ∧ lo = Z.heap.size from ⟨hbz.trans (hb.mono hbz.size), hlo⟩)
            have HM := hid hM
            have HB := hid hB
            have HK := hid hK
            rw [hk] at HK
            clear hk
            clear hbz hbl hb hB hM
            clear hdf hs hfar hdeps hI hno hup hK
            go_simp
            exact HK.out _ _ HI.out ⟨_, rfl, HB.out⟩ (fun j oj _ _ _ h => HM.out _ _ _ h)
          · unfold StepGPR; rw [if_pos (by kernel_rfl)]; intro a1 wx L hs hdf hfar hold hI hno hup hdeps K hK; have HOLD := hid hold; clear hold
            have hk : ([12, 13] : List Nat).countP L = 0 := by simp [hno 12 (by kernel_rfl), hno 13 (by kernel_rfl)]
            have hK := phK_write (i := 12) 0 hk (by rw [phN_count (by kernel_rfl) (hno 12 (by kernel_rfl)), hk]) hK
            obtain ⟨b, e1, hB⟩ := (show ∃ b : Nat, (a1.eval (.tmp 15)) = .pointer (some ⟨b, 0, none⟩) ∧ NZ wx lo b [.int .i64 0, .slice none 0 0] 36 from phF_at hk (hdeps 10 (by kernel_rfl) (by kernel_rfl) _ rfl))
            obtain ⟨G, e2, hG⟩ := (show ∃ G : Nat, (a1.eval (.tmp 71)) = .agg #[.int .i64 3, .slice (some ⟨G, 0, none⟩) q q] ∧ NZ wx lo G (dt.map (Value.int .i32)) 21 from phF_at hk (hdeps 7 (by kernel_rfl) (by kernel_rfl) _ rfl))
            obtain ⟨hbz, hlo⟩ := (show Below Z.heap.size Z wx ∧ lo = Z.heap.size from hI)
            have hbl := hbz.size
            have hGb : G ≠ b := by intro e; subst e; have h1 := hB.1.symm.trans hG.1; simp at h1
            refine wp_store_blk _ _ _ rfl b e1 [.int .i64 3, .slice (some ⟨G, 0, none⟩) q q] e2 _ _ hB.1 rfl (by kernel_rfl) (by intro v hv; simp at hv; rcases hv with rfl | rfl <;> rfl) ?_
            intro w' hb' ho
            have hBz : Z.heap.size ≤ b := hlo ▸ hB.2
            refine hK undef w' ⟨hbz.trans (ho.below hBz hbz.size), hlo⟩ trivial ?_
            intro j oj hj hji hl hf
            have hu : j = 10 → slotOf a1 oj = .pointer (some ⟨b, 0, none⟩) := by intro e; subst e; cases hj; exact e1
            revert hf hu
            generalize slotOf a1 oj = u
            intro hf hu
            match j with
            | 10 => exact ⟨b, G, hu rfl, ⟨hb', hB.2⟩, hG.only ho hGb⟩
            | 11 =>
              obtain ⟨c, e, hC⟩ := hf
              refine ⟨c, e, hC.only ho ?_⟩
              intro e; subst e; have h1 := hB.1.symm.trans hC.1; simp at h1
            | 0 => exact hf
            | 1 => exact hf
            | 2 => exact hf
            | 3 => exact hf
            | 4 => exact hf
            | 8 => exact hf
            | 9 => exact hf
            | 14 => exact hf
            | 6 => obtain ⟨G, e, _⟩ := hf; exact ⟨G, e⟩
            | 5 => exact trivial
            | 7 => exact trivial
            | 12 => exact trivial
            | 13 => exact trivial
            | j + 15 => exact trivial
          · unfold StepGPR; rw [if_pos (by kernel_rfl)]; intro a1 wx L hs hdf hfar hold hI hno hup hdeps K hK; have HOLD := hid hold; clear hold
            have hk : ([12, 13] : List Nat).countP L = 1 := by simp [hup 12 (by kernel_rfl) (by kernel_rfl), hno 13 (by kernel_rfl)]
            have hK := phK_write (i := 13) 1 hk (by rw [phN_count (by kernel_rfl) (hno 13 (by kernel_rfl)), hk]) hK
            obtain ⟨c, e1, hC⟩ := (show ∃ c : Nat, (a1.eval (.tmp 16)) = .pointer (some ⟨c, 0, none⟩) ∧ NZ wx lo c [.int .i64 0, .int .i64 0, .int .i64 0] 23 from phF_at hk (hdeps 11 (by kernel_rfl) (by kernel_rfl) _ rfl))
            obtain e2 := (show (a1.eval (.tmp 72)) = .agg #[.int .i64 t, .int .i64 r, .int .i64 g2] from phF_at hk (hdeps 8 (by kernel_rfl) (by kernel_rfl) _ rfl))
            obtain ⟨hbz, hlo⟩ := (show Below Z.heap.size Z wx ∧ lo = Z.heap.size from hI)
            have hbl := hbz.size
            refine wp_store_blk _ _ _ rfl c e1 [.int .i64 t, .int .i64 r, .int .i64 g2] e2 _ _ hC.1 rfl (by kernel_rfl) (by intro v hv; simp at hv; rcases hv with rfl | rfl | rfl <;> rfl) ?_
            intro w' hb' ho
            have hBz : Z.heap.size ≤ c := hlo ▸ hC.2
            refine hK undef w' ⟨hbz.trans (ho.below hBz hbz.size), hlo⟩ trivial ?_
            intro j oj hj hji hl hf
            have hu : j = 11 → slotOf a1 oj = .pointer (some ⟨c, 0, none⟩) := by intro e; subst e; cases hj; exact e1
            revert hf hu
            generalize slotOf a1 oj = u
            intro hf hu
            match j with
            | 11 => exact ⟨c, hu rfl, hb', hC.2⟩
            | 10 =>
              obtain ⟨b, G, e, hB, hG⟩ := hf
              refine ⟨b, G, e, hB.only ho ?_, hG.only ho ?_⟩
              · intro e; subst e; have h1 := hB.1.symm.trans hC.1; simp at h1
              · intro e; subst e; have h1 := hG.1.symm.trans hC.1; simp at h1
            | 0 => exact hf
            | 1 => exact hf
            | 2 => exact hf
            | 3 => exact hf
            | 4 => exact hf
            | 6 => exact hf
            | 8 => exact hf
            | 9 => exact hf
            | 14 => exact hf
            | 5 => exact trivial
            | 7 => exact trivial
            | 12 => exact trivial
            | 13 => exact trivial
            | j + 15 => exact trivial
          · unfold StepGPR; rw [if_pos (by kernel_rfl)]; intro a1 wx L hs hdf hfar hold hI hno hup hdeps K hK; have HOLD := hid hold; clear hold
            have hK := phK_plain (i := 14) (by kernel_rfl) hK
            exact wp_move (.tmp 73) (.inr rfl) _ rfl (hK _ _ (phA_self hI) (phF_self (hdeps 9 (by kernel_rfl) (by kernel_rfl) _ rfl)) (fun _ _ _ _ _ h => h))
        · intro vs wx L hvs hall hI hF
          obtain ⟨v0, r0, rfl, h0r⟩ := list_open hvs
          obtain ⟨v1, r1, rfl, h1r⟩ := list_open h0r
          obtain ⟨v2, r2, rfl, h2r⟩ := list_open h1r
          obtain ⟨v3, r3, rfl, h3r⟩ := list_open h2r
          obtain ⟨v4, r4, rfl, h4r⟩ := list_open h3r
          obtain ⟨v5, r5, rfl, h5r⟩ := list_open h4r
          obtain ⟨v6, r6, rfl, h6r⟩ := list_open h5r
          obtain ⟨v7, r7, rfl, h7r⟩ := list_open h6r
          obtain ⟨v8, r8, rfl, h8r⟩ := list_open h7r
          obtain ⟨v9, r9, rfl, h9r⟩ := list_open h8r
          obtain ⟨v10, r10, rfl, h10r⟩ := list_open h9r
          obtain ⟨v11, r11, rfl, h11r⟩ := list_open h10r
          obtain ⟨v12, r12, rfl, h12r⟩ := list_open h11r
          obtain ⟨v13, r13, rfl, h13r⟩ := list_open h12r
          obtain ⟨v14, r14, rfl, h14r⟩ := list_open h13r
          obtain rfl : r14 = [] := List.eq_nil_of_length_eq_zero h14r
          clear h0r h1r h2r h3r h4r h5r h6r h7r h8r h9r h10r h11r h12r h13r
          have hk : ([12, 13] : List Nat).countP L = 2 := by simp [hall 12 (Nat.le_of_ble_eq_true rfl), hall 13 (Nat.le_of_ble_eq_true rfl)]
          have f0 : v0 = .agg #[.int .i64 t, .int .i64 r, .int .i64 gm] := phF_at hk (hF 0 (Nat.le_of_ble_eq_true rfl))
          have f1 : v1 = vs := phF_at hk (hF 1 (Nat.le_of_ble_eq_true rfl))
          have f2 : v2 = .int .i64 (fm : Int) := phF_at hk (hF 2 (Nat.le_of_ble_eq_true rfl))
          have f3 : v3 = .int .i64 (hi : Int) := phF_at hk (hF 3 (Nat.le_of_ble_eq_true rfl))
          have f4 : v4 = vsub := phF_at hk (hF 4 (Nat.le_of_ble_eq_true rfl))
          have f6 : ∃ G : Nat, v6 = .tuple #[.agg #[.int .i64 3, .slice (some ⟨G, 0, none⟩) q q], .agg #[.int .i64 t, .int .i64 r, .int .i64 g2], .int .i64 0] := phF_at hk (hF 6 (Nat.le_of_ble_eq_true rfl))
          have f8 : v8 = .agg #[.int .i64 t, .int .i64 r, .int .i64 g2] := phF_at hk (hF 8 (Nat.le_of_ble_eq_true rfl))
          have f9 : v9 = .int .i64 0 := phF_at hk (hF 9 (Nat.le_of_ble_eq_true rfl))
          have f10 : ∃ b G : Nat, v10 = .pointer (some ⟨b, 0, none⟩) ∧ NZ wx lo b [.int .i64 3, .slice (some ⟨G, 0, none⟩) q q] 36 ∧ NZ wx lo G (dt.map (Value.int .i32)) 21 := phF_at hk (hF 10 (Nat.le_of_ble_eq_true rfl))
          have f11 : ∃ c : Nat, v11 = .pointer (some ⟨c, 0, none⟩) ∧ NZ wx lo c [.int .i64 t, .int .i64 r, .int .i64 g2] 23 := phF_at hk (hF 11 (Nat.le_of_ble_eq_true rfl))
          have f14 : v14 = .int .i64 0 := phF_at hk (hF 14 (Nat.le_of_ble_eq_true rfl))
          have hS : Below Z.heap.size Z wx ∧ lo = Z.heap.size := phA_at hk hI
          clear hk hI hF hall
          subst f0
          subst f1
          subst f2
          subst f3
          subst f4
          subst f8
          subst f9
          subst f14
          simp only [putVals, List.setIfInBounds_toArray, List.set_cons_zero, List.set_cons_succ]
          obtain ⟨b, G2, rfl, hB, hG2⟩ := f10
          obtain ⟨c2, rfl, hC⟩ := f11
          obtain ⟨hbz, _⟩ := hS
          have hL1 := hHZ.kept hbz
          have hO1 := hOZ.below hbz
          have hI1 := hIZ.below hbz
          have hbc : b ≠ c2 := by intro e; subst e; have h1 := hB.1.symm.trans hC.1; simp at h1
          have hGb : G2 ≠ b := by intro e; subst e; have h1 := hB.1.symm.trans hG2.1; simp at h1
          have hGc : G2 ≠ c2 := by intro e; subst e; have h1 := hC.1.symm.trans hG2.1; simp at h1
          have hltZ := hHZ.live.ltAll
          have hdZ := hHZ.diceAt.lt
          have hWZ := hHZ.size
          have hB2 := hB.2; have hC2 := hC.2; have hG22 := hG2.2
          have hL2 := ((hL1.enter hG2.1 (by omega) (fun d' e => by cases e; omega) (fun x hx => by have := hltZ x hx; omega)).enter hC.1 (by omega) (fun d' e => by cases e; omega) (by
            intro x hx
            rcases List.mem_cons.1 hx with rfl | hx
            · exact hGc
            · have := hltZ x hx; omega)).enter hB.1 (by omega) (fun d' e => by cases e; omega) (by
            intro x hx
            rcases List.mem_cons.1 hx with rfl | hx
            · exact Ne.symm hbc
            rcases List.mem_cons.1 hx with rfl | hx
            · exact hGb
            · have := hltZ x hx; omega)
          clear hHZ hOZ hIZ hB hC hG2 hL1 hltZ hbz HC6 HSU HCR
          have HL2 := hid hL2
          have HO1 := hid hO1
          have HI1 := hid hI1
          clear hL2 hO1 hI1
          go_upto_region 20 with (fail)
          have hJ0 : Lx W wx.drew (some d) [(b, [.int .i64 3, .slice (some ⟨G2, 0, none⟩) q q], 36), (c2, [.int .i64 t, .int .i64 r, .int .i64 g2], 23), (G2, dt.map (Value.int .i32), 21), (B11, [.int .i64 3, .slice p fm c], 36), (B9, [.int .i64 t, .int .i64 r, .int .i64 ge], 23), (B8, [.int .i64 3, .slice (some ⟨G, 0, none⟩) (3 * k) (3 * k)], 36), (G, dat.map (Value.int .i32), 21), (B6, [.int .i64 t, .int .i64 r, .int .i64 gm], 23)] ∧ Sf .i32 wx.drew p fm c dm [B6, B11] ∧ Sf .i64 wx.drew p5 (3 * k) cap5 l2 [B6, B11] := ⟨HL2.out.drew, HO1.out.below ((Below.refl _ _).drew), HI1.out.below ((Below.refl _ _).drew)⟩
          have W9 : True := trivial
          refine wp_region_factsR (ops := [_, _, _, _, _, _, _, _]) (fun _ => none) (phA [5, 6] (FP20A W d B11 B6 B9 B8 G b c2 G2 k cap5 fm hi q c t r gm g2 ge p p5 l2 dat dm dt)) (phF [5, 6] (FP20 W d B11 B6 B9 B8 G b c2 G2 k cap5 fm hi q c t r gm g2 ge p p5 l2 dat dm dt)) (by kernel_rfl) (by kernel_rfl) (by kernel_rfl) (show (FP20A W d B11 B6 B9 B8 G b c2 G2 k cap5 fm hi q c t r gm g2 ge p p5 l2 dat dm dt) 0 _ from hJ0) ?_ (by kernel_rfl) ?_ ?_
          · intro g b h; cases h
          · refine ⟨?_, ?_, ?_, ?_, ?_, ?_, ?_, ?_, trivial⟩
            · unfold StepGPR; rw [if_pos (by kernel_rfl)]; intro a1 wx L hs hdf hfar hold hI hno hup hdeps K hK; have HOLD := hid hold; clear hold
              have hK := phK_plain (i := 0) (by kernel_rfl) hK
              have ef11 : a1.eval (.tmp 11) = .pointer (some ⟨B11, 0, none⟩) := far_eval (hfar 11 (by kernel_rfl)) rfl
              have x1_ := tmp_eval ef11
              have hk : ([5, 6] : List Nat).countP L = 0 := by simp [hno 5 (by kernel_rfl), hno 6 (by kernel_rfl)]
              obtain ⟨hS, _, _⟩ := (show Lx W wx (some d) [(b, [.int .i64 3, .slice (some ⟨G2, 0, none⟩) q q], 36), (c2, [.int .i64 t, .int .i64 r, .int .i64 g2], 23), (G2, dt.map (Value.int .i32), 21), (B11, [.int .i64 3, .slice p fm c], 36), (B9, [.int .i64 t, .int .i64 r, .int .i64 ge], 23), (B8, [.int .i64 3, .slice (some ⟨G, 0, none⟩) (3 * k) (3 * k)], 36), (G, dat.map (Value.int .i32), 21), (B6, [.int .i64 t, .int .i64 r, .int .i64 gm], 23)] ∧ Sf .i32 wx p fm c dm [B6, B11] ∧ Sf .i64 wx p5 (3 * k) cap5 l2 [B6, B11] from phA_at hk hI)
              have cc0 := hS.cell 3 0 rfl rfl
              have cc1 := hS.cell 3 1 rfl rfl
              clear hS
              rw [hk] at hK
              have HI := hid (phA_at hk hI)
              have HK := hid hK
              clear ef11 hk
              clear hdf hs hfar hdeps hI hno hup hK
              go_simp
              exact HK.out _ _ HI.out (by first | rfl | (show _ = _; simp [*]; done)) (fun _ _ _ _ _ h => h)
            · unfold StepGPR; rw [if_pos (by kernel_rfl)]; intro a1 wx L hs hdf hfar hold hI hno hup hdeps K hK; have HOLD := hid hold; clear hold
              have hK := phK_plain (i := 1) (by kernel_rfl) hK
              have ef15 : a1.eval (.tmp 15) = .pointer (some ⟨b, 0, none⟩) := far_eval (hfar 15 (by kernel_rfl)) rfl
              have x1_ := tmp_eval ef15
              have hk : ([5, 6] : List Nat).countP L = 0 := by simp [hno 5 (by kernel_rfl), hno 6 (by kernel_rfl)]
              obtain ⟨hS, _, _⟩ := (show Lx W wx (some d) [(b, [.int .i64 3, .slice (some ⟨G2, 0, none⟩) q q], 36), (c2, [.int .i64 t, .int .i64 r, .int .i64 g2], 23), (G2, dt.map (Value.int .i32), 21), (B11, [.int .i64 3, .slice p fm c], 36), (B9, [.int .i64 t, .int .i64 r, .int .i64 ge], 23), (B8, [.int .i64 3, .slice (some ⟨G, 0, none⟩) (3 * k) (3 * k)], 36), (G, dat.map (Value.int .i32), 21), (B6, [.int .i64 t, .int .i64 r, .int .i64 gm], 23)] ∧ Sf .i32 wx p fm c dm [B6, B11] ∧ Sf .i64 wx p5 (3 * k) cap5 l2 [B6, B11] from phA_at hk hI)
              have cc0 := hS.cell 0 0 rfl rfl
              have cc1 := hS.cell 0 1 rfl rfl
              clear hS
              rw [hk] at hK
              have HI := hid (phA_at hk hI)
              have HK := hid hK
              clear ef15 hk
              clear hdf hs hfar hdeps hI hno hup hK
              go_simp
              exact HK.out _ _ HI.out (by first | rfl | (show _ = _; simp [*]; done)) (fun _ _ _ _ _ h => h)
            · unfold StepGPR; rw [if_pos (by kernel_rfl)]; intro a1 wx L hs hdf hfar hold hI hno hup hdeps K hK; have HOLD := hid hold; clear hold
              have hK := phK_plain (i := 2) (by kernel_rfl) hK
              have hk : ([5, 6] : List Nat).countP L = 0 := by simp [hno 5 (by kernel_rfl), hno 6 (by kernel_rfl)]
              obtain ⟨hS, hO, hQ⟩ := (show Lx W wx (some d) [(b, [.int .i64 3, .slice (some ⟨G2, 0, none⟩) q q], 36), (c2, [.int .i64 t, .int .i64 r, .int .i64 g2], 23), (G2, dt.map (Value.int .i32), 21), (B11, [.int .i64 3, .slice p fm c], 36), (B9, [.int .i64 t, .int .i64 r, .int .i64 ge], 23), (B8, [.int .i64 3, .slice (some ⟨G, 0, none⟩) (3 * k) (3 * k)], 36), (G, dat.map (Value.int .i32), 21), (B6, [.int .i64 t, .int .i64 r, .int .i64 gm], 23)] ∧ Sf .i32 wx p fm c dm [B6, B11] ∧ Sf .i64 wx p5 (3 * k) cap5 l2 [B6, B11] from phA_at hk hI)
              obtain e1 := (show (a1.eval (.tmp 76)) = .agg #[.int .i64 3, .slice p fm c] from phF_at hk (hdeps 0 (by kernel_rfl) (by kernel_rfl) _ rfl))
              obtain e2 := (show (a1.eval (.tmp 77)) = .agg #[.int .i64 3, .slice (some ⟨G2, 0, none⟩) q q] from phF_at hk (hdeps 1 (by kernel_rfl) (by kernel_rfl) _ rfl))
              rw [hk] at hK
              refine wp_fn 22 [.tmp 76, .tmp 77] _ rfl [.agg #[.int .i64 3, .slice p fm c], .agg #[.int .i64 3, .slice (some ⟨G2, 0, none⟩) q q]] (by simp only [List.map_cons, List.map_nil, e1, e2]) enter_join (join_any 3 3 p fm c dm (some ⟨G2, 0, none⟩) q q dt wx hO.1 (sl_of_blk (hS.blk 2 rfl) HDW.out q HDQ.out (by unfold maxLen; omega)) (by omega)) ?_
              rintro e wy ⟨va, rfl, hla⟩
              have hrow := hla.row.lt
              obtain ⟨pn, cn, rfl, hsl, hpn⟩ := hla.sl HDD.out
              have hb := hla.lx.below
              rw [HQ.out] at hsl hrow
              have hl6 := hS.lt 7 rfl
              have hl11 := hS.lt 3 rfl
              refine ⟨_, rfl, hK _ wy ⟨hS.kept hb, hO.below hb, hQ.below hb⟩ ⟨pn, cn, by rw [← HQ.out]; rfl, hsl, fun ad e hm => by have := (hpn ad e).1; simp at hm; omega⟩ ?_⟩
              intro j oj hj hji hl hf
              match j with
              | 2 => exact absurd rfl hji
              | 0 => exact hf
              | 1 => exact hf
              | 3 => exact hf
              | 4 => exact hf
              | 7 => exact hf
              | 5 => exact trivial
              | 6 => exact trivial
              | j + 8 => exact trivial
            · unfold StepGPR; rw [if_pos (by kernel_rfl)]; intro a1 wx L hs hdf hfar hold hI hno hup hdeps K hK; have HOLD := hid hold; clear hold
              have hK := phK_plain (i := 3) (by kernel_rfl) hK
              have ef16 : a1.eval (.tmp 16) = .pointer (some ⟨c2, 0, none⟩) := far_eval (hfar 16 (by kernel_rfl)) rfl
              have x1_ := tmp_eval ef16
              obtain ⟨cc0, cc1, cc2⟩ := FP20A_c (phA_self hI)
              have HI := hid (phA_self hI)
              have HK := hid hK
              clear ef16
              clear hdf hs hfar hdeps hI hno hup hK
              go_simp
              exact HK.out _ _ HI.out (by first | rfl | (show _ = _; simp [*]; done)) (fun _ _ _ _ _ h => h)
            · unfold StepGPR; rw [if_pos (by kernel_rfl)]; intro a1 wx L hs hdf hfar hold hI hno hup hdeps K hK; have HOLD := hid hold; clear hold
              have hK := phK_plain (i := 4) (by kernel_rfl) hK
              exact wp_move (.tmp 14) (.inl rfl) _ (far_eval (hfar 14 (by kernel_rfl)) rfl) (hK _ _ (phA_self hI) (by first | rfl | trivial) (fun _ _ _ _ _ h => h))
            · unfold StepGPR; rw [if_pos (by kernel_rfl)]; intro a1 wx L hs hdf hfar hold hI hno hup hdeps K hK; have HOLD := hid hold; clear hold
              have hk : ([5, 6] : List Nat).countP L = 0 := by simp [hno 5 (by kernel_rfl), hno 6 (by kernel_rfl)]
              have hK := phK_write (i := 5) 0 hk (by rw [phN_count (by kernel_rfl) (hno 5 (by kernel_rfl)), hk]) hK
              obtain ⟨hS, hO, hQ⟩ := (show Lx W wx (some d) [(b, [.int .i64 3, .slice (some ⟨G2, 0, none⟩) q q], 36), (c2, [.int .i64 t, .int .i64 r, .int .i64 g2], 23), (G2, dt.map (Value.int .i32), 21), (B11, [.int .i64 3, .slice p fm c], 36), (B9, [.int .i64 t, .int .i64 r, .int .i64 ge], 23), (B8, [.int .i64 3, .slice (some ⟨G, 0, none⟩) (3 * k) (3 * k)], 36), (G, dat.map (Value.int .i32), 21), (B6, [.int .i64 t, .int .i64 r, .int .i64 gm], 23)] ∧ Sf .i32 wx p fm c dm [B6, B11] ∧ Sf .i64 wx p5 (3 * k) cap5 l2 [B6, B11] from phA_at hk hI)
              obtain ⟨pn, cn, e2, hN⟩ := (show ∃ (pn : Option Addr) (cn : Nat), (a1.eval (.tmp 78)) = .agg #[.int .i64 3, .slice pn hi cn] ∧ Sf .i32 wx pn hi cn (dm ++ dt) [B6, B11] from phF_at hk (hdeps 2 (by kernel_rfl) (by kernel_rfl) _ rfl))
              have e11 : a1.eval (.tmp 11) = .pointer (some ⟨B11, 0, none⟩) := far_eval (hfar 11 (by kernel_rfl)) rfl
              refine wp_store_blk _ _ _ rfl B11 e11 [.int .i64 3, .slice pn hi cn] e2 _ _ (hS.blk 3 rfl) rfl (by kernel_rfl) (by intro v hv; simp at hv; rcases hv with rfl | rfl <;> rfl) ?_
              intro w' hb' ho
              have hl4 := hS.onlySet 3 rfl ho hb'
              simp only [List.set_cons_zero, List.set_cons_succ] at hl4
              refine hK undef w' ⟨pn, cn, hl4, hN.only ho (by simp), hQ.only ho (by simp)⟩ trivial ?_
              intro j oj hj hji hl hf
              match j with
              | 5 => exact absurd rfl hji
              | 6 => exact trivial
              | 2 => obtain ⟨pn, cn, e, h⟩ := hf; exact ⟨pn, cn, e, h.only ho (by simp)⟩
              | 0 => exact hf
              | 1 => exact hf
              | 3 => exact hf
              | 4 => exact hf
              | 7 => exact hf
              | j + 8 => exact trivial
            · unfold StepGPR; rw [if_pos (by kernel_rfl)]; intro a1 wx L hs hdf hfar hold hI hno hup hdeps K hK; have HOLD := hid hold; clear hold
              have hk : ([5, 6] : List Nat).countP L = 1 := by simp [hup 5 (by kernel_rfl) (by kernel_rfl), hno 6 (by kernel_rfl)]
              have hK := phK_write (i := 6) 1 hk (by rw [phN_count (by kernel_rfl) (hno 6 (by kernel_rfl)), hk]) hK
              obtain ⟨pn, cn, hS, hO, hQ⟩ := (show ∃ (pn : Option Addr) (cn : Nat), Lx W wx (some d) [(b, [.int .i64 3, .slice (some ⟨G2, 0, none⟩) q q], 36), (c2, [.int .i64 t, .int .i64 r, .int .i64 g2], 23), (G2, dt.map (Value.int .i32), 21), (B11, [.int .i64 3, .slice pn hi cn], 36), (B9, [.int .i64 t, .int .i64 r, .int .i64 ge], 23), (B8, [.int .i64 3, .slice (some ⟨G, 0, none⟩) (3 * k) (3 * k)], 36), (G, dat.map (Value.int .i32), 21), (B6, [.int .i64 t, .int .i64 r, .int .i64 gm], 23)] ∧ Sf .i32 wx pn hi cn (dm ++ dt) [B6, B11] ∧ Sf .i64 wx p5 (3 * k) cap5 l2 [B6, B11] from phA_at hk hI)
              obtain e2 := (show (a1.eval (.tmp 79)) = .agg #[.int .i64 t, .int .i64 r, .int .i64 g2] from phF_at hk (hdeps 3 (by kernel_rfl) (by kernel_rfl) _ rfl))
              have e6 : a1.eval (.tmp 6) = .pointer (some ⟨B6, 0, none⟩) := far_eval (hfar 6 (by kernel_rfl)) rfl
              refine wp_store_blk _ _ _ rfl B6 e6 [.int .i64 t, .int .i64 r, .int .i64 g2] e2 _ _ (hS.blk 7 rfl) rfl (by kernel_rfl) (by intro v hv; simp at hv; rcases hv with rfl | rfl | rfl <;> rfl) ?_
              intro w' hb' ho
              have hl4 := hS.onlySet 7 rfl ho hb'
              simp only [List.set_cons_zero, List.set_cons_succ] at hl4
              refine hK undef w' ⟨pn, cn, hl4, hO.only ho (by simp), hQ.only ho (by simp)⟩ trivial ?_
              intro j oj hj hji hl hf
              match j with
              | 6 => exact absurd rfl hji
              | 5 => exact trivial
              | 2 => obtain ⟨pn, cn, e, h⟩ := hf; exact ⟨pn, cn, e, h.only ho (by simp)⟩
              | 0 => exact hf
              | 1 => exact hf
              | 3 => exact hf
              | 4 => exact hf
              | 7 => exact hf
              | j + 8 => exact trivial
            · unfold StepGPR; rw [if_pos (by kernel_rfl)]; intro a1 wx L hs hdf hfar hold hI hno hup hdeps K hK; have HOLD := hid hold; clear hold
              have hK := phK_plain (i := 7) (by kernel_rfl) hK
              exact wp_move (.tmp 80) (.inr rfl) _ rfl (hK _ _ (phA_self hI) (phF_self (hdeps 4 (by kernel_rfl) (by kernel_rfl) _ rfl)) (fun _ _ _ _ _ h => h))
          · intro vs wx L hvs hall hI hF
            obtain ⟨v0, r0, rfl, h0r⟩ := list_open hvs
            obtain ⟨v1, r1, rfl, h1r⟩ := list_open h0r
            obtain ⟨v2, r2, rfl, h2r⟩ := list_open h1r
            obtain ⟨v3, r3, rfl, h3r⟩ := list_open h2r
            obtain ⟨v4, r4, rfl, h4r⟩ := list_open h3r
            obtain ⟨v5, r5, rfl, h5r⟩ := list_open h4r
            obtain ⟨v6, r6, rfl, h6r⟩ := list_open h5r
            obtain ⟨v7, r7, rfl, h7r⟩ := list_open h6r
            obtain rfl : r7 = [] := List.eq_nil_of_length_eq_zero h7r
            clear h0r h1r h2r h3r h4r h5r h6r
            have hk : ([5, 6] : List Nat).countP L = 2 := by simp [hall 5 (Nat.le_of_ble_eq_true rfl), hall 6 (Nat.le_of_ble_eq_true rfl)]
            have f0 : v0 = .agg #[.int .i64 3, .slice p fm c] := phF_at hk (hF 0 (Nat.le_of_ble_eq_true rfl))
            have f1 : v1 = .agg #[.int .i64 3, .slice (some ⟨G2, 0, none⟩) q q] := phF_at hk (hF 1 (Nat.le_of_ble_eq_true rfl))
            have f2 : ∃ (pn : Option Addr) (cn : Nat), v2 = .agg #[.int .i64 3, .slice pn hi cn] ∧ Sf .i32 wx pn hi cn (dm ++ dt) [B6, B11] := phF_at hk (hF 2 (Nat.le_of_ble_eq_true rfl))
            have f3 : v3 = .agg #[.int .i64 t, .int .i64 r, .int .i64 g2] := phF_at hk (hF 3 (Nat.le_of_ble_eq_true rfl))
            have f4 : v4 = .int .i64 (hi : Int) := phF_at hk (hF 4 (Nat.le_of_ble_eq_true rfl))
            have f7 : v7 = .int .i64 (hi : Int) := phF_at hk (hF 7 (Nat.le_of_ble_eq_true rfl))
            have hS : ∃ (pn : Option Addr) (cn : Nat), Lx W wx (some d) [(b, [.int .i64 3, .slice (some ⟨G2, 0, none⟩) q q], 36), (c2, [.int .i64 t, .int .i64 r, .int .i64 g2], 23), (G2, dt.map (Value.int .i32), 21), (B11, [.int .i64 3, .slice pn hi cn], 36), (B9, [.int .i64 t, .int .i64 r, .int .i64 ge], 23), (B8, [.int .i64 3, .slice (some ⟨G, 0, none⟩) (3 * k) (3 * k)], 36), (G, dat.map (Value.int .i32), 21), (B6, [.int .i64 t, .int .i64 r, .int .i64 g2], 23)] ∧ Sf .i32 wx pn hi cn (dm ++ dt) [B6, B11] ∧ Sf .i64 wx p5 (3 * k) cap5 l2 [B6, B11] := phA_at hk hI
            clear hk hI hF hall
            subst f0
            subst f1
            subst f3
            subst f4
            subst f7
            simp only [putVals, List.setIfInBounds_toArray, List.set_cons_zero, List.set_cons_succ]
            obtain ⟨pn, cn, hl9, ho9, hi9⟩ := hS
            have K1 := hid (hl9.sub (L' := [(B11, [.int .i64 3, .slice pn hi cn], 36), (B9, [.int .i64 t, .int .i64 r, .int .i64 ge], 23), (B8, [.int .i64 3, .slice (some ⟨G, 0, none⟩) (3 * k) (3 * k)], 36), (G, dat.map (Value.int .i32), 21), (B6, [.int .i64 t, .int .i64 r, .int .i64 (g2)], 23)]) (by exact ((List.Sublist.refl _).cons _).cons _ |>.cons _))
            have K2 := hid ho9
            have K3 := hid hi9
            clear hl9 ho9 hi9 f2
            rw [← HV.out]
            go_wp2_with fail
            go_roundw
            case rel => exact ⟨mt, x + 1, pn, cn, by omega, by omega, by go_num, by rw [HHI.out], by omega, by rw [HADD.out, HHI.out]; exact K1, by rw [HADD.out, HHI.out]; exact K2, K3⟩
            case measure => simp [intOf] <;> omega
    · have hkb : decide ((x : Int) ≤ (len1 : Int)) = false := by simp; omega
      obtain rfl : m = k := hlast (by omega)
      have hws : ∀ n ∈ dat, (Lit.int .i32 n).wf = true := by
        intro n hn
        have h0 := runL_sample 3 t r m g l2 n (by rw [HDAT.out]; exact hn)
        have e : wrap32 n = n := by unfold wrap32; omega
        have h2 := wrap32_wf n
        rw [e] at h2
        exact h2
      have hln := runL_len 3 t r m g l2 (by rw [HLL.out]; omega)
      rw [HDAT.out] at hln HO
      rw [HGE.out] at HL
      have cs := same_any 3 3 p (3 * m) c dat (some ⟨G, 0, none⟩) (3 * m) (3 * m) dat wo HO.out.1 (sl_of_blk (HL.out.blk 3 rfl) hws (3 * m) (by omega) (by unfold maxLen; omega))
      rw [show decide ((3 : Int) = 3 ∧ dat = dat) = true by simp] at cs
      have CS := hid cs
      clear cs hws hln
      have hL := HL.out.facts
      simp only [liveAt, cellsAt, and_true, Nat.zero_add, Nat.reduceAdd] at hL
      go_wp2_with fail
      (with_reducible refine CS.out.mono ?_); rintro e w9 ⟨rfl, hb⟩
      have h9 := HL.out.kept hb
      clear hL hb
      go_wp2_with fail
      go_ret
      exact ⟨rfl, h9.os, h9.tape, h9.output, h9.size, fun j hj => h9.block j hj (by simp; omega)⟩
end Go.Proofs.Ytbcifmddbhnkhaa
