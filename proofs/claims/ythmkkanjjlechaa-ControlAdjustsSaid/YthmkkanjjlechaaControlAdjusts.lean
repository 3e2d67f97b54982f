/- ControlAdjusts: the walk. -/
import Derived.Test.YthmkkanjjlechaaMade18
import Derived.Test.YthmkkanjjlechaaLive
import Derived.Deep.RegionHeld3
namespace Go.Proofs.Ythmkkanjjlechaa
open Go.ChangeShapes Go.WideShapes Go.ChangeAt Go.RowKit
set_option linter.unusedVariables false
set_option linter.unusedSimpArgs false

theorem lit8 {W w : World} {b : Nat} {T : TypeId} {L : List (Nat × List Value × TypeId)} {a0 a1 a2 a3 b0 b1 b2 b3 : Int} (h : Hid (Lv W w ((b, [I64 a0, I64 a1, I64 a2, I64 a3, I64 b0, I64 b1, I64 b2, I64 b3], T) :: L))) (k : Nat) (hk : k < 2) :
    ∃ p q r s : Int, w.cell? ⟨b, k * 4, none⟩ = some (I64 p) ∧ w.cell? ⟨b, k * 4 + 1, none⟩ = some (I64 q) ∧ w.cell? ⟨b, k * 4 + 2, none⟩ = some (I64 r) ∧ w.cell? ⟨b, k * 4 + 3, none⟩ = some (I64 s) := by
  have hb : Blk w b [I64 a0, I64 a1, I64 a2, I64 a3, I64 b0, I64 b1, I64 b2, I64 b3] T := h.out.live.1
  match k, hk with
  | 0, _ => exact ⟨a0, a1, a2, a3, hb.cell 0 rfl, hb.cell 1 rfl, hb.cell 2 rfl, hb.cell 3 rfl⟩
  | 1, _ => exact ⟨b0, b1, b2, b3, hb.cell 4 rfl, hb.cell 5 rfl, hb.cell 6 rfl, hb.cell 7 rfl⟩
theorem lit2 {W w : World} {b : Nat} {T : TypeId} {L : List (Nat × List Value × TypeId)} {a0 a1 : Int} (h : Hid (Lv W w ((b, [I64 a0, I64 a1], T) :: L))) (k : Nat) (hk : k < 2) :
    ∃ p : Int, w.cell? ⟨b, k, none⟩ = some (I64 p) := by
  have hb : Blk w b [I64 a0, I64 a1] T := h.out.live.1
  match k, hk with
  | 0, _ => exact ⟨a0, hb.cell 0 rfl⟩
  | 1, _ => exact ⟨a1, hb.cell 1 rfl⟩
theorem S4 {W w : World} {b b1 : Nat} {T T1 : TypeId} {v1 : List Value} {L : List (Nat × List Value × TypeId)} {p q r s : Int} (h : Hid (Lv W w ((b1, v1, T1) :: (b, [I64 p, I64 q, I64 r, I64 s], T) :: L))) :
    w.drew.cell? ⟨b, 0, none⟩ = some (I64 p) ∧ w.drew.cell? ⟨b, 1, none⟩ = some (I64 q) ∧ w.drew.cell? ⟨b, 2, none⟩ = some (I64 r) ∧ w.drew.cell? ⟨b, 3, none⟩ = some (I64 s) ∧ Lv W w.drew ((b1, v1, T1) :: (b, [I64 p, I64 q, I64 r, I64 s], T) :: L) := by
  have hb : Blk w b [I64 p, I64 q, I64 r, I64 s] T := h.out.live.2.1
  exact ⟨hb.cell 0 rfl, hb.cell 1 rfl, hb.cell 2 rfl, hb.cell 3 rfl, h.out.drew⟩
theorem keepL {P : Program} {f : FuncId} {args : Array Value} {w W : World} {v : Value} {b b1 : Nat} {T T1 : TypeId} {v1 : List Value} {L : List (Nat × List Value × TypeId)} {p q r s : Int}
    (hc : Calls P f args w fun e w' => e = .returned v ∧ Below w.heap.size w w')
    (h : w.cell? ⟨b, 0, none⟩ = some (I64 p) ∧ w.cell? ⟨b, 1, none⟩ = some (I64 q) ∧ w.cell? ⟨b, 2, none⟩ = some (I64 r) ∧ w.cell? ⟨b, 3, none⟩ = some (I64 s) ∧ Lv W w ((b1, v1, T1) :: (b, [I64 p, I64 q, I64 r, I64 s], T) :: L)) :
    Calls P f args w fun e w' => e = .returned v ∧ (w'.cell? ⟨b, 0, none⟩ = some (I64 p) ∧ w'.cell? ⟨b, 1, none⟩ = some (I64 q) ∧ w'.cell? ⟨b, 2, none⟩ = some (I64 r) ∧ w'.cell? ⟨b, 3, none⟩ = some (I64 s) ∧ Lv W w' ((b1, v1, T1) :: (b, [I64 p, I64 q, I64 r, I64 s], T) :: L)) :=
  hc.mono fun e w' ⟨h1, h2⟩ => by
    have hl := h.2.2.2.2.kept h2
    have hb : Blk w' b [I64 p, I64 q, I64 r, I64 s] T := hl.live.2.1
    exact ⟨h1, hb.cell 0 rfl, hb.cell 1 rfl, hb.cell 2 rfl, hb.cell 3 rfl, hl⟩
theorem Lv.drop1 {W w : World} {x y : Nat × List Value × TypeId} {L : List (Nat × List Value × TypeId)} (h : Lv W w (x :: y :: L)) : Lv W w (y :: L) := ⟨h.below, h.live.2⟩
theorem bcell' {P : Program} {f : FuncId} {args : Array Value} {w : World} {v : Value} {x : Obj} (hc : Calls P f args w fun e w' => e = .returned v ∧ w' = w.alloc x) : Calls P f args w fun e w' => e = .returned v ∧ Below w.heap.size w w' :=
  hc.mono fun e w' ⟨h1, h2⟩ => ⟨h1, by subst h2; go_grown⟩
set_option maxRecDepth 100000 in
set_option maxHeartbeats 16000000 in
theorem controlAdjusts_walk (rt rc rg rm : Int) (a : Option Addr) (len cap : Nat) (l : List Int) (fill : Int) (w : World) (hs : Sl .u8 w a len cap l) :
    Calls Try.prog 3 #[.agg #[.int .i64 rt, .int .i64 rc, .int .i64 rg, .int .i64 rm], .slice a len cap, .int .i64 fill] w fun e w' => e = .returned (.bool true) ∧ Below w.heap.size w w' := by
  have HS := hid hs
  clear hs
  go_enter Try.func3, Try.ntmps3
  go_wp2_with (first
    | (go_at_call 13; (with_reducible refine (sane18_any _).mono ?_); rintro e w1 ⟨rfl, hb⟩; have HL := hid (Lv.kept (Lv.alloc (vs := [I64 rt, I64 rc, I64 rg, I64 rm]) (T := 23) (Lv.start w)) hb); clear hb)
    | (go_at_call 15; (with_reducible refine (new_any a len cap l _ (HS.out.below HL.out.below)).mono ?_); rintro e w2 ⟨d, rfl, hd0, hdk, hb⟩; have hlt := HL.out.lt; have HK := hid hdk; have HL2 := hid (HL.out.kept hb); clear hdk hb)
    | (go_at_call 14; (with_reducible refine (made18_any _ d HK.out).mono ?_); rintro e w3 ⟨⟨t, c, g, m, pn, pd, k, j, rfl, ⟨t1, t2⟩, ⟨c1, c2⟩, ⟨g1, g2⟩, hmm, hper, hkk, j1, j2⟩, hdk, hbt⟩; have HL3 := hid (HL2.out.turn d hbt.os hbt.tape hbt.output hbt.size hbt.block (by omega) (by intro x hx; simp at hx; subst hx; show w.heap.size ≠ d; omega)); clear hmm hper hkk hdk hbt HL HL2 HK HS; have hL := HL3.out.facts; simp only [liveAt, cellsAt, and_true, Nat.zero_add, Nat.reduceAdd] at hL; have hw3 := HL3.out.lt; have hw31 : w.heap.size < w3.heap.size + 1 := by omega))
  have HL4 := hid (Lv.alloc (vs := [I64 rt, I64 rc, I64 rg, I64 rm, I64 t, I64 c, I64 g, I64 m]) (T := 23) (HL3.out.drop.kept (w' := (w3.alloc (.cells #[I64 t, I64 c, I64 g, I64 m] 23)).alloc (.cells #[I64 pn, I64 pd] 27)) (by go_grown)))
  clear HL3 hL hw3 hw31 hlt
  go_loopw [29] (fun i wr => ∃ k : Nat, k ≤ 2 ∧ i = .int .i64 k ∧ Hid (Lv w wr [(w3.heap.size + 1 + 1, [I64 rt, I64 rc, I64 rg, I64 rm, I64 t, I64 c, I64 g, I64 m], 23)])) (fun i _ => 2 - (intOf i).toNat)
  case atStart => exact ⟨0, by omega, rfl, by have h := HL4.out; simp only [World.size_alloc] at h; exact h⟩
  case round =>
    obtain ⟨k, hk, rfl, hl⟩ := hrel
    clear HL4
    generalize w3.heap.size + 1 + 1 = B1 at *
    obtain ⟨wo, rfl⟩ : ∃ wo : World, wo = wr := ⟨_, rfl⟩
    by_cases hlt : k < 2
    · obtain ⟨p, q, r, s, f0, f1, f2, f3⟩ := lit8 hl k hlt
      have hz := hl.out.lt
      have hkb : decide ((k : Int) < 2) = true := by simp; omega
      go_wp2_with fail
      have HL5 := hid (Lv.alloc (vs := [I64 fill, I64 ((wrap64 (fill.tmod 3000 + 3000)).tmod 3000)]) (T := 3) (Lv.alloc (vs := [I64 p, I64 q, I64 r, I64 s]) (T := 23) hl.out))
      clear f0 f1 f2 f3 hz hl
      generalize (wrap64 (fill.tmod 3000 + 3000)).tmod 3000 = f2 at *
      have HL6 := HL5.out
      simp only [World.size_alloc] at HL6
      have HL7 := hid HL6
      clear HL5 HL6
      generalize wo.heap.size = B2 at *
      go_loopw [40] (fun i wq => ∃ jj : Nat, jj ≤ 2 ∧ i = .int .i64 jj ∧ Hid (Lv w wq [(B2 + 1, [I64 fill, I64 f2], 3), (B2, [I64 p, I64 q, I64 r, I64 s], 23), (B1, [I64 rt, I64 rc, I64 rg, I64 rm, I64 t, I64 c, I64 g, I64 m], 23)])) (fun i _ => 2 - (intOf i).toNat)
      case atStart => exact ⟨0, by omega, rfl, HL7⟩
      case round =>
        obtain ⟨jj, hjj, rfl, hl⟩ := hrel
        clear HL7
        have hS := S4 hl
        by_cases hlt2 : jj < 2
        · obtain ⟨n, g0⟩ := lit2 hl jj hlt2
          have hjb : decide ((jj : Int) < 2) = true := by simp; omega
          clear hl
          go_wp2_with fail
          go_region_held3 (fun w' => w'.cell? ⟨B2, 0, none⟩ = some (I64 p) ∧ w'.cell? ⟨B2, 1, none⟩ = some (I64 q) ∧ w'.cell? ⟨B2, 2, none⟩ = some (I64 r) ∧ w'.cell? ⟨B2, 3, none⟩ = some (I64 s) ∧ Lv w w' [(B2 + 1, [I64 fill, I64 f2], 3), (B2, [I64 p, I64 q, I64 r, I64 s], 23), (B1, [I64 rt, I64 rc, I64 rg, I64 rm, I64 t, I64 c, I64 g, I64 m], 23)]) (assumption) (first
            | (go_at_call 16; refine (keepL (adj_any _ _ _ _ _ _) (by assumption)).mono ?_; rintro e w' ⟨rfl, hS⟩)
            | (go_at_call 17; refine (keepL (radj_any _ _ _ _ _ _) (by assumption)).mono ?_; rintro e w' ⟨rfl, hS⟩))
          obtain ⟨_, _, _, _, hl⟩ := hS
          have HL8 := hid hl
          clear hl
          go_wp2_with fail
          go_roundw
          case rel => first | exact ⟨jj + 1, by omega, by go_num, HL8⟩ | ((repeat apply Exists.intro); exact ⟨⟨jj + 1, by omega, by go_num, HL8⟩, rfl⟩)
          case measure => simp [intOf]; omega
        · clear hl
          go_wp2_with fail
          go_region_held3 (fun w' => w'.cell? ⟨B2, 0, none⟩ = some (I64 p) ∧ w'.cell? ⟨B2, 1, none⟩ = some (I64 q) ∧ w'.cell? ⟨B2, 2, none⟩ = some (I64 r) ∧ w'.cell? ⟨B2, 3, none⟩ = some (I64 s) ∧ Lv w w' [(B2 + 1, [I64 fill, I64 f2], 3), (B2, [I64 p, I64 q, I64 r, I64 s], 23), (B1, [I64 rt, I64 rc, I64 rg, I64 rm, I64 t, I64 c, I64 g, I64 m], 23)]) (assumption) (first
            | (go_at_call 18; refine (keepL (bcell' (cvalid_any _ _ _ _ _)) (by assumption)).mono ?_; rintro e w' ⟨rfl, hS⟩)
            | (go_at_call 19; refine (keepL (bcell' (rcvalid_any _ _ _ _ _)) (by assumption)).mono ?_; rintro e w' ⟨rfl, hS⟩))
          obtain ⟨_, _, _, _, hl⟩ := hS
          have HL8 := hid hl.drop.drop
          clear hl
          go_wp2_with fail
          go_roundw
          case rel => first | exact ⟨k + 1, by omega, by go_num, HL8⟩ | ((repeat apply Exists.intro); exact ⟨⟨k + 1, by omega, by go_num, HL8⟩, rfl⟩)
          case measure => simp [intOf]; omega
    · go_wp2_with fail
      go_ret
      exact ⟨rfl, hl.out.below⟩
end Go.Proofs.Ythmkkanjjlechaa
