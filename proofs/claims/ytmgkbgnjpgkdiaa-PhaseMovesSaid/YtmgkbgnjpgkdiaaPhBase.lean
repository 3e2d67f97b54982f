/- The ratios that the laws make. No statement is proved here. -/
import Derived.Test.YtmgkbgnjpgkdiaaPhRat
import Derived.Test.YtmgkbgnjpgkdiaaDiceL
import Derived.Test.YtmgkbgnjpgkdiaaFacts
import Derived.Deep.DeepCutAuto
import Derived.Outline
namespace Go.Proofs.Ytmgkbgnjpgkdiaa
open Go.ChangeShapes Go.WideShapes Go.ChangeAt Go.RowKit
set_option linter.unusedVariables false
set_option linter.unusedSimpArgs false

def rateOf (k : Nat) : Int := [48000, 48000, 44100, 96000, 8000, 32000, 192000, 1000, 768000, 47999].getD k 0
theorem rate_bd (k : Nat) (hk : k < 10) : 1 ≤ rateOf k ∧ rateOf k ≤ 768000 := by
  match k, hk with
  | 0, _ | 1, _ | 2, _ | 3, _ | 4, _ | 5, _ | 6, _ | 7, _ | 8, _ | 9, _ => decide
theorem st_set4 {W w : World} {d b c : Nat} {x y z u : Value} (h : St W w d) (hd : d < W.heap.size) (hb : W.heap.size ≤ b) (hc : W.heap.size ≤ c) : St W ((((w.setCell ⟨b, 0, none⟩ x).setCell ⟨b, 1, none⟩ y).setCell ⟨c, 0, none⟩ z).setCell ⟨c, 1, none⟩ u) d := DL.set (DL.set (DL.set (DL.set h hd hb) hd hb) hd hc) hd hc
theorem st_set2a {W w : World} {d c : Nat} {z u : Value} {vs : List Value} {T : TypeId} (h : St W w d) (hd : d < W.heap.size) (hc : W.heap.size ≤ c) : St W (((w.setCell ⟨c, 0, none⟩ z).setCell ⟨c, 1, none⟩ u).alloc (.cells vs.toArray T)) d := (DL.set (DL.set h hd hc) hd hc).kept ((Below.refl _ _).alloc (Nat.le_refl _) _)
theorem rates_set {w : World} {G b o : Nat} {v : Value} (h : ∀ k : Nat, k < 10 → w.cell? ⟨G, k, none⟩ = some (.int .i64 (rateOf k))) (hne : b ≠ G) : ∀ k : Nat, k < 10 → (w.setCell ⟨b, o, none⟩ v).cell? ⟨G, k, none⟩ = some (.int .i64 (rateOf k)) := fun k hk => (World.cell?_setCell_far w _ _ v hne).trans (h k hk)
theorem rate_cells {W w : World} {d G : Nat} {T : TypeId} {L : List (Nat × List Value × TypeId)} (h : DL W w d ((G, [.int .i64 48000, .int .i64 48000, .int .i64 44100, .int .i64 96000, .int .i64 8000, .int .i64 32000, .int .i64 192000, .int .i64 1000, .int .i64 768000, .int .i64 47999], T) :: L)) : ∀ k : Nat, k < 10 → w.cell? ⟨G, k, none⟩ = some (.int .i64 (rateOf k)) := by
  intro k hk
  refine h.cell ?_
  match k, hk with
  | 0, _ | 1, _ | 2, _ | 3, _ | 4, _ | 5, _ | 6, _ | 7, _ | 8, _ | 9, _ => rfl
/-- terms of a ratio of usual rates -/
def Rt (P Q : Int) : Prop := ratV P Q = true ∧ P ≤ 768000 ∧ Q ≤ 768000
theorem rt_mk {a b : Int} (ha : 1 ≤ a ∧ a ≤ 768000) (hb : 1 ≤ b ∧ b ≤ 768000) : (mkV a b).2 = 0 ∧ Rt (mkV a b).1.1 (mkV a b).1.2 := by
  obtain ⟨q1, q2, q3, q4⟩ := quot_pos ha.1 hb.1
  have h1 : a / Int.gcd a b ≤ 68719476736 := Int.le_trans q3 (by omega)
  have h2 : b / Int.gcd a b ≤ 68719476736 := Int.le_trans q4 (by omega)
  have e : mkV a b = ((a / Int.gcd a b, b / Int.gcd a b), 0) := by
    unfold mkV
    rw [if_neg (by omega), if_pos ⟨h1, h2⟩]
  rw [e]
  exact ⟨rfl, ratV_true.2 ⟨⟨q1, h1⟩, ⟨q2, h2⟩, quot_coprime ha.1⟩, Int.le_trans q3 ha.2, Int.le_trans q4 hb.2⟩
theorem mk_rates (k j : Nat) (hk : k < 10) (hj : j < 10) (w : World) :
    Calls Try.prog 44 #[.int .i64 (rateOf k), .int .i64 (rateOf j)] w fun e w' => (∃ P Q : Int, e = .returned (.tuple #[.agg #[.int .i64 P, .int .i64 Q], .int .i64 0]) ∧ Rt P Q) ∧ Below w.heap.size w w' := by
  have h1 := rate_bd k hk
  have h2 := rate_bd j hj
  refine (rmake_any (rateOf k) (rateOf j) (by omega) (by omega) w).mono ?_
  rintro e w' ⟨rfl, hb⟩
  obtain ⟨hz, hr⟩ := rt_mk h1 h2
  exact ⟨⟨_, _, by rw [hz], hr⟩, hb⟩
set_option maxRecDepth 100000 in
set_option maxHeartbeats 16000000 in
theorem base_any (w : World) (d : Nat) (h : DiceAt w d) :
    Calls Try.prog 38 #[.pointer (some ⟨d, 0, none⟩)] w fun e w' => (∃ P Q : Int, e = .returned (.agg #[.int .i64 P, .int .i64 Q]) ∧ Rt P Q) ∧ DiceAt w' d ∧ But d w w' := by
  have hd := h.lt
  have hl := ((DL.start h).alloc (vs := [.int .i64 0, .int .i64 0]) (T := 23)).alloc (vs := [.int .i64 48000, .int .i64 48000, .int .i64 44100, .int .i64 96000, .int .i64 8000, .int .i64 32000, .int .i64 192000, .int .i64 1000, .int .i64 768000, .int .i64 47999]) (T := 2)
  simp only [World.size_alloc] at hl
  have hl0 := hl
  have hl := hl.drew
  have hc := rate_cells hl
  clear h
  go_enter Try.func38, Try.ntmps38
  go_upto_region 2 with (fail)
  generalize (w.alloc (.cells #[.int .i64 0, .int .i64 0] 23)).alloc (.cells #[.int .i64 48000, .int .i64 48000, .int .i64 44100, .int .i64 96000, .int .i64 8000, .int .i64 32000, .int .i64 192000, .int .i64 1000, .int .i64 768000, .int .i64 47999] 2) = W1 at *
  generalize hRR : w.heap.size = RB at *
  generalize hGG : RB + 1 = G at *
  have hs0 := hl0.st.but.size
  have hs1 := hl.st.but.size
  have hG0 : G < W1.drew.heap.size := DL.lt hl
  have hG1 : G < W1.heap.size := hG0
  have hn1 : ¬ (W1.heap.size = RB) := (by omega)
  have hn2 : ¬ (RB = W1.heap.size) := (by omega)
  go_region_held3 (fun w' => ∀ k : Nat, k < 10 → w'.cell? ⟨G, k, none⟩ = some (.int .i64 (rateOf k))) (first | assumption | exact rate_cells (by assumption) | exact rate_cells (DL.drop (by assumption)) | exact rate_cells (DL.drop (DL.alloc (by assumption))) | exact rates_set (rates_set (by assumption) (by omega)) (by omega) | (intro k hk; go_keep)) (first
    | (go_at_call 39; (with_reducible refine (next_dl w d _ 10 (by omega) (by omega) _ hl).mono ?_); rintro e w8 ⟨⟨r, rfl, r0, r1⟩, hl⟩; have hr : r.toNat < 10 := (by omega); have hsz := hl.st.but.size; have hGl : G < w8.heap.size := (by first | exact DL.lt hl | exact DL.lt (DL.drop hl)); have hlt1 : RB < w8.heap.size := (by omega); have hn1 : ¬ (w8.heap.size = RB) := (by omega); have hn2 : ¬ (RB = w8.heap.size) := (by omega); have hL := DL.facts hl; simp only [liveAt, cellsAt, and_true, Nat.zero_add, Nat.reduceAdd] at hL)
    | (have hl := (DL.alloc (vs := [.int .i64 0, .int .i64 0]) (T := 23) hl0).drew; go_at_call 39; (with_reducible refine (next_dl w d _ 10 (by omega) (by omega) _ hl).mono ?_); rintro e w8 ⟨⟨r, rfl, r0, r1⟩, hl⟩; have hr : r.toNat < 10 := (by omega); have hsz := hl.st.but.size; have hGl : G < w8.heap.size := (by first | exact DL.lt hl | exact DL.lt (DL.drop hl)); have hlt1 : RB < w8.heap.size := (by omega); have hn1 : ¬ (w8.heap.size = RB) := (by omega); have hn2 : ¬ (RB = w8.heap.size) := (by omega); have hL := DL.facts hl; simp only [liveAt, cellsAt, and_true, Nat.zero_add, Nat.reduceAdd] at hL)
    | (have hl := DL.alloc (vs := [.int .i64 0, .int .i64 0]) (T := 23) hl; go_at_call 39; (with_reducible refine (next_dl w d _ 10 (by omega) (by omega) _ hl).mono ?_); rintro e w8 ⟨⟨r, rfl, r0, r1⟩, hl⟩; have hr : r.toNat < 10 := (by omega); have hsz := hl.st.but.size; have hGl : G < w8.heap.size := (by first | exact DL.lt hl | exact DL.lt (DL.drop hl)); have hlt1 : RB < w8.heap.size := (by omega); have hn1 : ¬ (w8.heap.size = RB) := (by omega); have hn2 : ¬ (RB = w8.heap.size) := (by omega); have hL := DL.facts hl; simp only [liveAt, cellsAt, and_true, Nat.zero_add, Nat.reduceAdd] at hL)
    | (go_at_call 44; (with_reducible refine (mk_rates _ _ (by assumption) (by assumption) _).mono ?_); rintro e w8 ⟨⟨P, Q, rfl, hRt⟩, hb⟩; have hl := DL.kept hl hb; have hsz := hl.st.but.size; have hGl : G < w8.heap.size := (by first | exact DL.lt hl | exact DL.lt (DL.drop hl)); have hlt1 : RB < w8.heap.size := (by omega); have hn1 : ¬ (w8.heap.size = RB) := (by omega); have hn2 : ¬ (RB = w8.heap.size) := (by omega); have hL := DL.facts hl; simp only [liveAt, cellsAt, and_true, Nat.zero_add, Nat.reduceAdd] at hL)
    | (have hl := DL.alloc (vs := [.int .i64 0, .int .i64 0]) (T := 23) hl; go_at_call 44; (with_reducible refine (mk_rates _ _ (by assumption) (by assumption) _).mono ?_); rintro e w8 ⟨⟨P, Q, rfl, hRt⟩, hb⟩; have hl := DL.kept hl hb; have hsz := hl.st.but.size; have hGl : G < w8.heap.size := (by first | exact DL.lt hl | exact DL.lt (DL.drop hl)); have hlt1 : RB < w8.heap.size := (by omega); have hn1 : ¬ (w8.heap.size = RB) := (by omega); have hn2 : ¬ (RB = w8.heap.size) := (by omega); have hL := DL.facts hl; simp only [liveAt, cellsAt, and_true, Nat.zero_add, Nat.reduceAdd] at hL))
  all_goals (
    have hL := DL.facts hl
    simp only [liveAt, cellsAt, and_true, Nat.zero_add, Nat.reduceAdd] at hL
    have HL := hid hl
    have HR := hid hRt
    clear hl hl0 hc hRt
    go_wp2_with fail
    refine bodyPost_ret (by simp [results, Try.results38, go_sem, *]; try rfl) rfl ?_
    suffices hf : St w _ d from ⟨⟨P, Q, rfl, HR.out⟩, hf.dice, hf.but⟩
    first
      | exact st_set2a HL.out.st (by omega) (by omega)
      | exact st_set4 HL.out.st (by omega) (by omega) (by omega)
      | exact st_set4 (HL.out.st.kept (by go_grown)) (by omega) (by omega) (by omega))
end Go.Proofs.Ytmgkbgnjpgkdiaa
