/- A clock read: times of frames. No statement is proved here. -/
import Derived.Test.YteggelophhpnfaaClp
import Derived.Test.YteggelophhpnfaaL13I
namespace Go.Proofs.Yteggelophhpnfaa
open Go.ChangeShapes Go.WideShapes Go.ChangeAt Go.RowKit Go.Shelf
set_option linter.unusedVariables false
set_option linter.unusedSimpArgs false
attribute [local go_sem] Oper.semAt_some


theorem rep_tupA {p : Nat → Prop} {ρ : Rh} {w : World} {a b c v : Value} (h : RepPV p ρ w (.tup [.agg [.d (.lit a), .d (.lit b)], .c (.d (.lit c))]) v) : v = .tuple #[.agg #[a, b], c] := by
  obtain ⟨us, rfl, hu⟩ := h
  match us, hu with
  | [x, y], ⟨hx, hy, _⟩ =>
    obtain ⟨vs, rfl, hv⟩ := hx
    have e2 := rep_lit (show RepPV p ρ w (LV c) y from hy)
    match vs, hv with
    | [x1, x2], ⟨h1, h2, _⟩ =>
      have e3 := rep_lit (show RepPV p ρ w (LV a) x1 from h1)
      have e4 := rep_lit (show RepPV p ρ w (LV b) x2 from h2)
      subst e2; subst e3; subst e4; rfl
theorem inverse_calls (N W : Int) (w : World) : Calls Try.prog 37 #[.agg #[.int .i64 N, .int .i64 W]] w fun e w' => e = .returned (.tuple #[.agg #[.int .i64 (ivN N W), .int .i64 (ivW N W)], .int .i64 (ivE N W)]) ∧ Below w.heap.size w w' := by
  refine (Fun.calls (F_Inverse_p N W) (args := [.agg #[.int .i64 N, .int .i64 W]]) ⟨⟨[_, _], rfl, .d (.lit _ rfl), .d (.lit _ rfl), trivial⟩, trivial⟩).mono ?_
  rintro e w' ⟨⟨v, ρ', p, rfl, hv⟩, hb⟩
  exact ⟨by rw [rep_tupA hv], hb⟩
def ceV (n N W : Int) : Int := vR n N W (((0 - n) * N) / W) (0 - (((0 - n) * N) / W))
theorem ceil_calls (n N W : Int) (w : World) : Calls Try.prog 38 #[.int .i64 n, .agg #[.int .i64 N, .int .i64 W]] w fun e w' => (∃ u : Int, e = .returned (.tuple #[.int .i64 (ceV n N W), .int .i64 u])) ∧ Below w.heap.size w w' := by
  refine (Fun.calls (F_Ceil_p n N W) (args := [.int .i64 n, .agg #[.int .i64 N, .int .i64 W]]) ⟨.d (.lit _ rfl), ⟨[_, _], rfl, .d (.lit _ rfl), .d (.lit _ rfl), trivial⟩, trivial⟩).mono ?_
  rintro e w' ⟨⟨v, ρ', p, rfl, hv⟩, hb⟩
  exact ⟨⟨_, by rw [rep_tup2 hv]; rfl⟩, hb⟩
theorem valid_calls (l : List Int) (n : Nat) (hl : l.length = n * 3) (hm : n ≤ 1000000) (v : Value) (w : World) (hv : RepD (fun k => k < w.heap.size) w (.sl (dI .i64 l) n) v) : Calls Try.prog 17 #[.agg #[v]] w fun e w' => e = .returned (.bool (ckB l n)) ∧ Below w.heap.size w w' := by
  refine (Fun.calls (T_Valid l n hl hm) (args := [.agg #[v]]) ⟨⟨[v], rfl, .d (hv.mono (fun k hk => .inl hk) (Nat.le_refl _) (fun _ _ _ => rfl)), trivial⟩, trivial⟩).mono ?_
  rintro e w' ⟨⟨v', ρ', p, rfl, hv⟩, hb⟩
  have hv : RepC _ ρ' w' (.d (.lit (.bool (ckB l n)))) v' := hv
  cases hv with
  | d h => cases h; exact ⟨rfl, hb⟩

/-- the time of a frame that comes in stretch i -/
def tmW (l : List Int) (n : Nat) (f : Int) (i : Nat) : Int := wrap64 (l.getD (i * 3) 0 + ceV (wrap64 (f - psV l n 1099511627776 i)) (ivN (l.getD (i * 3 + 1) 0) (l.getD (i * 3 + 2) 0)) (ivW (l.getD (i * 3 + 1) 0) (l.getD (i * 3 + 2) 0)))
/-- the stretch in which a frame comes -/
def tmI (l : List Int) (n : Nat) (f : Int) : Nat → Nat → Nat
  | 0, i => i
  | m + 1, i => if f ≤ psV l n 1099511627776 (i + 1) then i else tmI l n f m (i + 1)
theorem tmI_of {l : List Int} {n : Nat} {f : Int} {k : Nat} : ∀ (m i : Nat), i ≤ k → (∀ j, j < k → ¬ f ≤ psV l n 1099511627776 (j + 1)) → (k = i + m ∨ (k < i + m ∧ f ≤ psV l n 1099511627776 (k + 1))) → tmI l n f m i = k
  | 0, i, h1, _, h3 => by show i = k; omega
  | m + 1, i, h1, h2, h3 => by
    unfold tmI
    by_cases hik : i < k
    · rw [if_neg (h2 i hik)]; exact tmI_of m (i + 1) hik h2 (by omega)
    · obtain rfl : i = k := by omega
      have h4 : f ≤ psV l n 1099511627776 (i + 1) := by rcases h3 with h3 | h3; omega; exact h3.2
      rw [if_pos h4]
def tmV (l : List Int) (n : Nat) (f : Int) : Int := if ckB l n = true ∧ 0 ≤ f ∧ tmI l n f n 0 < n then tmW l n f (tmI l n f n 0) else 0
def tmE (l : List Int) (n : Nat) (f : Int) : Int := if ckB l n = true then (if 0 ≤ f then (if tmI l n f n 0 < n then 0 else 13) else 2) else 1

theorem results_cells2 {fn : Func} {p u : Tmp} {t1 t2 : TypeId} (h : fn.results = #[.cell p t1, .cell u t2]) (ht1 : tyOf Try.prog t1 = some (false, 1)) (ht2 : tyOf Try.prog t2 = some (false, 1)) (tmps : Array Value) (w : World) {a b : Addr} {x y : Value}
    (hp : tmps.getD p undef = .pointer (some a)) (hu : tmps.getD u undef = .pointer (some b)) (hx : w.cell? a = some x) (hy : w.cell? b = some y) : (results fn tmps).run Try.prog w = .ok (.tuple #[x, y]) w := by
  rw [Array.getD_eq_getD_getElem?] at hp hu
  simp only [results, h]
  simp [hp, hu, asAddr, loadVar, tyOf_agg ht1, tyOf_agg ht2, hx, hy]
theorem keeps_bel {B : Nat} {X Y : World} (h : Below X.heap.size X Y) : KeepsFrom B X Y := (KeepsOthers.of_grownBy (grown_bel h) (fun j o e => by cases e)).from B
theorem boxes4 (w : World) (T1 T2 T3 T4 : TypeId) (v1 v2 v3 v4 : Value) {W4 : World} (h : (((w.alloc (.cells #[v1] T1)).alloc (.cells #[v2] T2)).alloc (.cells #[v3] T3)).alloc (.cells #[v4] T4) = W4) :
    Boxed W4 w.heap.size T1 v1 ∧ Boxed W4 (w.heap.size + 1) T2 v2 ∧ Boxed W4 (w.heap.size + 2) T3 v3 ∧ Boxed W4 (w.heap.size + 3) T4 v4 ∧ Below w.heap.size w W4 ∧ W4.heap.size = w.heap.size + 4 := by
  subst h
  have b1 := Boxed.new w T1 v1
  have b2 := Boxed.new (w.alloc (.cells #[v1] T1)) T2 v2
  have b3 := Boxed.new ((w.alloc (.cells #[v1] T1)).alloc (.cells #[v2] T2)) T3 v3
  have b4 := Boxed.new (((w.alloc (.cells #[v1] T1)).alloc (.cells #[v2] T2)).alloc (.cells #[v3] T3)) T4 v4
  simp only [World.size_alloc, Nat.add_assoc, Nat.reduceAdd] at b2 b3 b4
  exact ⟨((b1.alloc _).alloc _).alloc _, (b2.alloc _).alloc _, b3.alloc _, b4, ((((Below.refl _ w).alloc (Nat.le_refl _) _).alloc (by simp) _).alloc (by simp; omega) _).alloc (by simp; omega) _, by simp⟩
theorem boxed_bel {A B : World} (h : Below A.heap.size A B) {b : Nat} {T : TypeId} {v : Value} (hb : Boxed A b T v) : Boxed B b T v := (h.block b hb.lt).trans hb
theorem repD_seg {l : List Int} {n b off cap : Nat} {w : World} (hl : l.length = n * 3) (hn : n ≤ cap) (hc : cap ≤ maxLen) (hb : b < w.heap.size) (h : ∀ i, i < n * 3 → w.cell? ⟨b, off + i, none⟩ = some (.int .i64 (l.getD i 0))) :
    RepD (fun k => k < w.heap.size) w (.sl (dI .i64 l) n) (.slice (some ⟨b, off, none⟩) n cap) := by
  refine .sl (dI .i64 l) (l.map fun x => .int .i64 x) b off n cap (by simp [dI]) ?_ ?_ hb hb hn hc
  · intro i u hu
    have hi : i < l.length := by
      have := (List.getElem?_eq_some_iff.1 hu).1
      simpa using this
    have e : u = .int .i64 (l.getD i 0) := by
      simp [hi] at hu
      subst hu
      simp [List.getD_eq_getElem?_getD, hi]
    rw [e]
    exact h i (by omega)
  · intro i d u hd hu
    simp [dI] at hd hu
    obtain ⟨x, hx, rfl⟩ := hd
    obtain ⟨y, hy, rfl⟩ := hu
    rw [hx] at hy
    cases hy
    exact .lit _ rfl

set_option maxRecDepth 100000 in
set_option maxHeartbeats 4000000 in
theorem tm_in (n : Nat) (hn : 4 ≤ n) (b off nn cap : Nat) (l : List Int) (f : Int) (w : World)
    (hnn : nn ≤ cap) (hcap : cap ≤ maxLen) (hlen : l.length = nn * 3) (hck : ckB l nn = true) (hf : 0 ≤ f)
    (hb0 : b < w.heap.size) (hb : ∀ i, i < nn * 3 → w.cell? ⟨b, off + i, none⟩ = some (.int .i64 (l.getD i 0))) :
    CallsIn Fence.wide n Try.prog 23 #[.agg #[.slice (some ⟨b, off, none⟩) nn cap], .int .i64 f] w fun e w' => e = .returned (.tuple #[.int .i64 (tmV l nn f), .int .i64 (tmE l nn f)]) ∧ Below w.heap.size w w' := by
  have h1 : 1 ≤ n := by omega
  have hn64 := (ck_of hck).1
  have hrg := hid (ck_rg hck)
  have ht0 : (0 : Int) ≤ 1099511627776 ∧ (1099511627776 : Int) ≤ 1099511627776 := by omega
  refine callsIn_of_wp_marks Try.func23 rfl trivial ?_ rfl
  simp only [Try.ntmps23, List.size_toArray, List.length_cons, List.length_nil, Nat.reduceAdd, Nat.reduceSub, Array.replicate_succ, Array.replicate_zero, List.push_toArray, List.append_toArray, List.nil_append, List.cons_append]
  replace hb := hid hb; replace hck := hid hck; replace ht0 := hid ht0
  gi_upto_region 1 with (fail)
  obtain ⟨W4, hW4⟩ : ∃ W4, (((w.alloc (.cells #[.slice (some ⟨b, off, none⟩) nn cap] 24)).alloc (.cells #[.int .i64 f] 2)).alloc (.cells #[.int .i64 0] 2)).alloc (.cells #[.int .i64 0] 30) = W4 := ⟨_, rfl⟩
  obtain ⟨g1, g2, g3, g4, hB4, hs4⟩ := boxes4 w _ 2 2 30 _ _ _ _ hW4
  rw [hW4]
  simp only [Nat.add_assoc, Nat.reduceAdd]
  have hb4 : ∀ i, i < nn * 3 → W4.cell? ⟨b, off + i, none⟩ = some (.int .i64 (l.getD i 0)) := fun i hi => (hB4.cell hb0).trans (hb.out i hi)
  have hv : ∀ W' : World, b < W'.heap.size → (∀ i, i < nn * 3 → W'.cell? ⟨b, off + i, none⟩ = some (.int .i64 (l.getD i 0))) → Calls Try.prog 17 #[.agg #[.slice (some ⟨b, off, none⟩) nn cap]] W' fun e w' => e = .returned (.bool true) ∧ Below W'.heap.size W' w' := by
    intro W' h8 h9
    have h7 := valid_calls l nn hlen (by omega) (.slice (some ⟨b, off, none⟩) nn cap) W' (repD_seg hlen hnn hcap h8 h9)
    rw [hck.out] at h7
    exact h7
  replace hv := hid hv; replace hb4 := hid hb4
  have c1 := g1.cell
  clear hW4
  gi_wp2
  refine ⟨trivial, ?_⟩
  gi_at_call 17
  refine (callsIn_wide.2 (hv.out _ (by omega) hb4.out)).mono ?_
  rintro e W5 ⟨rfl, hb5⟩
  replace g1 := boxed_bel hb5 g1
  replace g2 := boxed_bel hb5 g2
  replace g3 := boxed_bel hb5 g3
  replace g4 := boxed_bel hb5 g4
  have hB5 : Below w.heap.size w W5 := hB4.trans (hb5.mono (by omega))
  have hs5 : w.heap.size + 4 ≤ W5.heap.size := by have := hb5.size; omega
  replace hb4 : Hid (∀ i, i < nn * 3 → W5.cell? ⟨b, off + i, none⟩ = some (.int .i64 (l.getD i 0))) := hid (fun i hi => bel_cell hb5 (hb4.out i hi))
  clear hb5 hB4 hs4 hv
  replace c1 := g1.cell
  have c2 := g2.cell
  have hf' : ¬ f < 0 := by omega
  gi_wp2
  refine ⟨trivial, ?_⟩
  gi_at_call 36
  refine (str_in (n - 1) _ rfl 1099511627776 _ b off nn cap rfl).mono ?_
  rintro e w' ⟨rfl, rfl⟩
  obtain ⟨W6, hW6⟩ : ∃ W6, (W5.alloc (.cells #[.slice (some ⟨b, off, none⟩) nn cap] 24)).alloc (.cells #[.int .i64 1099511627776] 2) = W6 := ⟨_, rfl⟩
  have hs6 : W6.heap.size = W5.heap.size + 2 := by rw [← hW6]; simp
  have cC : W6.cell? ⟨W5.heap.size, 0, none⟩ = some (.slice (some ⟨b, off, none⟩) nn cap) := by rw [← hW6]; exact ((Boxed.new W5 _ _).alloc _).cell
  have cT : W6.cell? ⟨W5.heap.size + 1, 0, none⟩ = some (.int .i64 1099511627776) := by rw [← hW6]; have := (Boxed.new (W5.alloc (.cells #[.slice (some ⟨b, off, none⟩) nn cap] 24)) 2 (.int .i64 1099511627776)).cell; rwa [World.size_alloc] at this
  have k2 : Boxed W6 (w.heap.size + 1) 2 (.int .i64 f) := by rw [← hW6]; exact (g2.alloc _).alloc _
  have k3 : Boxed W6 (w.heap.size + 2) 2 (.int .i64 0) := by rw [← hW6]; exact (g3.alloc _).alloc _
  have k4 : Boxed W6 (w.heap.size + 3) 30 (.int .i64 0) := by rw [← hW6]; exact (g4.alloc _).alloc _
  have hB6 : Below w.heap.size w W6 := by rw [← hW6]; exact (hB5.alloc hB5.size _).alloc (by simp; omega) _
  have hb6 : ∀ i, i < nn * 3 → W6.cell? ⟨b, off + i, none⟩ = some (.int .i64 (l.getD i 0)) := by rw [← hW6]; exact fun i hi => cell_al _ (cell_al _ (hb4.out i hi))
  rw [hW6]
  obtain ⟨Z, hZ⟩ : ∃ Z, W5.heap.size = Z := ⟨_, rfl⟩
  rw [hZ] at cC cT hs6 hs5 ⊢
  clear hW6 g1 g2 g3 g4 c1 c2 hB5 hb4 hZ
  gi_wp2
  refine wpIn_rangeFunc_ownH rfl h1 (gf := 50) (lb := #[.pointer (some ⟨Z, 0, none⟩), .pointer (some ⟨Z + 1, 0, none⟩)]) rfl trivial (enters_of Try.func50 (by kernel_rfl) rfl)
    (it_stops (n - 1) (by omega) Z (Z + 1) b off nn cap l 1099511627776 (fun k => k < Z + 2) W6 (by omega) (by omega) (by omega) hnn hcap hn64.1 hn64.2 hlen hrg.out ht0.out cC cT hb6)
    KpS.trans (kpS_b (fun k hk => by rw [hs6]; exact hk)) (Below.refl _ _) (fun _ => rfl)
    (fun pre W => ((∀ y ∈ pre, ¬ f ≤ psV l nn 1099511627776 (y + 1)) ∧ Boxed W (w.heap.size + 1) 2 (.int .i64 f) ∧ Boxed W (w.heap.size + 2) 2 (.int .i64 0) ∧ Boxed W (w.heap.size + 3) 30 (.int .i64 0)) ∧ Below w.heap.size w W)
    (fun c pre W => c = .ret ∧ (∃ p x, pre = p ++ [x] ∧ (∀ y ∈ p, ¬ f ≤ psV l nn 1099511627776 (y + 1)) ∧ f ≤ psV l nn 1099511627776 (x + 1) ∧ Boxed W (w.heap.size + 2) 2 (.int .i64 (tmW l nn f x)) ∧ Boxed W (w.heap.size + 3) 30 (.int .i64 0)) ∧ Below w.heap.size w W)
    (OwnFrom.and (OwnFrom.and (ownFrom_pure _ _) (OwnFrom.and (Own.from (boxed_own _ _ _) _) (OwnFrom.and (Own.from (boxed_own _ _ _) _) (Own.from (boxed_own _ _ _) _)))) (ownFrom_below (Nat.le_refl _) (by omega)))
    (fun c s X Y row hs hg hr => by
      obtain ⟨hc, ⟨p, x, e1, e2, e3, e4, e5⟩, e6⟩ := hs
      exact ⟨hc, ⟨p, x, e1, e2, e3, boxed_own _ _ (fun (_ : Unit) => Value.int .i64 (tmW l nn f x)) () X Y row e4 hg (fun r e => (hr r e).2), boxed_own _ _ (fun (_ : Unit) => Value.int .i64 0) () X Y row e5 hg (fun r e => (hr r e).2)⟩, ownFrom_below (Nat.le_refl _) (by omega) () X Y row e6 hg hr⟩)
    ⟨⟨(fun y hy => by cases hy), k2, k3, k4⟩, hB6⟩
    (fun x a' W => ∃ Bx, w.heap.size + 3 < Bx ∧ (W.cell? ⟨Bx, 0, none⟩ = some (.int .i64 (l.getD (x * 3) 0)) ∧ W.cell? ⟨Bx, 1, none⟩ = some (.int .i64 (l.getD (x * 3 + 1) 0)) ∧ W.cell? ⟨Bx, 2, none⟩ = some (.int .i64 (l.getD (x * 3 + 2) 0)) ∧ W.cell? ⟨Bx, 4, none⟩ = some (.int .i64 (psV l nn 1099511627776 x)) ∧ W.cell? ⟨Bx, 5, none⟩ = some (.int .i64 (psV l nn 1099511627776 (x + 1)))) ∧ a' = { tmps := #[.agg #[.slice (some ⟨b, off, none⟩) nn cap], .int .i64 f, .pointer (some ⟨w.heap.size, 0, none⟩), .pointer (some ⟨w.heap.size + 1, 0, none⟩), .pointer (some ⟨w.heap.size + 2, 0, none⟩), .pointer (some ⟨w.heap.size + 3, 0, none⟩), .pointer (some ⟨Bx, 0, none⟩), undef, undef, undef, undef, .agg #[.slice (some ⟨b, off, none⟩) nn cap], .bool true, .bool false, .int .i64 f, .bool (decide (f < 0)), .agg #[.slice (some ⟨b, off, none⟩) nn cap], .func (.func 50) #[] #[.pointer (some ⟨Z, 0, none⟩), .pointer (some ⟨Z + 1, 0, none⟩)], encV l nn 1099511627776 x, undef, undef, undef, undef, undef, undef, undef, undef, undef, undef, undef, undef, undef, undef, undef, undef, undef, undef, undef, undef, undef, undef, undef, undef, undef], defers := [] })
    (fun x a' _ X Y row hs hg hr => by obtain ⟨Bx, h1, ⟨c0, c1, c2, c4, c5⟩, h3⟩ := hs; exact ⟨Bx, h1, ⟨cell_kept c0 hg (fun r e => (hr r e).2), cell_kept c1 hg (fun r e => (hr r e).2), cell_kept c2 hg (fun r e => (hr r e).2), cell_kept c4 hg (fun r e => (hr r e).2), cell_kept c5 hg (fun r e => (hr r e).2)⟩, h3⟩)
    ?assign ?body ?done ?stop
  case assign =>
    rintro ly pre x W K ⟨⟨hp, k2, k3, k4⟩, hB⟩ hK
    obtain ⟨e1, e2, e3, e4, e5, e6, henc, he1, he2, he3, he5, he6⟩ : ∃ e1 e2 e3 e4 e5 e6, encV l nn 1099511627776 x = .agg #[.int .i64 e1, .int .i64 e2, .int .i64 e3, .int .i64 e4, .int .i64 e5, .int .i64 e6] ∧ l.getD (x * 3) 0 = e1 ∧ l.getD (x * 3 + 1) 0 = e2 ∧ l.getD (x * 3 + 2) 0 = e3 ∧ psV l nn 1099511627776 x = e5 ∧ psV l nn 1099511627776 (x + 1) = e6 := ⟨_, _, _, _, _, _, rfl, rfl, rfl, rfl, rfl, rfl⟩
    rw [henc, he1, he2, he3, he5, he6] at hK
    rw [henc]
    clear henc he1 he2 he3 he5 he6
    replace hp := hid hp
    gi_wp2
    exact hK _ _ ((KeepsOthers.alloc _ _).from _) (KpS.of_below ((Below.refl _ W).alloc (Nat.le_refl _) _)) ⟨⟨hp.out, k2.alloc _, k3.alloc _, k4.alloc _⟩, hB.alloc hB.size _⟩ ⟨W.heap.size, k4.lt, ⟨cell_nw (vs := [.int .i64 e1, .int .i64 e2, .int .i64 e3, .int .i64 e4, .int .i64 e5, .int .i64 e6]) 0 rfl, cell_nw (vs := [.int .i64 e1, .int .i64 e2, .int .i64 e3, .int .i64 e4, .int .i64 e5, .int .i64 e6]) 1 rfl, cell_nw (vs := [.int .i64 e1, .int .i64 e2, .int .i64 e3, .int .i64 e4, .int .i64 e5, .int .i64 e6]) 2 rfl, cell_nw (vs := [.int .i64 e1, .int .i64 e2, .int .i64 e3, .int .i64 e4, .int .i64 e5, .int .i64 e6]) 4 rfl, cell_nw (vs := [.int .i64 e1, .int .i64 e2, .int .i64 e3, .int .i64 e4, .int .i64 e5, .int .i64 e6]) 5 rfl⟩, rfl⟩
  case body =>
    rintro ly pre x a' W hl ⟨r, hr⟩ ⟨⟨hp, k2, k3, k4⟩, hB⟩ ⟨Bx, hBx, ⟨c0, c1, c2, c4, c5⟩, rfl⟩ hlt
    have cf := k2.cell
    obtain ⟨R, hR⟩ : ∃ R, psV l nn 1099511627776 (x + 1) = R := ⟨_, rfl⟩
    obtain ⟨P, hP⟩ : ∃ R, psV l nn 1099511627776 x = R := ⟨_, rfl⟩
    obtain ⟨A, hA⟩ : ∃ R, l.getD (x * 3) 0 = R := ⟨_, rfl⟩
    obtain ⟨N, hN⟩ : ∃ R, l.getD (x * 3 + 1) 0 = R := ⟨_, rfl⟩
    obtain ⟨D, hD⟩ : ∃ R, l.getD (x * 3 + 2) 0 = R := ⟨_, rfl⟩
    rw [hR] at c5; rw [hP] at c4; rw [hA] at c0; rw [hN] at c1; rw [hD] at c2
    obtain ⟨EV, hEV⟩ : ∃ R, encV l nn 1099511627776 x = R := ⟨_, rfl⟩
    rw [hEV]
    replace hR := hid hR; replace hP := hid hP; replace hA := hid hA; replace hN := hid hN; replace hD := hid hD; replace hEV := hid hEV; replace hp := hid hp
    obtain ⟨bf, hbf⟩ : ∃ bf, decide (f < 0) = bf := ⟨_, rfl⟩
    rw [hbf]; clear hbf
    have h1' : 1 ≤ n - 1 - 1 := by omega
    by_cases hg : f ≤ R
    · gi_wp2
      refine ⟨trivial, ?_⟩
      gi_at_call 37
      refine (CallsIn.inRound ly (callsIn_wide.2 (inverse_calls N D _))).mono ?_
      rintro e W1 ⟨rfl, hb1⟩
      obtain ⟨I1, hI1⟩ : ∃ R, ivN N D = R := ⟨_, rfl⟩
      obtain ⟨I2, hI2⟩ : ∃ R, ivW N D = R := ⟨_, rfl⟩
      obtain ⟨I3, hI3⟩ : ∃ R, ivE N D = R := ⟨_, rfl⟩
      rw [hI1, hI2, hI3]
      replace hI1 := hid hI1; replace hI2 := hid hI2; clear hI3
      have hB1 : Below w.heap.size w W1 := hB.trans (hb1.mono hB.size)
      have hq1 : KeepsFrom W6.heap.size W W1 := keeps_bel hb1
      replace k2 := boxed_bel hb1 k2; replace k3 := boxed_bel hb1 k3; replace k4 := boxed_bel hb1 k4
      replace c0 := bel_cell hb1 c0; replace c4 := bel_cell hb1 c4
      clear hb1 c1 c2 c5 cf hr
      gi_upto_region 9 with (fail)
      have d1 := cell_nw (w := W1) (vs := [.int .i64 I1, .int .i64 I2]) (T := 27) 0 rfl
      have d2 := cell_nw (w := W1) (vs := [.int .i64 I1, .int .i64 I2]) (T := 27) 1 rfl
      obtain ⟨W2, hW2⟩ : ∃ W2, W1.alloc (.cells #[.int .i64 I1, .int .i64 I2] 27) = W2 := ⟨_, rfl⟩
      have hq2 : KeepsFrom W6.heap.size W W2 := by rw [← hW2]; exact hq1.trans ((KeepsOthers.alloc _ _).from _)
      have hB2 : Below w.heap.size w W2 := by rw [← hW2]; exact hB1.alloc hB1.size _
      have m2 : Boxed W2 (w.heap.size + 1) 2 (.int .i64 f) := by rw [← hW2]; exact k2.alloc _
      have m3 : Boxed W2 (w.heap.size + 2) 2 (.int .i64 0) := by rw [← hW2]; exact k3.alloc _
      have m4 : Boxed W2 (w.heap.size + 3) 30 (.int .i64 0) := by rw [← hW2]; exact k4.alloc _
      have n0 : W2.cell? ⟨Bx, 0, none⟩ = some (.int .i64 A) := by rw [← hW2]; exact cell_al _ c0
      have n4 : W2.cell? ⟨Bx, 4, none⟩ = some (.int .i64 P) := by rw [← hW2]; exact cell_al _ c4
      obtain ⟨By, hBy⟩ : ∃ By, W1.heap.size = By := ⟨_, rfl⟩
      rw [hBy] at d1 d2
      simp only [hW2, hBy] at d1 d2 ⊢
      clear hW2 hBy hq1 hB1 k2 k3 k4 c0 c4
      have m2c := m2.cell
      obtain ⟨V, hV⟩ : ∃ R, wrap64 (f - P) = R := ⟨_, rfl⟩
      gi_wp2
      refine ⟨trivial, ?_⟩
      gi_at_call 38
      refine (CallsIn.inRound ly (callsIn_wide.2 (ceil_calls V I1 I2 _))).mono ?_
      rintro e W3 ⟨⟨u, rfl⟩, hb1⟩
      obtain ⟨Y, hY⟩ : ∃ R, ceV V I1 I2 = R := ⟨_, rfl⟩
      rw [hY]
      have hB3 : Below w.heap.size w W3 := hB2.trans (hb1.mono hB2.size)
      have hq3 : KeepsFrom W6.heap.size W W3 := hq2.trans (keeps_bel hb1)
      replace m3 := boxed_bel hb1 m3; replace m4 := boxed_bel hb1 m4
      replace n0 := bel_cell hb1 n0
      have f3 := m3.frozen
      have f4 := m4.frozen
      have c3 := m3.cell
      have c4 := m4.cell
      have hy : tmW l nn f x = wrap64 (A + Y) := by unfold tmW; rw [hA.out, hP.out, hN.out, hD.out, hI1.out, hI2.out, hV, hY]
      replace hV := hid hV; replace hY := hid hY; replace hy := hid hy
      clear hb1 m2 m2c n4 d1 d2 hB2 hq2
      gi_wp2
      rw [hs6] at hq3
      refine ⟨(hq3.trans ((KeepsOthers.setCell _ _ _).from _)).trans ((KeepsOthers.setCell _ _ _).from _), rfl, ⟨pre, x, rfl, (fun y hy => by have := hp.out y hy; omega), by rw [hR.out]; exact hg, ?_, ?_⟩, (hB3.setCell (p := ⟨w.heap.size + 2, 0, none⟩) (by simp) _).setCell (p := ⟨w.heap.size + 3, 0, none⟩) (by simp) _⟩
      · rw [hy.out]; exact (m3.set _).other (by omega) _
      · exact (m4.other (by omega) _).set _
    · have hg' : R < f := by omega
      gi_wp2
      refine ⟨KeepsFrom.refl _ _, KpS.of_below (Below.refl _ _), ⟨⟨fun y hy => ?_, k2, k3, k4⟩, hB⟩⟩
      rcases List.mem_append.1 hy with hy | hy
      · exact hp.out y hy
      · rw [List.mem_singleton.1 hy, hR.out]; exact hg
  case done =>
    rintro D xs W hD ⟨k, rfl, hk, hle, hlast⟩ ⟨⟨hp, k2, k3, k4⟩, hB⟩ hK
    have hkn : k = nn := by
      rcases hlast with h | h
      · exact h
      · by_cases h9 : k = nn
        · exact h9
        · have := (hrg.out k (by omega)).2; omega
    have hti : tmI l nn f nn 0 = nn := tmI_of nn 0 (Nat.zero_le _) (fun j hj => hp j (List.mem_range.2 (by omega))) (.inl (by omega))
    have hV : tmV l nn f = 0 := by unfold tmV; rw [hti, if_neg (fun h => Nat.lt_irrefl _ h.2.2)]
    have hE : tmE l nn f = 13 := by unfold tmE; rw [hti, if_pos hck.out, if_pos hf, if_neg (Nat.lt_irrefl _)]
    have f3 := k3.frozen
    have f4 := k4.frozen
    have c3 := k3.cell
    have c4 := k4.cell
    replace hp := hid hp; replace hle := hid hle; replace hV := hid hV; replace hE := hid hE; clear hti hlast
    obtain ⟨bf, hbf⟩ : ∃ bf, decide (f < 0) = bf := ⟨_, rfl⟩
    rw [hbf]; clear hbf
    gi_wp2
    refine ⟨by simp, .inl ⟨_, _, rfl, run_takeDeferred ?_, ?_⟩⟩
    · exact (KeepsOthers.setCell _ _ _).same D _ ((KeepsOthers.setCell _ _ _).same D _ hK rfl) rfl
    · have m3 : Boxed (W.setCell ⟨w.heap.size + 2, 0, none⟩ (.int .i64 0)) (w.heap.size + 2) 2 (.int .i64 0) := k3.set _
      have m4 : Boxed ((W.setCell ⟨w.heap.size + 2, 0, none⟩ (.int .i64 0)).setCell ⟨w.heap.size + 3, 0, none⟩ (.int .i64 13)) (w.heap.size + 3) 30 (.int .i64 13) := (k4.other (by omega) _).set _
      have m3' := m3.other (B' := w.heap.size + 3) (by omega) (.int .i64 13)
      have hK' := (KeepsOthers.setCell (W.setCell ⟨w.heap.size + 2, 0, none⟩ (.int .i64 0)) ⟨w.heap.size + 3, 0, none⟩ (.int .i64 13)).same D _ ((KeepsOthers.setCell W ⟨w.heap.size + 2, 0, none⟩ (.int .i64 0)).same D _ hK rfl) rfl
      refine ⟨_, results_cells2 rfl (by kernel_rfl) (by kernel_rfl) _ _ rfl rfl (cell_kept m3'.cell (grownBy_putObj' _ D (.deferred none)) (fun r e => by cases e; exact ⟨_, hK', rfl⟩)) (cell_kept m4.cell (grownBy_putObj' _ D (.deferred none)) (fun r e => by cases e; exact ⟨_, hK', rfl⟩)), by rw [hV.out, hE.out], ?_⟩
      exact ((hB.setCell (p := ⟨w.heap.size + 2, 0, none⟩) (by simp) _).setCell (p := ⟨w.heap.size + 3, 0, none⟩) (by simp) _).trans (belowK_b (w := w) (Nat.le_refl _) _ D _ _ (by omega) hK' rfl rfl)
  case stop =>
    rintro D c pre W hD ⟨k, rfl, hk, hle⟩ ⟨rfl, ⟨p, x, hpx, hp, hx, k3, k4⟩, hB⟩ hK
    rw [List.range_succ] at hpx
    have hpx2 := List.append_inj' hpx rfl
    obtain rfl : k = x := by simpa using hpx2.2
    have hpr := hpx2.1
    subst hpr
    have hti : tmI l nn f nn 0 = k := tmI_of nn 0 (Nat.zero_le _) (fun j hj => hp j (List.mem_range.2 hj)) (.inr ⟨by omega, hx⟩)
    have hV : tmV l nn f = tmW l nn f k := by unfold tmV; rw [hti, if_pos ⟨hck.out, hf, hk⟩]
    have hE : tmE l nn f = 0 := by unfold tmE; rw [hti, if_pos hck.out, if_pos hf, if_pos hk]
    replace hp := hid hp; replace hle := hid hle; replace hV := hid hV; replace hE := hid hE; clear hti hpx hpx2 hx
    gi_wp2
    refine ⟨by simp, .inl ⟨_, _, rfl, run_takeDeferred hK, ?_⟩⟩
    refine ⟨_, results_cells2 rfl (by kernel_rfl) (by kernel_rfl) _ _ rfl rfl (cell_kept k3.cell (grownBy_putObj' _ D (.deferred none)) (fun r e => by cases e; exact ⟨_, hK, rfl⟩)) (cell_kept k4.cell (grownBy_putObj' _ D (.deferred none)) (fun r e => by cases e; exact ⟨_, hK, rfl⟩)), by rw [hV.out, hE.out], ?_⟩
    exact hB.trans (belowK_b (w := w) (Nat.le_refl _) W D _ _ (by omega) hK rfl rfl)

set_option maxRecDepth 100000 in
set_option maxHeartbeats 4000000 in
theorem tm_bad (n : Nat) (hn : 4 ≤ n) (a : Option Addr) (nn cap : Nat) (f er : Int) (w : World) (bo : Bool)
    (hv : ∀ W' : World, Below w.heap.size w W' → Calls Try.prog 17 #[.agg #[.slice a nn cap]] W' fun e w' => e = .returned (.bool bo) ∧ Below W'.heap.size W' w')
    (hbo : (bo = false ∧ er = 1) ∨ (bo = true ∧ f < 0 ∧ er = 2)) :
    CallsIn Fence.wide n Try.prog 23 #[.agg #[.slice a nn cap], .int .i64 f] w fun e w' => e = .returned (.tuple #[.int .i64 0, .int .i64 er]) ∧ Below w.heap.size w w' := by
  have h1 : 1 ≤ n := by omega
  refine callsIn_of_wp Try.func23 rfl trivial ?_ rfl
  simp only [Try.ntmps23, List.size_toArray, List.length_cons, List.length_nil, Nat.reduceAdd, Nat.reduceSub, Array.replicate_succ, Array.replicate_zero, List.push_toArray, List.append_toArray, List.nil_append, List.cons_append]
  replace hv := hid hv; replace hbo := hid hbo
  gi_upto_region 1 with (fail)
  obtain ⟨W4, hW4⟩ : ∃ W4, (((w.alloc (.cells #[.slice a nn cap] 24)).alloc (.cells #[.int .i64 f] 2)).alloc (.cells #[.int .i64 0] 2)).alloc (.cells #[.int .i64 0] 30) = W4 := ⟨_, rfl⟩
  obtain ⟨g1, g2, g3, g4, hB4, hs4⟩ := boxes4 w _ 2 2 30 _ _ _ _ hW4
  rw [hW4]
  simp only [Nat.add_assoc, Nat.reduceAdd]
  have c1 := g1.cell
  clear hW4
  gi_wp2
  refine ⟨trivial, ?_⟩
  gi_at_call 17
  refine (callsIn_wide.2 (hv.out _ hB4)).mono ?_
  rintro e W5 ⟨rfl, hb5⟩
  replace g2 := boxed_bel hb5 g2
  replace g3 := boxed_bel hb5 g3
  replace g4 := boxed_bel hb5 g4
  have hB5 : Below w.heap.size w W5 := hB4.trans (hb5.mono (by omega))
  clear hb5 hB4 hs4 hv g1 c1
  have c2 := g2.cell
  have f3 := g3.frozen
  have f4 := g4.frozen
  have c3 := g3.cell
  have c4 := g4.cell
  have fin : ∀ er : Int, ∃ v, (results Try.f23 #[.agg #[.slice a nn cap], .int .i64 f, .pointer (some ⟨w.heap.size, 0, none⟩)]).run Try.prog W5 = v := fun _ => ⟨_, rfl⟩
  clear fin
  have m : ∀ er : Int, Boxed ((W5.setCell ⟨w.heap.size + 2, 0, none⟩ (.int .i64 0)).setCell ⟨w.heap.size + 3, 0, none⟩ (.int .i64 er)) (w.heap.size + 2) 2 (.int .i64 0) ∧ Boxed ((W5.setCell ⟨w.heap.size + 2, 0, none⟩ (.int .i64 0)).setCell ⟨w.heap.size + 3, 0, none⟩ (.int .i64 er)) (w.heap.size + 3) 30 (.int .i64 er) ∧ Below w.heap.size w ((W5.setCell ⟨w.heap.size + 2, 0, none⟩ (.int .i64 0)).setCell ⟨w.heap.size + 3, 0, none⟩ (.int .i64 er)) := fun er =>
    ⟨(g3.set _).other (by omega) _, (g4.other (by omega) _).set _, (hB5.setCell (p := ⟨w.heap.size + 2, 0, none⟩) (by simp) _).setCell (p := ⟨w.heap.size + 3, 0, none⟩) (by simp) _⟩
  replace m := hid m
  rcases hbo.out with ⟨rfl, rfl⟩ | ⟨rfl, hf, rfl⟩
  · clear hbo
    gi_wp2
    refine bodyPost_ret (results_cells2 rfl (by kernel_rfl) (by kernel_rfl) _ _ rfl rfl (m.out 1).1.cell (m.out 1).2.1.cell) rfl ⟨rfl, (m.out 1).2.2⟩
  · clear hbo
    gi_wp2
    refine bodyPost_ret (results_cells2 rfl (by kernel_rfl) (by kernel_rfl) _ _ rfl rfl (m.out 2).1.cell (m.out 2).2.1.cell) rfl ⟨rfl, (m.out 2).2.2⟩

theorem lit_tup2 (p : Nat → Prop) (ρ : Rh) (w : World) (x y : Int) : RepPV p ρ w (.tup [iE x, iE y]) (.tuple #[.int .i64 x, .int .i64 y]) := ⟨[_, _], rfl, .d (.lit _ rfl), .d (.lit _ rfl), trivial⟩
theorem seg_any {p : Nat → Prop} {w : World} {l : List Int} {n : Nat} {v : Value} (h : RepD p w (.sl (dI .i64 l) n) v) : ∃ a cap, v = .slice a n cap := by
  generalize hd : dI .i64 l = ds at h
  cases h with
  | nil a cap hm ha => exact ⟨a, cap, rfl⟩
  | sl _ us b off _ cap hl2 hc hr hp hb hn2 hm => exact ⟨_, cap, rfl⟩
theorem repD_low {p : Nat → Prop} {w W' : World} {l : List Int} {n : Nat} {v : Value} (h : RepD p w (.sl (dI .i64 l) n) v) (hW : Below w.heap.size w W') : RepD (fun k => k < W'.heap.size) W' (.sl (dI .i64 l) n) v := by
  generalize hd : dI .i64 l = ds at h
  cases h with
  | nil a cap hm ha => exact .nil a cap hm ha
  | sl _ us b off _ cap hl2 hc hr hp hb hn2 hm =>
    refine .sl ds us b off n cap hl2 (fun i u hu => (hW.cell hb).trans (hc i u hu)) (fun i d u h1 h2 => ?_) (Nat.lt_of_lt_of_le hb hW.size) (Nat.lt_of_lt_of_le hb hW.size) hn2 hm
    subst hd
    have h3 := hr i d u h1 h2
    simp [dI] at h1
    obtain ⟨x, hx, rfl⟩ := h1
    cases h3
    exact .lit _ rfl
theorem F_pos (l : List Int) (n : Nat) (t : Int) (hn : List.length l = n * 3) (hck : ckB l n = true) (ht : 0 ≤ t ∧ t ≤ 1099511627776) : Fun 34 [.agg [.d (D.sl (dI .i64 l) n)], iE t] (toG []) 0 (.e (iE (posV l n t))) (toG []) 0 := by
  refine Fun.ofBelow fun p ρ w args hg ha => ?_
  match args, ha with
  | [x, y], ⟨⟨vs, hx, hv⟩, hy, _⟩ =>
    subst hx
    match vs, hv with
    | [v], ⟨h, _⟩ =>
      have e2 := rep_lit (show RepPV p ρ w (LV (.int .i64 t)) y from hy)
      subst e2
      cases h with
      | d h =>
        have h2 : ∃ p', RepD p' w (.sl (dI .i64 l) n) v := ⟨_, h⟩
        obtain ⟨p', h2⟩ := h2
        obtain ⟨h64, _⟩ := ck_of hck
        obtain ⟨b, off, cap, rfl, e1, e3, e4, e5⟩ := seg_open h2 h64.1 hn
        refine ((callsIn_wide (n := 3)).1 (pos_in 3 (by omega) b off n cap l t w e1 e3 h64.1 h64.2 hn (ck_rg hck) ht e4 e5)).mono ?_
        rintro e w' ⟨rfl, hb⟩
        exact ⟨⟨_, rfl, fun p' ρ' => .d (.lit _ rfl)⟩, hb⟩
theorem F_TimeOf (l : List Int) (n : Nat) (f : Int) (hn : List.length l = n * 3) (hm : n ≤ 1000000) : Fun 23 [.agg [.d (D.sl (dI .i64 l) n)], iE f] (toG []) 0 (.tup [iE (tmV l n f), iE (tmE l n f)]) (toG []) 0 := by
  refine Fun.ofBelow fun p ρ w args hg ha => ?_
  match args, ha with
  | [x, y], ⟨⟨vs, hx, hv⟩, hy, _⟩ =>
    subst hx
    match vs, hv with
    | [v], ⟨h, _⟩ =>
      have e2 := rep_lit (show RepPV p ρ w (LV (.int .i64 f)) y from hy)
      subst e2
      cases h with
      | d h =>
        by_cases hck : ckB l n = true
        · by_cases hf : 0 ≤ f
          · obtain ⟨h64, _⟩ := ck_of hck
            obtain ⟨b, off, cap, rfl, e1, e3, e4, e5⟩ := seg_open h h64.1 hn
            refine ((callsIn_wide (n := 4)).1 (tm_in 4 (by omega) b off n cap l f w e1 e3 hn hck hf e4 e5)).mono ?_
            rintro e w' ⟨rfl, hb⟩
            exact ⟨⟨_, rfl, fun p' ρ' => lit_tup2 _ _ _ _ _⟩, hb⟩
          · have hV : tmV l n f = 0 := by unfold tmV; rw [if_neg (fun h => hf h.2.1)]
            have hE : tmE l n f = 2 := by unfold tmE; rw [if_pos hck, if_neg hf]
            rw [hV, hE]
            obtain ⟨h64, _⟩ := ck_of hck
            obtain ⟨b, off, cap, rfl, e1, e3, e4, e5⟩ := seg_open h h64.1 hn
            refine ((callsIn_wide (n := 4)).1 (tm_bad 4 (by omega) _ n cap f 2 w true (fun W' hW' => ?_) (.inr ⟨rfl, by omega, rfl⟩))).mono ?_
            · have h7 := valid_calls l n hn hm (.slice (some ⟨b, off, none⟩) n cap) W' (repD_seg hn e1 e3 (Nat.lt_of_lt_of_le e4 hW'.size) (fun i hi => (hW'.cell e4).trans (e5 i hi)))
              rw [hck] at h7; exact h7
            · rintro e w' ⟨rfl, hb⟩
              exact ⟨⟨_, rfl, fun p' ρ' => lit_tup2 _ _ _ _ _⟩, hb⟩
        · have hck : ckB l n = false := by simpa using hck
          have hV : tmV l n f = 0 := by unfold tmV; rw [if_neg (fun h => by rw [hck] at h; cases h.1)]
          have hE : tmE l n f = 1 := by unfold tmE; rw [if_neg (fun h => by rw [hck] at h; cases h)]
          rw [hV, hE]
          obtain ⟨a, cap, rfl⟩ := seg_any h
          refine ((callsIn_wide (n := 4)).1 (tm_bad 4 (by omega) _ n cap f 1 w false (fun W' hW' => ?_) (.inl ⟨rfl, rfl⟩))).mono ?_
          · have h7 := valid_calls l n hn hm (.slice a n cap) W' (repD_low h hW')
            rw [hck] at h7; exact h7
          · rintro e w' ⟨rfl, hb⟩
            exact ⟨⟨_, rfl, fun p' ρ' => lit_tup2 _ _ _ _ _⟩, hb⟩
end Go.Proofs.Yteggelophhpnfaa
