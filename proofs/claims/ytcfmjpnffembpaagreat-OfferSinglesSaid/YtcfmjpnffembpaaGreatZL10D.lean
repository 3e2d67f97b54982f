/- The best choice of a list. No statement is proved here. -/
import Derived.Test.YtcfmjpnffembpaaGreatZL10C
namespace Go.Proofs.YtcfmjpnffembpaaGreat
open Go.ChangeShapes Go.WideShapes Go.ChangeAt Go.RowKit
set_option linter.unusedVariables false
set_option linter.unusedSimpArgs false
set_option maxHeartbeats 4000000
set_option maxRecDepth 100000
def bxC (b : Bx) (w : Co) : Co := ⟨bkK b.k w.k 7, neV w.r (spS b.r b.rn), bmM w.m b.m b.m.length, neV w.s (spS b.s b.sn)⟩
def beC (bs : List Bx) (w : Co) : Nat → Co
 | 0 => ⟨0, 0, [], 0⟩
 | j + 1 => if j = 0 ∨ coV w (bxC (bxG bs j) w) (beC bs w j) < 0 then bxC (bxG bs j) w else beC bs w j
def BE (bs : List Bx) (wk wr : Int) (w : List Int) (wz : Int) (i : Nat) (yk yr : Int) (u : List Int) (yz : Int) : Prop := beC bs ⟨wk, wr, w, wz⟩ i = ⟨yk, yr, u, yz⟩
theorem BE.first {bs : List Bx} {wk wr : Int} {w : List Int} {wz : Int} {yk yr : Int} {u : List Int} {yz : Int} (h1 : yk = bkK (qbK bs 0) wk 7) (h2 : yr = neV wr (spS (qbR bs 0) (qbN bs 0))) (h3 : u = bmM w (qbM bs 0) (List.length (qbM bs 0))) (h4 : yz = neV wz (spS (qbS bs 0) (qbT bs 0))) : BE bs wk wr w wz 1 yk yr u yz := by
 subst h1; subst h2; subst h3; subst h4
 exact if_pos (.inl rfl)
theorem BE.y {bs : List Bx} {wk wr : Int} {w : List Int} {wz : Int} {j : Nat} {yk yr : Int} {u : List Int} {yz xk xr : Int} {x : List Int} {xz : Int} (h : BE bs wk wr w wz j yk yr u yz) (h1 : xk = bkK (qbK bs j) wk 7) (h2 : xr = neV wr (spS (qbR bs j) (qbN bs j))) (h3 : x = bmM w (qbM bs j) (List.length (qbM bs j))) (h4 : xz = neV wz (spS (qbS bs j) (qbT bs j))) (hc : coK wk wr wz xk xr xz yk yr yz w x u < 0) : BE bs wk wr w wz (j + 1) xk xr x xz := by
 subst h1; subst h2; subst h3; subst h4
 have h : beC bs ⟨wk, wr, w, wz⟩ j = ⟨yk, yr, u, yz⟩ := h
 exact if_pos (.inr (by rw [h]; exact hc))
theorem BE.n {bs : List Bx} {wk wr : Int} {w : List Int} {wz : Int} {j : Nat} {yk yr : Int} {u : List Int} {yz : Int} (h : BE bs wk wr w wz j yk yr u yz) (h0 : ¬ j = 0) (hc : ¬ coK wk wr wz (bkK (qbK bs j) wk 7) (neV wr (spS (qbR bs j) (qbN bs j))) (neV wz (spS (qbS bs j) (qbT bs j))) yk yr yz w (bmM w (qbM bs j) (List.length (qbM bs j))) u < 0) : BE bs wk wr w wz (j + 1) yk yr u yz := by
 have h' : beC bs ⟨wk, wr, w, wz⟩ j = ⟨yk, yr, u, yz⟩ := h
 show beC bs ⟨wk, wr, w, wz⟩ (j + 1) = _
 rw [beC, if_neg fun e => e.elim h0 fun e1 => hc (by rw [h'] at e1; exact e1)]
 exact h'
def beL (bs : List Bx) (wk wr : Int) (w : List Int) (wz : Int) : Co := beC (bxL bs) ⟨wk, wr, w, wz⟩ (List.length (bxL bs))
def beK (bs : List Bx) (wk wr : Int) (w : List Int) (wz : Int) : Int := (beL bs wk wr w wz).k
def beR (bs : List Bx) (wk wr : Int) (w : List Int) (wz : Int) : Int := (beL bs wk wr w wz).r
def beM (bs : List Bx) (wk wr : Int) (w : List Int) (wz : Int) : List Int := (beL bs wk wr w wz).m
def beZ (bs : List Bx) (wk wr : Int) (w : List Int) (wz : Int) : Int := (beL bs wk wr w wz).s
theorem BE.fin {bs : List Bx} {wk wr : Int} {w : List Int} {wz : Int} {j : Nat} {yk yr : Int} {u : List Int} {yz : Int} (h : BE (bxL bs) wk wr w wz j yk yr u yz) (hj : j = List.length (bxL bs)) : beK bs wk wr w wz = yk ∧ beR bs wk wr w wz = yr ∧ beM bs wk wr w wz = u ∧ beZ bs wk wr w wz = yz := by
 subst hj
 have h' : beL bs wk wr w wz = ⟨yk, yr, u, yz⟩ := h
 unfold beK beR beM beZ; rw [h']; exact ⟨rfl, rfl, rfl, rfl⟩
def CoW (c : Co) : Prop := (0 ≤ c.k ∧ c.k ≤ 7) ∧ (0 ≤ c.r ∧ c.r ≤ 2147483647) ∧ (0 ≤ c.s ∧ c.s ≤ 2147483647) ∧ List.length c.m ≤ 1000000
theorem bxC_W {b : Bx} (h : BxW b) (w : Co) : CoW (bxC b w) := ⟨bk_rng _ _ _, ne_rng h.1, ne_rng h.2.1, bm_W h.2.2.2.2.2 _⟩
theorem beC_W {bs : List Bx} (h : BsW bs) (w : Co) : ∀ j, CoW (beC bs w j)
 | 0 => ⟨⟨Int.le_refl 0, (by decide : (0 : Int) ≤ 7)⟩, ⟨Int.le_refl 0, (by decide : (0 : Int) ≤ 2147483647)⟩, ⟨Int.le_refl 0, (by decide : (0 : Int) ≤ 2147483647)⟩, Nat.zero_le _⟩
 | j + 1 => by
  rw [beC]; split
  ·exact bxC_W (h.get j) w
  ·exact beC_W h w j
theorem be_W {bs : List Bx} (h : BsW bs) (wk wr : Int) (w : List Int) (wz : Int) : (0 ≤ beK bs wk wr w wz ∧ beK bs wk wr w wz ≤ 7) ∧ (0 ≤ beR bs wk wr w wz ∧ beR bs wk wr w wz ≤ 2147483647) ∧ (0 ≤ beZ bs wk wr w wz ∧ beZ bs wk wr w wz ≤ 2147483647) ∧ List.length (beM bs wk wr w wz) ≤ 1000000 := beC_W (bxL_W h) _ _
abbrev t0D2_0 (w : List Int) (bs : List Bx) (j : Nat) := bmM w (qbM (bxL bs) j) (List.length (qbM (bxL bs) j))
abbrev t0D2_1 (w : List Int) (bs : List Bx) := bmM w (qbM (bxL bs) 0) (List.length (qbM (bxL bs) 0))
abbrev t0D2_2 (bs : List Bx) (j : Nat) := spS (qbR (bxL bs) j) (qbN (bxL bs) j)
abbrev t0D2_3 (bs : List Bx) (j : Nat) := spS (qbS (bxL bs) j) (qbT (bxL bs) j)
abbrev t0D2_4 (bs : List Bx) := spS (qbR (bxL bs) 0) (qbN (bxL bs) 0)
abbrev t0D2_5 (bs : List Bx) := spS (qbS (bxL bs) 0) (qbT (bxL bs) 0)
theorem zl10d0 {p : Prop} (h : p := by first | omega | with_reducible assumption | (simp only [msD_len, bxD_len, List.length_append, List.length_cons, List.length_nil, List.length_take, List.length_drop, List.length_replicate, List.length_set] <;> omega) | rfl | assumption) : p := h
abbrev t0D2_6 : BC := .ds [iD 0, iD 0, D.lit (.slice none 0 0), iD 0]
abbrev t0D2_7 (bs : List Bx) (j : Nat) (wk : Int) (wr : Int) (w : List Int) (wz : Int) : BC := .ds [iD (bkK (qbK (bxL bs) j) wk 7), iD (neV wr (t0D2_2 bs j)), D.sl (dI .i64 (t0D2_0 w bs j)) (List.length (t0D2_0 w bs j)), iD (neV wz (t0D2_3 bs j))]
abbrev t0D2_8 (wk : Int) (wr : Int) (w : List Int) (wn : Nat) (wz : Int) : BC := .ds [iD wk, iD wr, D.sl (dI .i64 w) wn, iD wz]
abbrev t0D2_9 (yk : Int) (yr : Int) (u : List Int) (yz : Int) : BC := .ds [iD yk, iD yr, D.sl (dI .i64 u) (List.length u), iD yz]
abbrev t0D2_10 (bs : List Bx) (wk : Int) (wr : Int) (w : List Int) (wz : Int) : BC := .ds [iD (bkK (qbK (bxL bs) 0) wk 7), iD (neV wr (t0D2_4 bs)), D.sl (dI .i64 (t0D2_1 w bs)) (List.length (t0D2_1 w bs)), iD (neV wz (t0D2_5 bs))]
theorem D_Best1 (bs : List Bx) (n : Nat) (wk wr : Int) (w : List Int) (wn : Nat) (wz : Int) (hn : List.length bs = n) (h1 : n ≤ 1000000) (hW : BsW bs) (hw : List.length w = wn) (h5 : wn ≤ 1000000) (hwr : -9223372036854775808 ≤ wr ∧ wr ≤ 9223372036854775807) (hwz : -9223372036854775808 ≤ wz ∧ wz ≤ 9223372036854775807) (h9 : 1 ≤ List.length (bxL bs)) : Fun 27 [.c (.d (D.sl (bxD bs) n)), .agg [iC wk, iC wr, .d (D.sl (dI .i64 w) wn), iC wz]] (toG []) 0 (.tup [.agg [iC (beK bs wk wr w wz), iC (beR bs wk wr w wz), .d (D.sl (dI .i64 (beM bs wk wr w wz)) (List.length (beM bs wk wr w wz))), iC (beZ bs wk wr w wz)], .c (.d (D.lit (.bool true)))]) (toG []) 0 := by
 refine Fun.mk (n := 34) Tryz.func27 rfl rfl (Nat.le_of_ble_eq_true rfl) ?_
 intro cx hcx
 refine y9r [.no, .no, .no] True [(0, .e (.c (.d (D.sl (bxD bs) n)))), (3, rV 0 0), (4, rV 1 0)] [(0, some (27, (t0D2_8 wk wr w wn wz))), (1, some (27, t0D2_6))] 2 trivial ?_
 refine y9r [.no] True [(0, .e (.c (.d (D.sl (bxD bs) n)))), (3, rV 0 0), (4, rV 1 0), (6, rV 2 0)] [(0, some (27, (t0D2_8 wk wr w wn wz))), (1, some (27, t0D2_6)), (2, some (27, t0D2_6))] 3 trivial ?_
 refine y9s [.no] True [(0, .e (.c (.d (D.sl (bxD bs) n)))), (3, rV 0 0), (4, rV 1 0), (6, rV 2 0), (7, bV false)] trivial ?_
 refine AW.seq ?_
 have hx1 : ((List.length (bxL bs)) ≤ n) := (by have h9 := bxL_le bs; omega)
 refine y9s [.no, .call [] (.e (.c (.d (D.sl (bxD (bxL bs)) (List.length (bxL bs)))))) [] 0 [] none, .no, .no] _ [(3, rV 0 0), (4, rV 1 0), (6, rV 2 0), (7, bV false), (12, .e (.c (.d (D.sl (bxD (bxL bs)) (List.length (bxL bs)))))), (13, uV (List.length (bxL bs))), (14, iV 0)] (C_list bs n zo zo (show BsW bs by with_reducible assumption)) ?_
 refine AW.block ?_
 refine AW.peel 1 ?_
 refine AWp.s ?_
 refine y9r [.b true] (((0 : Int) < (List.length (bxL bs) : Int))) [(3, rV 0 0), (4, rV 1 0), (6, rV 2 0), (7, bV false), (12, .e (.c (.d (D.sl (bxD (bxL bs)) (List.length (bxL bs)))))), (13, uV (List.length (bxL bs))), (14, iV 0), (15, bV true)] [(0, some (27, (t0D2_8 wk wr w wn wz))), (1, some (27, t0D2_6)), (2, some (27, t0D2_6))] 3 zo ?_
 refine AW.seq ?_
 refine zts ?_
 refine AW.seq ?_
 refine AW.block ?_
 obtain ⟨hx2, hx3, hx4, hx5, hx6⟩ := BsW.at (bxL_W (show BsW bs by with_reducible assumption)) (0)
 have hx7 : ((1 : Nat) ≤ (List.length (qbM (bxL bs) 0))) := bxL_ne zo
 refine y9r [.n 0, .ds [iD (qbK (bxL bs) 0), dl (qbR (bxL bs) 0) (qbN (bxL bs) 0), D.sl (msD (qbM (bxL bs) 0)) (List.length (qbM (bxL bs) 0)), dl (qbS (bxL bs) 0) (qbT (bxL bs) 0)], .no, .no] ((q9i 0) ∧ ((0 : Nat) < (List.length (bxL bs))) ∧ (List.take 4 (List.drop 0 (bxD (bxL bs))) = [iD (qbK (bxL bs) 0), dl (qbR (bxL bs) 0) (qbN (bxL bs) 0), D.sl (msD (qbM (bxL bs) 0)) (List.length (qbM (bxL bs) 0)), dl (qbS (bxL bs) 0) (qbT (bxL bs) 0)]) ∧ (([iD (qbK (bxL bs) 0), dl (qbR (bxL bs) 0) (qbN (bxL bs) 0), D.sl (msD (qbM (bxL bs) 0)) (List.length (qbM (bxL bs) 0)), dl (qbS (bxL bs) 0) (qbT (bxL bs) 0)] : List D).length = 4)) [(3, rV 0 0), (4, rV 1 0), (6, rV 2 0), (7, bV false), (9, rV 3 0), (12, .e (.c (.d (D.sl (bxD (bxL bs)) (List.length (bxL bs)))))), (13, uV (List.length (bxL bs))), (14, iV 0)] [(0, some (27, (t0D2_8 wk wr w wn wz))), (1, some (27, t0D2_6)), (2, some (27, t0D2_6)), (3, some (59, .ds [iD (qbK (bxL bs) 0), dl (qbR (bxL bs) 0) (qbN (bxL bs) 0), D.sl (msD (qbM (bxL bs) 0)) (List.length (qbM (bxL bs) 0)), dl (qbS (bxL bs) 0) (qbT (bxL bs) 0)]))] 4 ⟨rfl, zo, (bx_at (i := 0) (by first | omega | (simp only [msD_len, bxD_len, List.length_append, List.length_cons, List.length_nil, List.length_take, List.length_drop] <;> omega))), rfl⟩ ?_
 have hx8 : (((0 : Int) ≤ (bkK (qbK (bxL bs) 0) wk 7)) ∧ ((bkK (qbK (bxL bs) 0) wk 7) ≤ 7)) := bk_rng (qbK (bxL bs) 0) wk 7
 have hx9 : (((0 : Int) ≤ (neV wr (t0D2_4 bs))) ∧ ((neV wr (t0D2_4 bs)) ≤ 2147483647)) := ne_rng (zl10d0)
 have hx10 : (((0 : Int) ≤ (neV wz (t0D2_5 bs))) ∧ ((neV wz (t0D2_5 bs)) ≤ 2147483647)) := ne_rng (zl10d0)
 have hx11 : ((List.length (t0D2_1 w bs)) ≤ 1000000) := bm_W ((BsW.ms (bxL_W (show BsW bs by with_reducible assumption)) _)) (List.length (qbM (bxL bs) 0))
 refine y9r [.no, .no, .call [] (.e (.agg [iC (bkK (qbK (bxL bs) 0) wk 7), iC (neV wr (t0D2_4 bs)), .d (dl (t0D2_1 w bs) (List.length (t0D2_1 w bs))), iC (neV wz (t0D2_5 bs))])) [] 0 [] none, .no, .no] _ [(3, rV 0 0), (4, rV 1 0), (6, rV 2 0), (7, bV false), (10, rV 4 0), (12, .e (.c (.d (D.sl (bxD (bxL bs)) (List.length (bxL bs)))))), (13, uV (List.length (bxL bs))), (14, iV 0)] [(0, some (27, (t0D2_8 wk wr w wn wz))), (1, some (27, t0D2_6)), (2, some (27, t0D2_6)), (4, some (27, (t0D2_10 bs wk wr w wz)))] 5 (C_best (qbK (bxL bs) 0) (qbR (bxL bs) 0) (qbN (bxL bs) 0) (qbM (bxL bs) 0) (List.length (qbM (bxL bs) 0)) (qbS (bxL bs) 0) (qbT (bxL bs) 0) wk wr w wn wz zl10d0 zl10d0 rfl zl10d0 zl10d0 zl10d0 zl10d0 (BsW.ms (bxL_W (show BsW bs by with_reducible assumption)) _) zo zo zo zo) ?_
 refine y9s (nz9 4 []) True [(3, rV 0 0), (4, rV 1 0), (6, rV 2 0), (7, bV false), (10, rV 4 0), (12, .e (.c (.d (D.sl (bxD (bxL bs)) (List.length (bxL bs)))))), (13, uV (List.length (bxL bs))), (14, iV 0), (29, bV true)] trivial ?_
 refine zt ?_
 refine y9g [.no, .no, .no] True [(3, rV 0 0), (4, rV 1 0), (6, rV 2 0), (7, bV true), (12, .e (.c (.d (D.sl (bxD (bxL bs)) (List.length (bxL bs)))))), (13, uV (List.length (bxL bs))), (14, iV 0)] [(0, some (27, (t0D2_8 wk wr w wn wz))), (1, some (27, t0D2_6)), (2, some (27, (t0D2_10 bs wk wr w wz)))] 5 trivial ?_
 refine y9h [.w, .no] ((-9223372036854775808) ≤ (1 : Int) ∧ (1 : Int) ≤ 9223372036854775807) [(3, rV 0 0), (4, rV 1 0), (6, rV 2 0), (7, bV true), (12, .e (.c (.d (D.sl (bxD (bxL bs)) (List.length (bxL bs)))))), (13, uV (List.length (bxL bs))), (14, iV 1)] ⟨by omega, by omega⟩ ?_
 refine AWp.z ?_
 refine AW.loopE 0 hcx (fun (x : {x : Nat × Int × Int × List Int × Int // match x with | (j, yk, yr, u, yz) => (1 ≤ j ∧ j ≤ List.length (bxL bs)) ∧ (BE (bxL bs) wk wr w wz j yk yr u yz) ∧ ((0 ≤ yk ∧ yk ≤ 7) ∧ (0 ≤ yr ∧ yr ≤ 2147483647) ∧ (0 ≤ yz ∧ yz ≤ 2147483647) ∧ List.length u ≤ 1000000)}) => match x with | ⟨(j, yk, yr, u, yz), _⟩ => (⟨[(3, rV 0 0), (4, rV 1 0), (6, rV 2 0), (7, bV true), (12, .e (.c (.d (D.sl (bxD (bxL bs)) (List.length (bxL bs)))))), (13, uV (List.length (bxL bs))), (14, uV j)], [(0, some (27, (t0D2_8 wk wr w wn wz))), (1, some (27, t0D2_6)), (2, some (27, (t0D2_9 yk yr u yz)))], 5⟩ : ES)) (fun x => match x with | ⟨(j, yk, yr, u, yz), _⟩ => List.length (bxL bs) - j) ⟨((1 : Nat), ((bkK (qbK (bxL bs) 0) wk 7) : Int), ((neV wr (t0D2_4 bs)) : Int), ((t0D2_1 w bs) : List Int), ((neV wz (t0D2_5 bs)) : Int)), ⟨(by first | omega | assumption | simp), (BE.first rfl rfl rfl rfl), zo⟩⟩ [] (P := (q9n 0) ∧ (q9n 0) ∧ (q9n 0) ∧ (true = true) ∧ (q9d (bxD (bxL bs))) ∧ (q9n (List.length (bxL bs))) ∧ (q9i (List.length (bxL bs) : Int)) ∧ (q9i 1) ∧ (q9d [iD wk, iD wr, dl w wn, iD wz]) ∧ (q9d [iD 0, iD 0, nl9, iD 0]) ∧ (q9d [iD (bkK (qbK (bxL bs) 0) wk 7), iD (neV wr (t0D2_4 bs)), dl (t0D2_1 w bs) (List.length (t0D2_1 w bs)), iD (neV wz (t0D2_5 bs))])) zk ⟨rfl, rfl, rfl, (by first | rfl | assumption | simp), rfl, rfl, rfl, rfl, rfl, rfl, rfl⟩ ?_
 rintro ⟨⟨j, yk, yr, u, yz⟩, hinv0⟩
 obtain ⟨hj, hE, hy⟩ : (1 ≤ j ∧ j ≤ List.length (bxL bs)) ∧ (BE (bxL bs) wk wr w wz j yk yr u yz) ∧ ((0 ≤ yk ∧ yk ≤ 7) ∧ (0 ≤ yr ∧ yr ≤ 2147483647) ∧ (0 ≤ yz ∧ yz ≤ 2147483647) ∧ List.length u ≤ 1000000) := hinv0
 refine AW.es (l := [(3, rV 0 0), (4, rV 1 0), (6, rV 2 0), (7, bV true), (12, .e (.c (.d (D.sl (bxD (bxL bs)) (List.length (bxL bs)))))), (13, uV (List.length (bxL bs))), (14, uV j)]) (g := [(0, some (27, (t0D2_8 wk wr w wn wz))), (1, some (27, t0D2_6)), (2, some (27, (t0D2_9 yk yr u yz)))]) (nx := 5) rfl rfl rfl ?_
 by_cases hx12 : (((j : Nat) : Int) < (((List.length (bxL bs)) : Nat) : Int))
 ·refine y9r [.b true] (((j : Int) < (List.length (bxL bs) : Int))) [(3, rV 0 0), (4, rV 1 0), (6, rV 2 0), (7, bV true), (12, .e (.c (.d (D.sl (bxD (bxL bs)) (List.length (bxL bs)))))), (13, uV (List.length (bxL bs))), (14, uV j), (15, bV true)] [(0, some (27, (t0D2_8 wk wr w wn wz))), (1, some (27, t0D2_6)), (2, some (27, (t0D2_9 yk yr u yz)))] 5 zo ?_
  refine AW.seq ?_
  refine zts ?_
  refine AW.seq ?_
  refine AW.block ?_
  obtain ⟨hx13, hx14, hx15, hx16, hx17⟩ := BsW.at (bxL_W (show BsW bs by with_reducible assumption)) (j)
  have hx18 : ((1 : Nat) ≤ (List.length (qbM (bxL bs) j))) := bxL_ne zo
  refine y9r [.n j, .ds [iD (qbK (bxL bs) j), dl (qbR (bxL bs) j) (qbN (bxL bs) j), D.sl (msD (qbM (bxL bs) j)) (List.length (qbM (bxL bs) j)), dl (qbS (bxL bs) j) (qbT (bxL bs) j)], .no, .no] ((q9i (j : Int)) ∧ (j < (List.length (bxL bs))) ∧ (List.take 4 (List.drop (j * 4) (bxD (bxL bs))) = [iD (qbK (bxL bs) j), dl (qbR (bxL bs) j) (qbN (bxL bs) j), D.sl (msD (qbM (bxL bs) j)) (List.length (qbM (bxL bs) j)), dl (qbS (bxL bs) j) (qbT (bxL bs) j)]) ∧ (([iD (qbK (bxL bs) j), dl (qbR (bxL bs) j) (qbN (bxL bs) j), D.sl (msD (qbM (bxL bs) j)) (List.length (qbM (bxL bs) j)), dl (qbS (bxL bs) j) (qbT (bxL bs) j)] : List D).length = 4)) [(3, rV 0 0), (4, rV 1 0), (6, rV 2 0), (7, bV true), (9, rV 5 0), (12, .e (.c (.d (D.sl (bxD (bxL bs)) (List.length (bxL bs)))))), (13, uV (List.length (bxL bs))), (14, uV j)] [(0, some (27, (t0D2_8 wk wr w wn wz))), (1, some (27, t0D2_6)), (2, some (27, (t0D2_9 yk yr u yz))), (5, some (59, .ds [iD (qbK (bxL bs) j), dl (qbR (bxL bs) j) (qbN (bxL bs) j), D.sl (msD (qbM (bxL bs) j)) (List.length (qbM (bxL bs) j)), dl (qbS (bxL bs) j) (qbT (bxL bs) j)]))] 6 ⟨rfl, zo, (bx_at (by first | omega | (simp only [msD_len, bxD_len, List.length_append, List.length_cons, List.length_nil, List.length_take, List.length_drop] <;> omega))), rfl⟩ ?_
  have hx19 : (((0 : Int) ≤ (bkK (qbK (bxL bs) j) wk 7)) ∧ ((bkK (qbK (bxL bs) j) wk 7) ≤ 7)) := bk_rng (qbK (bxL bs) j) wk 7
  have hx20 : (((0 : Int) ≤ (neV wr (t0D2_2 bs j))) ∧ ((neV wr (t0D2_2 bs j)) ≤ 2147483647)) := ne_rng (zl10d0)
  have hx21 : (((0 : Int) ≤ (neV wz (t0D2_3 bs j))) ∧ ((neV wz (t0D2_3 bs j)) ≤ 2147483647)) := ne_rng (zl10d0)
  have hx22 : ((List.length (t0D2_0 w bs j)) ≤ 1000000) := bm_W ((BsW.ms (bxL_W (show BsW bs by with_reducible assumption)) _)) (List.length (qbM (bxL bs) j))
  refine y9r [.no, .no, .call [] (.e (.agg [iC (bkK (qbK (bxL bs) j) wk 7), iC (neV wr (t0D2_2 bs j)), .d (dl (t0D2_0 w bs j) (List.length (t0D2_0 w bs j))), iC (neV wz (t0D2_3 bs j))])) [] 0 [] none, .no, .no] _ [(3, rV 0 0), (4, rV 1 0), (6, rV 2 0), (7, bV true), (10, rV 6 0), (12, .e (.c (.d (D.sl (bxD (bxL bs)) (List.length (bxL bs)))))), (13, uV (List.length (bxL bs))), (14, uV j)] [(0, some (27, (t0D2_8 wk wr w wn wz))), (1, some (27, t0D2_6)), (2, some (27, (t0D2_9 yk yr u yz))), (6, some (27, (t0D2_7 bs j wk wr w wz)))] 7 (C_best (qbK (bxL bs) j) (qbR (bxL bs) j) (qbN (bxL bs) j) (qbM (bxL bs) j) (List.length (qbM (bxL bs) j)) (qbS (bxL bs) j) (qbT (bxL bs) j) wk wr w wn wz zl10d0 zl10d0 rfl zl10d0 zl10d0 zl10d0 zl10d0 (BsW.ms (bxL_W (show BsW bs by with_reducible assumption)) _) zo zo zo zo) ?_
  by_cases hx24 : ((coK wk wr wz (bkK (qbK (bxL bs) j) wk 7) (neV wr (t0D2_2 bs j)) (neV wz (t0D2_3 bs j)) yk yr yz w (t0D2_0 w bs j) u) < 0)
  ·have hx25 : ((((-1) : Int) ≤ (coK wk wr wz (bkK (qbK (bxL bs) j) wk 7) (neV wr (t0D2_2 bs j)) (neV wz (t0D2_3 bs j)) yk yr yz w (t0D2_0 w bs j) u)) ∧ ((coK wk wr wz (bkK (qbK (bxL bs) j) wk 7) (neV wr (t0D2_2 bs j)) (neV wz (t0D2_3 bs j)) yk yr yz w (t0D2_0 w bs j) u) ≤ 1)) := coK_rng ..
   refine y9s (nz9 6 [.call [] (iV (coK wk wr wz (bkK (qbK (bxL bs) j) wk 7) (neV wr (t0D2_2 bs j)) (neV wz (t0D2_3 bs j)) yk yr yz w (t0D2_0 w bs j) u)) [] 0 [] none, .b true, .no]) ((_) ∧ (((coK wk wr wz (bkK (qbK (bxL bs) j) wk 7) (neV wr (t0D2_2 bs j)) (neV wz (t0D2_3 bs j)) yk yr yz w (t0D2_0 w bs j) u) < 0))) [(3, rV 0 0), (4, rV 1 0), (6, rV 2 0), (7, bV true), (10, rV 6 0), (12, .e (.c (.d (D.sl (bxD (bxL bs)) (List.length (bxL bs)))))), (13, uV (List.length (bxL bs))), (14, uV j), (29, bV true)] ⟨(Y_rCompare wk wr wz (bkK (qbK (bxL bs) j) wk 7) (neV wr (t0D2_2 bs j)) (neV wz (t0D2_3 bs j)) yk yr yz w (t0D2_0 w bs j) u wn (List.length (t0D2_0 w bs j)) (List.length u) zo rfl rfl zo zl10d0 zo zo zl10d0 zo zo zl10d0 zo), zo⟩ ?_
   refine zt ?_
   refine y9g [.no, .no, .no] True [(3, rV 0 0), (4, rV 1 0), (6, rV 2 0), (7, bV true), (12, .e (.c (.d (D.sl (bxD (bxL bs)) (List.length (bxL bs)))))), (13, uV (List.length (bxL bs))), (14, uV j)] [(0, some (27, (t0D2_8 wk wr w wn wz))), (1, some (27, t0D2_6)), (2, some (27, (t0D2_7 bs j wk wr w wz)))] 7 trivial ?_
   refine y9h [.w, .no] ((-9223372036854775808) ≤ ((j : Int) + 1) ∧ ((j : Int) + 1) ≤ 9223372036854775807) [(3, rV 0 0), (4, rV 1 0), (6, rV 2 0), (7, bV true), (12, .e (.c (.d (D.sl (bxD (bxL bs)) (List.length (bxL bs)))))), (13, uV (List.length (bxL bs))), (14, iV (↑j + 1))] ⟨by omega, by omega⟩ ?_
   exact Rd.of ⟨(((j + 1) : Nat), ((bkK (qbK (bxL bs) j) wk 7) : Int), ((neV wr (t0D2_2 bs j)) : Int), ((t0D2_0 w bs j) : List Int), ((neV wz (t0D2_3 bs j)) : Int)), ⟨(by first | omega | assumption | simp), (by first | exact BE.y hE rfl rfl rfl rfl zo | exact BE.n hE zo zo), (by first | omega | assumption)⟩⟩ [] (P := (q9n 0) ∧ (q9n 0) ∧ (q9n 0) ∧ (true = true) ∧ (q9d (bxD (bxL bs))) ∧ (q9n (List.length (bxL bs))) ∧ (q9i (List.length (bxL bs) : Int)) ∧ (((((j + 1) : Nat) : Int) : Int) = ((j : Int) + 1)) ∧ (q9d [iD wk, iD wr, dl w wn, iD wz]) ∧ (q9d [iD 0, iD 0, nl9, iD 0]) ∧ (q9d [iD (bkK (qbK (bxL bs) j) wk 7), iD (neV wr (t0D2_2 bs j)), dl (t0D2_0 w bs j) (List.length (t0D2_0 w bs j)), iD (neV wz (t0D2_3 bs j))])) zk ⟨rfl, rfl, rfl, (by first | rfl | assumption | simp), rfl, rfl, rfl, (by first | rfl | omega | assumption | (simp; done) | (simp; omega)), rfl, rfl, rfl⟩ (show List.length (bxL bs) - (j + 1) < List.length (bxL bs) - j from (by first | omega | (show _ < _; simp; omega)))
  ·have hx26 : ((((-1) : Int) ≤ (coK wk wr wz (bkK (qbK (bxL bs) j) wk 7) (neV wr (t0D2_2 bs j)) (neV wz (t0D2_3 bs j)) yk yr yz w (t0D2_0 w bs j) u)) ∧ ((coK wk wr wz (bkK (qbK (bxL bs) j) wk 7) (neV wr (t0D2_2 bs j)) (neV wz (t0D2_3 bs j)) yk yr yz w (t0D2_0 w bs j) u) ≤ 1)) := coK_rng ..
   refine y9s (nz9 6 [.call [] (iV (coK wk wr wz (bkK (qbK (bxL bs) j) wk 7) (neV wr (t0D2_2 bs j)) (neV wz (t0D2_3 bs j)) yk yr yz w (t0D2_0 w bs j) u)) [] 0 [] none, .b false, .no]) ((_) ∧ (¬ ((coK wk wr wz (bkK (qbK (bxL bs) j) wk 7) (neV wr (t0D2_2 bs j)) (neV wz (t0D2_3 bs j)) yk yr yz w (t0D2_0 w bs j) u) < 0))) [(3, rV 0 0), (4, rV 1 0), (6, rV 2 0), (7, bV true), (10, rV 6 0), (12, .e (.c (.d (D.sl (bxD (bxL bs)) (List.length (bxL bs)))))), (13, uV (List.length (bxL bs))), (14, uV j), (29, bV false)] ⟨(Y_rCompare wk wr wz (bkK (qbK (bxL bs) j) wk 7) (neV wr (t0D2_2 bs j)) (neV wz (t0D2_3 bs j)) yk yr yz w (t0D2_0 w bs j) u wn (List.length (t0D2_0 w bs j)) (List.length u) zo rfl rfl zo zl10d0 zo zo zl10d0 zo zo zl10d0 zo), zo⟩ ?_
   refine zfs ?_
   refine y9g [.w, .no] ((-9223372036854775808) ≤ ((j : Int) + 1) ∧ ((j : Int) + 1) ≤ 9223372036854775807) [(3, rV 0 0), (4, rV 1 0), (6, rV 2 0), (7, bV true), (12, .e (.c (.d (D.sl (bxD (bxL bs)) (List.length (bxL bs)))))), (13, uV (List.length (bxL bs))), (14, iV (↑j + 1))] [(0, some (27, (t0D2_8 wk wr w wn wz))), (1, some (27, t0D2_6)), (2, some (27, (t0D2_9 yk yr u yz)))] 7 ⟨by omega, by omega⟩ ?_
   exact Rd.of ⟨(((j + 1) : Nat), (yk : Int), (yr : Int), (u : List Int), (yz : Int)), ⟨(by first | omega | assumption | simp), (by first | exact BE.y hE rfl rfl rfl rfl zo | exact BE.n hE zo zo), (by first | omega | assumption)⟩⟩ [] (P := (q9n 0) ∧ (q9n 0) ∧ (q9n 0) ∧ (true = true) ∧ (q9d (bxD (bxL bs))) ∧ (q9n (List.length (bxL bs))) ∧ (q9i (List.length (bxL bs) : Int)) ∧ (((((j + 1) : Nat) : Int) : Int) = ((j : Int) + 1)) ∧ (q9d [iD wk, iD wr, dl w wn, iD wz]) ∧ (q9d [iD 0, iD 0, nl9, iD 0]) ∧ (q9d [iD yk, iD yr, dl u (List.length u), iD yz])) zk ⟨rfl, rfl, rfl, (by first | rfl | assumption | simp), rfl, rfl, rfl, (by first | rfl | omega | assumption | (simp; done) | (simp; omega)), rfl, rfl, rfl⟩ (show List.length (bxL bs) - (j + 1) < List.length (bxL bs) - j from (by first | omega | (show _ < _; simp; omega)))
 ·refine y9r [.b false] (¬ ((j : Int) < (List.length (bxL bs) : Int))) [(3, rV 0 0), (4, rV 1 0), (6, rV 2 0), (7, bV true), (12, .e (.c (.d (D.sl (bxD (bxL bs)) (List.length (bxL bs)))))), (13, uV (List.length (bxL bs))), (14, uV j), (15, bV false)] [(0, some (27, (t0D2_8 wk wr w wn wz))), (1, some (27, t0D2_6)), (2, some (27, (t0D2_9 yk yr u yz)))] 5 zo ?_
  refine AW.seq ?_
  refine zf ?_
  refine AW.exit ?_
  refine y9r (nz9 4 []) True [(4, rV 1 0), (5, bV true)] [(1, some (27, (t0D2_9 yk yr u yz)))] 5 trivial ?_
  obtain ⟨hz1, hz2, hz3, hz4⟩ := hE.fin zo
  refine AW.ret ?_
  exact EndP.of (.inr rfl) [] (P := (((beK bs wk wr w wz) : Int) = yk) ∧ (((beR bs wk wr w wz) : Int) = yr) ∧ (((dI .i64 (beM bs wk wr w wz)) : List D) = (dI .i64 u)) ∧ (((List.length (beM bs wk wr w wz)) : Nat) = (List.length u)) ∧ (((beZ bs wk wr w wz) : Int) = yz) ∧ (true = true)) zk ⟨(by first | rfl | exact hz1 | exact hz2 | exact hz4 | rw [hz3] | omega), (by first | rfl | exact hz1 | exact hz2 | exact hz4 | rw [hz3] | omega), (by first | rfl | rw [hz3]), (by first | rfl | exact hz1 | exact hz2 | exact hz4 | rw [hz3] | omega), (by first | rfl | exact hz1 | exact hz2 | exact hz4 | rw [hz3] | omega), rfl⟩
abbrev t0D3_0 : BC := .ds [iD 0, iD 0, D.lit (.slice none 0 0), iD 0]
theorem D_Best0 (bs : List Bx) (n : Nat) (wk wr : Int) (w : List Int) (wn : Nat) (wz : Int) (hn : List.length bs = n) (h1 : n ≤ 1000000) (hW : BsW bs) (hw : List.length w = wn) (h5 : wn ≤ 1000000) (hwr : -9223372036854775808 ≤ wr ∧ wr ≤ 9223372036854775807) (hwz : -9223372036854775808 ≤ wz ∧ wz ≤ 9223372036854775807) (h9 : List.length (bxL bs) = 0) : Fun 27 [.c (.d (D.sl (bxD bs) n)), .agg [iC wk, iC wr, .d (D.sl (dI .i64 w) wn), iC wz]] (toG []) 0 (.tup [.agg [iC 0, iC 0, .d (D.lit (.slice none 0 0)), iC 0], .c (.d (D.lit (.bool false)))]) (toG []) 0 := by
 refine Fun.mk (n := 34) Tryz.func27 rfl rfl (Nat.le_of_ble_eq_true rfl) ?_
 intro cx hcx
 refine y9r [.no, .no, .no] True [(0, .e (.c (.d (D.sl (bxD bs) n)))), (3, rV 0 0), (4, rV 1 0)] [(0, some (27, .ds [iD wk, iD wr, dl w wn, iD wz])), (1, some (27, t0D3_0))] 2 trivial ?_
 refine y9r [.no] True [(0, .e (.c (.d (D.sl (bxD bs) n)))), (3, rV 0 0), (4, rV 1 0), (6, rV 2 0)] [(0, some (27, .ds [iD wk, iD wr, dl w wn, iD wz])), (1, some (27, t0D3_0)), (2, some (27, t0D3_0))] 3 trivial ?_
 refine y9s [.no] True [(0, .e (.c (.d (D.sl (bxD bs) n)))), (3, rV 0 0), (4, rV 1 0), (6, rV 2 0), (7, bV false)] trivial ?_
 refine AW.seq ?_
 have hx1 : ((List.length (bxL bs)) ≤ n) := (by have h9 := bxL_le bs; omega)
 refine y9s [.no, .call [] (.e (.c (.d (D.sl (bxD (bxL bs)) (List.length (bxL bs)))))) [] 0 [] none, .no, .no] _ [(3, rV 0 0), (4, rV 1 0), (6, rV 2 0), (7, bV false), (12, .e (.c (.d (D.sl (bxD (bxL bs)) (List.length (bxL bs)))))), (13, uV (List.length (bxL bs))), (14, iV 0)] (C_list bs n zo zo (show BsW bs by with_reducible assumption)) ?_
 refine AW.block ?_
 refine AW.rounds 1 ?_
 refine AWr.s ?_
 refine y9r [.b false] (¬ ((0 : Int) < (List.length (bxL bs) : Int))) [(3, rV 0 0), (4, rV 1 0), (6, rV 2 0), (7, bV false), (12, .e (.c (.d (D.sl (bxD (bxL bs)) (List.length (bxL bs)))))), (13, uV (List.length (bxL bs))), (14, iV 0), (15, bV false)] [(0, some (27, .ds [iD wk, iD wr, dl w wn, iD wz])), (1, some (27, t0D3_0)), (2, some (27, t0D3_0))] 3 zo ?_
 refine AW.seq ?_
 refine zf ?_
 refine AW.exit ?_
 refine y9r (nz9 4 []) True [(4, rV 1 0), (5, bV false)] [(1, some (27, t0D3_0))] 3 trivial ?_
 refine AW.ret ?_
 exact EndP.of (.inr rfl) [] (P := (q9i 0) ∧ (q9i 0) ∧ ((.slice none 0 0 : Value) = .slice none 0 0) ∧ (q9i 0) ∧ (false = false)) zk ⟨rfl, rfl, rfl, rfl, rfl⟩
end Go.Proofs.YtcfmjpnffembpaaGreat
