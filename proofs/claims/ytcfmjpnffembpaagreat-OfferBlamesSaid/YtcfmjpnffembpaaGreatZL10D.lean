/- The best choice of a list. No statement is proved here. -/
import Derived.Test.YtcfmjpnffembpaaGreatZL10C
namespace Go.Proofs.YtcfmjpnffembpaaGreat
open Go.ChangeShapes Go.WideShapes Go.ChangeAt Go.RowKit
open List renaming length → ka0, length_append → ka6, length_cons → kb0, length_drop → kb3, length_nil → kb1, length_take → kb2
set_option linter.unusedVariables false
set_option linter.unusedSimpArgs false
set_option maxHeartbeats 4000000
set_option maxRecDepth 100000
def bxC (b : Bx) (w : Co) : Co := ⟨vI b.k w.k 7, q9 w.r (kC b.r b.rn), c9 w.m b.m b.m.length, q9 w.s (kC b.s b.sn)⟩
def beC (bs : List Bx) (w : Co) : Nat → Co
 | 0 => ⟨0, 0, [], 0⟩
 | j + 1 => if j = 0 ∨ coV w (bxC (aB bs j) w) (beC bs w j) < 0 then bxC (aB bs j) w else beC bs w j
def BE (bs : List Bx) (wk wr : Int) (w : List Int) (wz : Int) (i : Nat) (yk yr : Int) (u : List Int) (yz : Int) : Prop := beC bs ⟨wk, wr, w, wz⟩ i = ⟨yk, yr, u, yz⟩
theorem BE.first {bs : List Bx} {wk wr : Int} {w : List Int} {wz : Int} {yk yr : Int} {u : List Int} {yz : Int} (h1 : yk = vI (kQ bs 0) wk 7) (h2 : yr = q9 wr (kC (kZ bs 0) (kX bs 0))) (h3 : u = c9 w (kL bs 0) (ka0 (kL bs 0))) (h4 : yz = q9 wz (kC (qA bs 0) (k8 bs 0))) : BE bs wk wr w wz 1 yk yr u yz := by
 subst h1; subst h2; subst h3; subst h4
 exact if_pos (.inl rfl)
theorem BE.y {bs : List Bx} {wk wr : Int} {w : List Int} {wz : Int} {j : Nat} {yk yr : Int} {u : List Int} {yz xk xr : Int} {x : List Int} {xz : Int} (h : BE bs wk wr w wz j yk yr u yz) (h1 : xk = vI (kQ bs j) wk 7) (h2 : xr = q9 wr (kC (kZ bs j) (kX bs j))) (h3 : x = c9 w (kL bs j) (ka0 (kL bs j))) (h4 : xz = q9 wz (kC (qA bs j) (k8 bs j))) (hc : d8 wk wr wz xk xr xz yk yr yz w x u < 0) : BE bs wk wr w wz (j + 1) xk xr x xz := by
 subst h1; subst h2; subst h3; subst h4
 have h : beC bs ⟨wk, wr, w, wz⟩ j = ⟨yk, yr, u, yz⟩ := h
 exact if_pos (.inr (by rw [h]; exact hc))
theorem BE.n {bs : List Bx} {wk wr : Int} {w : List Int} {wz : Int} {j : Nat} {yk yr : Int} {u : List Int} {yz : Int} (h : BE bs wk wr w wz j yk yr u yz) (h0 : ¬ j = 0) (hc : ¬ d8 wk wr wz (vI (kQ bs j) wk 7) (q9 wr (kC (kZ bs j) (kX bs j))) (q9 wz (kC (qA bs j) (k8 bs j))) yk yr yz w (c9 w (kL bs j) (ka0 (kL bs j))) u < 0) : BE bs wk wr w wz (j + 1) yk yr u yz := by
 have h' : beC bs ⟨wk, wr, w, wz⟩ j = ⟨yk, yr, u, yz⟩ := h
 show beC bs ⟨wk, wr, w, wz⟩ (j + 1) = _
 rw [beC, if_neg fun e => e.elim h0 fun e1 => hc (by rw [h'] at e1; exact e1)]
 exact h'
def beL (bs : List Bx) (wk wr : Int) (w : List Int) (wz : Int) : Co := beC (kF bs) ⟨wk, wr, w, wz⟩ (ka0 (kF bs))
def beK (bs : List Bx) (wk wr : Int) (w : List Int) (wz : Int) : Int := (beL bs wk wr w wz).k
def zF (bs : List Bx) (wk wr : Int) (w : List Int) (wz : Int) : Int := (beL bs wk wr w wz).r
def rE (bs : List Bx) (wk wr : Int) (w : List Int) (wz : Int) : List Int := (beL bs wk wr w wz).m
def beZ (bs : List Bx) (wk wr : Int) (w : List Int) (wz : Int) : Int := (beL bs wk wr w wz).s
theorem BE.fin {bs : List Bx} {wk wr : Int} {w : List Int} {wz : Int} {j : Nat} {yk yr : Int} {u : List Int} {yz : Int} (h : BE (kF bs) wk wr w wz j yk yr u yz) (hj : j = ka0 (kF bs)) : beK bs wk wr w wz = yk ∧ zF bs wk wr w wz = yr ∧ rE bs wk wr w wz = u ∧ beZ bs wk wr w wz = yz := by
 subst hj
 have h' : beL bs wk wr w wz = ⟨yk, yr, u, yz⟩ := h
 unfold beK zF rE beZ; rw [h']; exact ⟨rfl, rfl, rfl, rfl⟩
def CoW (c : Co) : Prop := (0 ≤ c.k ∧ c.k ≤ 7) ∧ (0 ≤ c.r ∧ c.r ≤ 2147483647) ∧ (0 ≤ c.s ∧ c.s ≤ 2147483647) ∧ ka0 c.m ≤ 1000000
theorem v0t {b : Bx} (h : BxW b) (w : Co) : CoW (bxC b w) := ⟨mW _ _ _, d3 h.1, d3 h.2.1, k2p h.2.2.2.2.2 _⟩
theorem u4z {bs : List Bx} (h : BsW bs) (w : Co) : ∀ j, CoW (beC bs w j)
 | 0 => ⟨⟨Int.le_refl 0, (by decide : (0 : Int) ≤ 7)⟩, ⟨Int.le_refl 0, (by decide : (0 : Int) ≤ 2147483647)⟩, ⟨Int.le_refl 0, (by decide : (0 : Int) ≤ 2147483647)⟩, Nat.zero_le _⟩
 | j + 1 => by
  rw [beC]; split
  ·exact v0t (h.get j) w
  ·exact u4z h w j
theorem k0t {bs : List Bx} (h : BsW bs) (wk wr : Int) (w : List Int) (wz : Int) : (0 ≤ beK bs wk wr w wz ∧ beK bs wk wr w wz ≤ 7) ∧ (0 ≤ zF bs wk wr w wz ∧ zF bs wk wr w wz ≤ 2147483647) ∧ (0 ≤ beZ bs wk wr w wz ∧ beZ bs wk wr w wz ≤ 2147483647) ∧ ka0 (rE bs wk wr w wz) ≤ 1000000 := u4z (bK h) _ _
abbrev yS (w : List Int) (bs : List Bx) (j : Nat) := c9 w (kL (kF bs) j) (ka0 (kL (kF bs) j))
abbrev f9 (w : List Int) (bs : List Bx) := c9 w (kL (kF bs) 0) (ka0 (kL (kF bs) 0))
abbrev v7 (bs : List Bx) (j : Nat) := kC (kZ (kF bs) j) (kX (kF bs) j)
abbrev vZ (bs : List Bx) (j : Nat) := kC (qA (kF bs) j) (k8 (kF bs) j)
abbrev mI (bs : List Bx) := kC (kZ (kF bs) 0) (kX (kF bs) 0)
abbrev mH (bs : List Bx) := kC (qA (kF bs) 0) (k8 (kF bs) 0)
theorem yL {p : Prop} (h : p := by first | omega | with_reducible assumption | (simp only [qC, qB, ka6, kb0, kb1, kb2, kb3, List.length_replicate, List.length_set] <;> omega) | rfl | assumption) : p := h
abbrev vO : BC := .ds [iD 0, iD 0, D.lit (.slice none 0 0), iD 0]
abbrev k69 (bs : List Bx) (j : Nat) (wk : Int) (wr : Int) (w : List Int) (wz : Int) : BC := .ds [iD (vI (kQ (kF bs) j) wk 7), iD (q9 wr (v7 bs j)), D.sl (dI .i64 (yS w bs j)) (ka0 (yS w bs j)), iD (q9 wz (vZ bs j))]
abbrev bB (wk : Int) (wr : Int) (w : List Int) (wn : Nat) (wz : Int) : BC := .ds [iD wk, iD wr, D.sl (dI .i64 w) wn, iD wz]
abbrev f7 (yk : Int) (yr : Int) (u : List Int) (yz : Int) : BC := .ds [iD yk, iD yr, D.sl (dI .i64 u) (ka0 u), iD yz]
abbrev k30 (bs : List Bx) (wk : Int) (wr : Int) (w : List Int) (wz : Int) : BC := .ds [iD (vI (kQ (kF bs) 0) wk 7), iD (q9 wr (mI bs)), D.sl (dI .i64 (f9 w bs)) (ka0 (f9 w bs)), iD (q9 wz (mH bs))]
theorem u3s (bs : List Bx) (n : Nat) (wk wr : Int) (w : List Int) (wn : Nat) (wz : Int) (hn : ka0 bs = n) (h1 : n ≤ 1000000) (hW : BsW bs) (hw : ka0 w = wn) (h5 : wn ≤ 1000000) (hwr : -9223372036854775808 ≤ wr ∧ wr ≤ 9223372036854775807) (hwz : -9223372036854775808 ≤ wz ∧ wz ≤ 9223372036854775807) (h9 : 1 ≤ ka0 (kF bs)) : Fun 27 [.c (.d (D.sl (kE bs) n)), .agg [iC wk, iC wr, .d (D.sl (dI .i64 w) wn), iC wz]] (kH []) 0 (.tup [.agg [iC (beK bs wk wr w wz), iC (zF bs wk wr w wz), .d (D.sl (dI .i64 (rE bs wk wr w wz)) (ka0 (rE bs wk wr w wz))), iC (beZ bs wk wr w wz)], .c (.d (D.lit (.bool true)))]) (kH []) 0 := by
 refine Fun.mk (n := 34) Tryz.func27 rfl rfl (Nat.le_of_ble_eq_true rfl) ?_
 intro cx hcx
 refine kK [.no, .no, .no] True [(0, kG (kE bs) n), (3, rV 0 0), (4, rV 1 0)] [(0, some (27, (bB wk wr w wn wz))), (1, some (27, vO))] 2 trivial ?_
 refine kK [.no] True [(0, kG (kE bs) n), (3, rV 0 0), (4, rV 1 0), (6, rV 2 0)] [(0, some (27, (bB wk wr w wn wz))), (1, some (27, vO)), (2, some (27, vO))] 3 trivial ?_
 refine kO [.no] True [(0, kG (kE bs) n), (3, rV 0 0), (4, rV 1 0), (6, rV 2 0), (7, bV false)] trivial ?_
 refine AW.seq ?_
 have hx1 : ((ka0 (kF bs)) ≤ n) := (by have h9 := mV bs; omega)
 refine kO [.no, .call [] (kG (kE (kF bs)) (ka0 (kF bs))) [] 0 [] none, .no, .no] _ [(3, rV 0 0), (4, rV 1 0), (6, rV 2 0), (7, bV false), (12, kG (kE (kF bs)) (ka0 (kF bs))), (13, uV (ka0 (kF bs))), (14, iV 0)] (u1b bs n zo zo (qD : BsW bs)) ?_
 refine AW.block ?_
 refine xY 1 ?_
 refine AWp.s ?_
 refine kK [.b true] (((0 : Int) < (ka0 (kF bs) : Int))) [(3, rV 0 0), (4, rV 1 0), (6, rV 2 0), (7, bV false), (12, kG (kE (kF bs)) (ka0 (kF bs))), (13, uV (ka0 (kF bs))), (14, iV 0), (15, bV true)] [(0, some (27, (bB wk wr w wn wz))), (1, some (27, vO)), (2, some (27, vO))] 3 zo ?_
 refine AW.seq ?_
 refine vB ?_
 refine AW.seq ?_
 refine AW.block ?_
 obtain ⟨hx2, hx3, hx4, hx5, hx6⟩ := BsW.at (bK (qD : BsW bs)) (0)
 have hx7 : ((1 : Nat) ≤ (ka0 (kL (kF bs) 0))) := mU zo
 refine kK [.n 0, .ds [iD (kQ (kF bs) 0), dl (kZ (kF bs) 0) (kX (kF bs) 0), D.sl (kI (kL (kF bs) 0)) (ka0 (kL (kF bs) 0)), dl (qA (kF bs) 0) (k8 (kF bs) 0)], .no, .no] ((kN 0) ∧ ((0 : Nat) < (ka0 (kF bs))) ∧ (List.take 4 (List.drop 0 (kE (kF bs))) = [iD (kQ (kF bs) 0), dl (kZ (kF bs) 0) (kX (kF bs) 0), D.sl (kI (kL (kF bs) 0)) (ka0 (kL (kF bs) 0)), dl (qA (kF bs) 0) (k8 (kF bs) 0)]) ∧ (([iD (kQ (kF bs) 0), dl (kZ (kF bs) 0) (kX (kF bs) 0), D.sl (kI (kL (kF bs) 0)) (ka0 (kL (kF bs) 0)), dl (qA (kF bs) 0) (k8 (kF bs) 0)] : List D).length = 4)) [(3, rV 0 0), (4, rV 1 0), (6, rV 2 0), (7, bV false), (9, rV 3 0), (12, kG (kE (kF bs)) (ka0 (kF bs))), (13, uV (ka0 (kF bs))), (14, iV 0)] [(0, some (27, (bB wk wr w wn wz))), (1, some (27, vO)), (2, some (27, vO)), (3, some (59, .ds [iD (kQ (kF bs) 0), dl (kZ (kF bs) 0) (kX (kF bs) 0), D.sl (kI (kL (kF bs) 0)) (ka0 (kL (kF bs) 0)), dl (qA (kF bs) 0) (k8 (kF bs) 0)]))] 4 ⟨rfl, zo, (yV (i := 0) (by first | omega | (simp only [qC, qB, ka6, kb0, kb1, kb2, kb3] <;> omega))), rfl⟩ ?_
 have hx8 : (((0 : Int) ≤ (vI (kQ (kF bs) 0) wk 7)) ∧ ((vI (kQ (kF bs) 0) wk 7) ≤ 7)) := mW (kQ (kF bs) 0) wk 7
 have hx9 : (((0 : Int) ≤ (q9 wr (mI bs))) ∧ ((q9 wr (mI bs)) ≤ 2147483647)) := d3 (yL)
 have hx10 : (((0 : Int) ≤ (q9 wz (mH bs))) ∧ ((q9 wz (mH bs)) ≤ 2147483647)) := d3 (yL)
 have hx11 : ((ka0 (f9 w bs)) ≤ 1000000) := k2p ((BsW.ms (bK (qD : BsW bs)) _)) (ka0 (kL (kF bs) 0))
 refine kK [.no, .no, .call [] (.e (.agg [iC (vI (kQ (kF bs) 0) wk 7), iC (q9 wr (mI bs)), .d (dl (f9 w bs) (ka0 (f9 w bs))), iC (q9 wz (mH bs))])) [] 0 [] none, .no, .no] _ [(3, rV 0 0), (4, rV 1 0), (6, rV 2 0), (7, bV false), (10, rV 4 0), (12, kG (kE (kF bs)) (ka0 (kF bs))), (13, uV (ka0 (kF bs))), (14, iV 0)] [(0, some (27, (bB wk wr w wn wz))), (1, some (27, vO)), (2, some (27, vO)), (4, some (27, (k30 bs wk wr w wz)))] 5 (u1c (kQ (kF bs) 0) (kZ (kF bs) 0) (kX (kF bs) 0) (kL (kF bs) 0) (ka0 (kL (kF bs) 0)) (qA (kF bs) 0) (k8 (kF bs) 0) wk wr w wn wz yL yL rfl yL yL yL yL (BsW.ms (bK (qD : BsW bs)) _) zo zo zo zo) ?_
 refine kO (qE 4 []) True [(3, rV 0 0), (4, rV 1 0), (6, rV 2 0), (7, bV false), (10, rV 4 0), (12, kG (kE (kF bs)) (ka0 (kF bs))), (13, uV (ka0 (kF bs))), (14, iV 0), (29, bV true)] trivial ?_
 refine zt ?_
 refine aH [.no, .no, .no] True [(3, rV 0 0), (4, rV 1 0), (6, rV 2 0), (7, bV true), (12, kG (kE (kF bs)) (ka0 (kF bs))), (13, uV (ka0 (kF bs))), (14, iV 0)] [(0, some (27, (bB wk wr w wn wz))), (1, some (27, vO)), (2, some (27, (k30 bs wk wr w wz)))] 5 trivial ?_
 refine uT [.w, .no] ((-9223372036854775808) ≤ (1 : Int) ∧ (1 : Int) ≤ 9223372036854775807) [(3, rV 0 0), (4, rV 1 0), (6, rV 2 0), (7, bV true), (12, kG (kE (kF bs)) (ka0 (kF bs))), (13, uV (ka0 (kF bs))), (14, iV 1)] ⟨by omega, by omega⟩ ?_
 refine AWp.z ?_
 refine kY 0 hcx (fun (x : {x : Nat × Int × Int × List Int × Int // match x with | (j, yk, yr, u, yz) => (1 ≤ j ∧ j ≤ ka0 (kF bs)) ∧ (BE (kF bs) wk wr w wz j yk yr u yz) ∧ ((0 ≤ yk ∧ yk ≤ 7) ∧ (0 ≤ yr ∧ yr ≤ 2147483647) ∧ (0 ≤ yz ∧ yz ≤ 2147483647) ∧ ka0 u ≤ 1000000)}) => match x with | ⟨(j, yk, yr, u, yz), _⟩ => (⟨[(3, rV 0 0), (4, rV 1 0), (6, rV 2 0), (7, bV true), (12, kG (kE (kF bs)) (ka0 (kF bs))), (13, uV (ka0 (kF bs))), (14, uV j)], [(0, some (27, (bB wk wr w wn wz))), (1, some (27, vO)), (2, some (27, (f7 yk yr u yz)))], 5⟩ : ES)) (fun x => match x with | ⟨(j, yk, yr, u, yz), _⟩ => ka0 (kF bs) - j) ⟨((1 : Nat), ((vI (kQ (kF bs) 0) wk 7) : Int), ((q9 wr (mI bs)) : Int), ((f9 w bs) : List Int), ((q9 wz (mH bs)) : Int)), ⟨(by first | omega | assumption | simp), (BE.first rfl rfl rfl rfl), zo⟩⟩ [] (P := (kJ 0) ∧ (kJ 0) ∧ (kJ 0) ∧ (true = true) ∧ (kM (kE (kF bs))) ∧ (kJ (ka0 (kF bs))) ∧ (kN (ka0 (kF bs) : Int)) ∧ (kN 1) ∧ (kM [iD wk, iD wr, dl w wn, iD wz]) ∧ (kM [iD 0, iD 0, qT, iD 0]) ∧ (kM [iD (vI (kQ (kF bs) 0) wk 7), iD (q9 wr (mI bs)), dl (f9 w bs) (ka0 (f9 w bs)), iD (q9 wz (mH bs))])) zk ⟨rfl, rfl, rfl, (by first | rfl | assumption | simp), rfl, rfl, rfl, rfl, rfl, rfl, rfl⟩ ?_
 rintro ⟨⟨j, yk, yr, u, yz⟩, hinv0⟩
 obtain ⟨hj, hE, hy⟩ : (1 ≤ j ∧ j ≤ ka0 (kF bs)) ∧ (BE (kF bs) wk wr w wz j yk yr u yz) ∧ ((0 ≤ yk ∧ yk ≤ 7) ∧ (0 ≤ yr ∧ yr ≤ 2147483647) ∧ (0 ≤ yz ∧ yz ≤ 2147483647) ∧ ka0 u ≤ 1000000) := hinv0
 refine qR (l := [(3, rV 0 0), (4, rV 1 0), (6, rV 2 0), (7, bV true), (12, kG (kE (kF bs)) (ka0 (kF bs))), (13, uV (ka0 (kF bs))), (14, uV j)]) (g := [(0, some (27, (bB wk wr w wn wz))), (1, some (27, vO)), (2, some (27, (f7 yk yr u yz)))]) (nx := 5) rfl rfl rfl ?_
 by_cases hx12 : (((j : Nat) : Int) < (((ka0 (kF bs)) : Nat) : Int))
 ·refine kK [.b true] (((j : Int) < (ka0 (kF bs) : Int))) [(3, rV 0 0), (4, rV 1 0), (6, rV 2 0), (7, bV true), (12, kG (kE (kF bs)) (ka0 (kF bs))), (13, uV (ka0 (kF bs))), (14, uV j), (15, bV true)] [(0, some (27, (bB wk wr w wn wz))), (1, some (27, vO)), (2, some (27, (f7 yk yr u yz)))] 5 zo ?_
  refine AW.seq ?_
  refine vB ?_
  refine AW.seq ?_
  refine AW.block ?_
  obtain ⟨hx13, hx14, hx15, hx16, hx17⟩ := BsW.at (bK (qD : BsW bs)) (j)
  have hx18 : ((1 : Nat) ≤ (ka0 (kL (kF bs) j))) := mU zo
  refine kK [.n j, .ds [iD (kQ (kF bs) j), dl (kZ (kF bs) j) (kX (kF bs) j), D.sl (kI (kL (kF bs) j)) (ka0 (kL (kF bs) j)), dl (qA (kF bs) j) (k8 (kF bs) j)], .no, .no] ((kN (j : Int)) ∧ (j < (ka0 (kF bs))) ∧ (List.take 4 (List.drop (j * 4) (kE (kF bs))) = [iD (kQ (kF bs) j), dl (kZ (kF bs) j) (kX (kF bs) j), D.sl (kI (kL (kF bs) j)) (ka0 (kL (kF bs) j)), dl (qA (kF bs) j) (k8 (kF bs) j)]) ∧ (([iD (kQ (kF bs) j), dl (kZ (kF bs) j) (kX (kF bs) j), D.sl (kI (kL (kF bs) j)) (ka0 (kL (kF bs) j)), dl (qA (kF bs) j) (k8 (kF bs) j)] : List D).length = 4)) [(3, rV 0 0), (4, rV 1 0), (6, rV 2 0), (7, bV true), (9, rV 5 0), (12, kG (kE (kF bs)) (ka0 (kF bs))), (13, uV (ka0 (kF bs))), (14, uV j)] [(0, some (27, (bB wk wr w wn wz))), (1, some (27, vO)), (2, some (27, (f7 yk yr u yz))), (5, some (59, .ds [iD (kQ (kF bs) j), dl (kZ (kF bs) j) (kX (kF bs) j), D.sl (kI (kL (kF bs) j)) (ka0 (kL (kF bs) j)), dl (qA (kF bs) j) (k8 (kF bs) j)]))] 6 ⟨rfl, zo, (yV (by first | omega | (simp only [qC, qB, ka6, kb0, kb1, kb2, kb3] <;> omega))), rfl⟩ ?_
  have hx19 : (((0 : Int) ≤ (vI (kQ (kF bs) j) wk 7)) ∧ ((vI (kQ (kF bs) j) wk 7) ≤ 7)) := mW (kQ (kF bs) j) wk 7
  have hx20 : (((0 : Int) ≤ (q9 wr (v7 bs j))) ∧ ((q9 wr (v7 bs j)) ≤ 2147483647)) := d3 (yL)
  have hx21 : (((0 : Int) ≤ (q9 wz (vZ bs j))) ∧ ((q9 wz (vZ bs j)) ≤ 2147483647)) := d3 (yL)
  have hx22 : ((ka0 (yS w bs j)) ≤ 1000000) := k2p ((BsW.ms (bK (qD : BsW bs)) _)) (ka0 (kL (kF bs) j))
  refine kK [.no, .no, .call [] (.e (.agg [iC (vI (kQ (kF bs) j) wk 7), iC (q9 wr (v7 bs j)), .d (dl (yS w bs j) (ka0 (yS w bs j))), iC (q9 wz (vZ bs j))])) [] 0 [] none, .no, .no] _ [(3, rV 0 0), (4, rV 1 0), (6, rV 2 0), (7, bV true), (10, rV 6 0), (12, kG (kE (kF bs)) (ka0 (kF bs))), (13, uV (ka0 (kF bs))), (14, uV j)] [(0, some (27, (bB wk wr w wn wz))), (1, some (27, vO)), (2, some (27, (f7 yk yr u yz))), (6, some (27, (k69 bs j wk wr w wz)))] 7 (u1c (kQ (kF bs) j) (kZ (kF bs) j) (kX (kF bs) j) (kL (kF bs) j) (ka0 (kL (kF bs) j)) (qA (kF bs) j) (k8 (kF bs) j) wk wr w wn wz yL yL rfl yL yL yL yL (BsW.ms (bK (qD : BsW bs)) _) zo zo zo zo) ?_
  by_cases hx24 : ((d8 wk wr wz (vI (kQ (kF bs) j) wk 7) (q9 wr (v7 bs j)) (q9 wz (vZ bs j)) yk yr yz w (yS w bs j) u) < 0)
  ·have hx25 : ((((-1) : Int) ≤ (d8 wk wr wz (vI (kQ (kF bs) j) wk 7) (q9 wr (v7 bs j)) (q9 wz (vZ bs j)) yk yr yz w (yS w bs j) u)) ∧ ((d8 wk wr wz (vI (kQ (kF bs) j) wk 7) (q9 wr (v7 bs j)) (q9 wz (vZ bs j)) yk yr yz w (yS w bs j) u) ≤ 1)) := oB ..
   refine kO (qE 6 [.call [] (iV (d8 wk wr wz (vI (kQ (kF bs) j) wk 7) (q9 wr (v7 bs j)) (q9 wz (vZ bs j)) yk yr yz w (yS w bs j) u)) [] 0 [] none, .b true, .no]) ((_) ∧ (((d8 wk wr wz (vI (kQ (kF bs) j) wk 7) (q9 wr (v7 bs j)) (q9 wz (vZ bs j)) yk yr yz w (yS w bs j) u) < 0))) [(3, rV 0 0), (4, rV 1 0), (6, rV 2 0), (7, bV true), (10, rV 6 0), (12, kG (kE (kF bs)) (ka0 (kF bs))), (13, uV (ka0 (kF bs))), (14, uV j), (29, bV true)] ⟨(pS wk wr wz (vI (kQ (kF bs) j) wk 7) (q9 wr (v7 bs j)) (q9 wz (vZ bs j)) yk yr yz w (yS w bs j) u wn (ka0 (yS w bs j)) (ka0 u) zo rfl rfl zo yL zo zo yL zo zo yL zo), zo⟩ ?_
   refine zt ?_
   refine aH [.no, .no, .no] True [(3, rV 0 0), (4, rV 1 0), (6, rV 2 0), (7, bV true), (12, kG (kE (kF bs)) (ka0 (kF bs))), (13, uV (ka0 (kF bs))), (14, uV j)] [(0, some (27, (bB wk wr w wn wz))), (1, some (27, vO)), (2, some (27, (k69 bs j wk wr w wz)))] 7 trivial ?_
   refine uT [.w, .no] ((-9223372036854775808) ≤ ((j : Int) + 1) ∧ ((j : Int) + 1) ≤ 9223372036854775807) [(3, rV 0 0), (4, rV 1 0), (6, rV 2 0), (7, bV true), (12, kG (kE (kF bs)) (ka0 (kF bs))), (13, uV (ka0 (kF bs))), (14, iV (↑j + 1))] ⟨by omega, by omega⟩ ?_
   exact kW ⟨(((j + 1) : Nat), ((vI (kQ (kF bs) j) wk 7) : Int), ((q9 wr (v7 bs j)) : Int), ((yS w bs j) : List Int), ((q9 wz (vZ bs j)) : Int)), ⟨(by first | omega | assumption | simp), (by first | exact BE.y hE rfl rfl rfl rfl zo | exact BE.n hE zo zo), (by first | omega | assumption)⟩⟩ [] (P := (kJ 0) ∧ (kJ 0) ∧ (kJ 0) ∧ (true = true) ∧ (kM (kE (kF bs))) ∧ (kJ (ka0 (kF bs))) ∧ (kN (ka0 (kF bs) : Int)) ∧ (((((j + 1) : Nat) : Int) : Int) = ((j : Int) + 1)) ∧ (kM [iD wk, iD wr, dl w wn, iD wz]) ∧ (kM [iD 0, iD 0, qT, iD 0]) ∧ (kM [iD (vI (kQ (kF bs) j) wk 7), iD (q9 wr (v7 bs j)), dl (yS w bs j) (ka0 (yS w bs j)), iD (q9 wz (vZ bs j))])) zk ⟨rfl, rfl, rfl, (by first | rfl | assumption | simp), rfl, rfl, rfl, (by first | rfl | omega | assumption | (simp; done) | (simp; omega)), rfl, rfl, rfl⟩ (show ka0 (kF bs) - (j + 1) < ka0 (kF bs) - j from (by first | omega | (show _ < _; simp; omega)))
  ·have hx26 : ((((-1) : Int) ≤ (d8 wk wr wz (vI (kQ (kF bs) j) wk 7) (q9 wr (v7 bs j)) (q9 wz (vZ bs j)) yk yr yz w (yS w bs j) u)) ∧ ((d8 wk wr wz (vI (kQ (kF bs) j) wk 7) (q9 wr (v7 bs j)) (q9 wz (vZ bs j)) yk yr yz w (yS w bs j) u) ≤ 1)) := oB ..
   refine kO (qE 6 [.call [] (iV (d8 wk wr wz (vI (kQ (kF bs) j) wk 7) (q9 wr (v7 bs j)) (q9 wz (vZ bs j)) yk yr yz w (yS w bs j) u)) [] 0 [] none, .b false, .no]) ((_) ∧ (¬ ((d8 wk wr wz (vI (kQ (kF bs) j) wk 7) (q9 wr (v7 bs j)) (q9 wz (vZ bs j)) yk yr yz w (yS w bs j) u) < 0))) [(3, rV 0 0), (4, rV 1 0), (6, rV 2 0), (7, bV true), (10, rV 6 0), (12, kG (kE (kF bs)) (ka0 (kF bs))), (13, uV (ka0 (kF bs))), (14, uV j), (29, bV false)] ⟨(pS wk wr wz (vI (kQ (kF bs) j) wk 7) (q9 wr (v7 bs j)) (q9 wz (vZ bs j)) yk yr yz w (yS w bs j) u wn (ka0 (yS w bs j)) (ka0 u) zo rfl rfl zo yL zo zo yL zo zo yL zo), zo⟩ ?_
   refine q8 ?_
   refine aH [.w, .no] ((-9223372036854775808) ≤ ((j : Int) + 1) ∧ ((j : Int) + 1) ≤ 9223372036854775807) [(3, rV 0 0), (4, rV 1 0), (6, rV 2 0), (7, bV true), (12, kG (kE (kF bs)) (ka0 (kF bs))), (13, uV (ka0 (kF bs))), (14, iV (↑j + 1))] [(0, some (27, (bB wk wr w wn wz))), (1, some (27, vO)), (2, some (27, (f7 yk yr u yz)))] 7 ⟨by omega, by omega⟩ ?_
   exact kW ⟨(((j + 1) : Nat), (yk : Int), (yr : Int), (u : List Int), (yz : Int)), ⟨(by first | omega | assumption | simp), (by first | exact BE.y hE rfl rfl rfl rfl zo | exact BE.n hE zo zo), (by first | omega | assumption)⟩⟩ [] (P := (kJ 0) ∧ (kJ 0) ∧ (kJ 0) ∧ (true = true) ∧ (kM (kE (kF bs))) ∧ (kJ (ka0 (kF bs))) ∧ (kN (ka0 (kF bs) : Int)) ∧ (((((j + 1) : Nat) : Int) : Int) = ((j : Int) + 1)) ∧ (kM [iD wk, iD wr, dl w wn, iD wz]) ∧ (kM [iD 0, iD 0, qT, iD 0]) ∧ (kM [iD yk, iD yr, dl u (ka0 u), iD yz])) zk ⟨rfl, rfl, rfl, (by first | rfl | assumption | simp), rfl, rfl, rfl, (by first | rfl | omega | assumption | (simp; done) | (simp; omega)), rfl, rfl, rfl⟩ (show ka0 (kF bs) - (j + 1) < ka0 (kF bs) - j from (by first | omega | (show _ < _; simp; omega)))
 ·refine kK [.b false] (¬ ((j : Int) < (ka0 (kF bs) : Int))) [(3, rV 0 0), (4, rV 1 0), (6, rV 2 0), (7, bV true), (12, kG (kE (kF bs)) (ka0 (kF bs))), (13, uV (ka0 (kF bs))), (14, uV j), (15, bV false)] [(0, some (27, (bB wk wr w wn wz))), (1, some (27, vO)), (2, some (27, (f7 yk yr u yz)))] 5 zo ?_
  refine AW.seq ?_
  refine zf ?_
  refine AW.exit ?_
  refine kK (qE 4 []) True [(4, rV 1 0), (5, bV true)] [(1, some (27, (f7 yk yr u yz)))] 5 trivial ?_
  obtain ⟨hz1, hz2, hz3, hz4⟩ := hE.fin zo
  refine AW.ret ?_
  exact kA (.inr rfl) [] (P := (((beK bs wk wr w wz) : Int) = yk) ∧ (((zF bs wk wr w wz) : Int) = yr) ∧ (((dI .i64 (rE bs wk wr w wz)) : List D) = (dI .i64 u)) ∧ (((ka0 (rE bs wk wr w wz)) : Nat) = (ka0 u)) ∧ (((beZ bs wk wr w wz) : Int) = yz) ∧ (true = true)) zk ⟨(by first | rfl | exact hz1 | exact hz2 | exact hz4 | rw [hz3] | omega), (by first | rfl | exact hz1 | exact hz2 | exact hz4 | rw [hz3] | omega), (by first | rfl | rw [hz3]), (by first | rfl | exact hz1 | exact hz2 | exact hz4 | rw [hz3] | omega), (by first | rfl | exact hz1 | exact hz2 | exact hz4 | rw [hz3] | omega), rfl⟩
abbrev mG : BC := .ds [iD 0, iD 0, D.lit (.slice none 0 0), iD 0]
theorem u3t (bs : List Bx) (n : Nat) (wk wr : Int) (w : List Int) (wn : Nat) (wz : Int) (hn : ka0 bs = n) (h1 : n ≤ 1000000) (hW : BsW bs) (hw : ka0 w = wn) (h5 : wn ≤ 1000000) (hwr : -9223372036854775808 ≤ wr ∧ wr ≤ 9223372036854775807) (hwz : -9223372036854775808 ≤ wz ∧ wz ≤ 9223372036854775807) (h9 : ka0 (kF bs) = 0) : Fun 27 [.c (.d (D.sl (kE bs) n)), .agg [iC wk, iC wr, .d (D.sl (dI .i64 w) wn), iC wz]] (kH []) 0 (.tup [.agg [iC 0, iC 0, .d (D.lit (.slice none 0 0)), iC 0], .c (.d (D.lit (.bool false)))]) (kH []) 0 := by
 refine Fun.mk (n := 34) Tryz.func27 rfl rfl (Nat.le_of_ble_eq_true rfl) ?_
 intro cx hcx
 refine kK [.no, .no, .no] True [(0, kG (kE bs) n), (3, rV 0 0), (4, rV 1 0)] [(0, some (27, .ds [iD wk, iD wr, dl w wn, iD wz])), (1, some (27, mG))] 2 trivial ?_
 refine kK [.no] True [(0, kG (kE bs) n), (3, rV 0 0), (4, rV 1 0), (6, rV 2 0)] [(0, some (27, .ds [iD wk, iD wr, dl w wn, iD wz])), (1, some (27, mG)), (2, some (27, mG))] 3 trivial ?_
 refine kO [.no] True [(0, kG (kE bs) n), (3, rV 0 0), (4, rV 1 0), (6, rV 2 0), (7, bV false)] trivial ?_
 refine AW.seq ?_
 have hx1 : ((ka0 (kF bs)) ≤ n) := (by have h9 := mV bs; omega)
 refine kO [.no, .call [] (kG (kE (kF bs)) (ka0 (kF bs))) [] 0 [] none, .no, .no] _ [(3, rV 0 0), (4, rV 1 0), (6, rV 2 0), (7, bV false), (12, kG (kE (kF bs)) (ka0 (kF bs))), (13, uV (ka0 (kF bs))), (14, iV 0)] (u1b bs n zo zo (qD : BsW bs)) ?_
 refine AW.block ?_
 refine AW.rounds 1 ?_
 refine AWr.s ?_
 refine kK [.b false] (¬ ((0 : Int) < (ka0 (kF bs) : Int))) [(3, rV 0 0), (4, rV 1 0), (6, rV 2 0), (7, bV false), (12, kG (kE (kF bs)) (ka0 (kF bs))), (13, uV (ka0 (kF bs))), (14, iV 0), (15, bV false)] [(0, some (27, .ds [iD wk, iD wr, dl w wn, iD wz])), (1, some (27, mG)), (2, some (27, mG))] 3 zo ?_
 refine AW.seq ?_
 refine zf ?_
 refine AW.exit ?_
 refine kK (qE 4 []) True [(4, rV 1 0), (5, bV false)] [(1, some (27, mG))] 3 trivial ?_
 refine AW.ret ?_
 exact kA (.inr rfl) [] (P := (kN 0) ∧ (kN 0) ∧ ((.slice none 0 0 : Value) = .slice none 0 0) ∧ (kN 0) ∧ (false = false)) zk ⟨rfl, rfl, rfl, rfl, rfl⟩
end Go.Proofs.YtcfmjpnffembpaaGreat
