/- The best choice of a list. No statement is proved here. -/
import Derived.Test.YtcfmjpnffembpaaGreatZL10C
namespace Go.Proofs.YtcfmjpnffembpaaGreat
open Go.ChangeShapes Go.WideShapes Go.ChangeAt Go.RowKit
open List renaming length → ka0, length_append → ka6, length_cons → ka8, length_drop → kb0, length_nil → kb3, length_take → ka9
set_option linter.unusedVariables false
set_option linter.unusedSimpArgs false
set_option maxHeartbeats 4000000
set_option maxRecDepth 100000
def bxC (b : Bx) (w : Co) : Co := ⟨vS b.k w.k 7, q8 w.r (kB b.r b.rn), dG w.m b.m b.m.length, q8 w.s (kB b.s b.sn)⟩
def beC (bs : List Bx) (w : Co) : Nat → Co
 | 0 => ⟨0, 0, [], 0⟩
 | j + 1 => if j = 0 ∨ coV w (bxC (gO bs j) w) (beC bs w j) < 0 then bxC (gO bs j) w else beC bs w j
def BE (bs : List Bx) (wk wr : Int) (w : List Int) (wz : Int) (i : Nat) (yk yr : Int) (u : List Int) (yz : Int) : Prop := beC bs ⟨wk, wr, w, wz⟩ i = ⟨yk, yr, u, yz⟩
theorem BE.first {bs : List Bx} {wk wr : Int} {w : List Int} {wz : Int} {yk yr : Int} {u : List Int} {yz : Int} (h1 : yk = vS (qJ bs 0) wk 7) (h2 : yr = q8 wr (kB (qR bs 0) (qM bs 0))) (h3 : u = dG w (kY bs 0) (ka0 (kY bs 0))) (h4 : yz = q8 wz (kB (qS bs 0) (qN bs 0))) : BE bs wk wr w wz 1 yk yr u yz := by
 subst h1; subst h2; subst h3; subst h4
 exact if_pos (.inl rfl)
theorem BE.y {bs : List Bx} {wk wr : Int} {w : List Int} {wz : Int} {j : Nat} {yk yr : Int} {u : List Int} {yz xk xr : Int} {x : List Int} {xz : Int} (h : BE bs wk wr w wz j yk yr u yz) (h1 : xk = vS (qJ bs j) wk 7) (h2 : xr = q8 wr (kB (qR bs j) (qM bs j))) (h3 : x = dG w (kY bs j) (ka0 (kY bs j))) (h4 : xz = q8 wz (kB (qS bs j) (qN bs j))) (hc : vO wk wr wz xk xr xz yk yr yz w x u < 0) : BE bs wk wr w wz (j + 1) xk xr x xz := by
 subst h1; subst h2; subst h3; subst h4
 have h : beC bs ⟨wk, wr, w, wz⟩ j = ⟨yk, yr, u, yz⟩ := h
 exact if_pos (.inr (by rw [h]; exact hc))
theorem BE.n {bs : List Bx} {wk wr : Int} {w : List Int} {wz : Int} {j : Nat} {yk yr : Int} {u : List Int} {yz : Int} (h : BE bs wk wr w wz j yk yr u yz) (h0 : ¬ j = 0) (hc : ¬ vO wk wr wz (vS (qJ bs j) wk 7) (q8 wr (kB (qR bs j) (qM bs j))) (q8 wz (kB (qS bs j) (qN bs j))) yk yr yz w (dG w (kY bs j) (ka0 (kY bs j))) u < 0) : BE bs wk wr w wz (j + 1) yk yr u yz := by
 have h' : beC bs ⟨wk, wr, w, wz⟩ j = ⟨yk, yr, u, yz⟩ := h
 show beC bs ⟨wk, wr, w, wz⟩ (j + 1) = _
 rw [beC, if_neg fun e => e.elim h0 fun e1 => hc (by rw [h'] at e1; exact e1)]
 exact h'
def beL (bs : List Bx) (wk wr : Int) (w : List Int) (wz : Int) : Co := beC (kE bs) ⟨wk, wr, w, wz⟩ (ka0 (kE bs))
def vE (bs : List Bx) (wk wr : Int) (w : List Int) (wz : Int) : Int := (beL bs wk wr w wz).k
def y8 (bs : List Bx) (wk wr : Int) (w : List Int) (wz : Int) : Int := (beL bs wk wr w wz).r
def u1 (bs : List Bx) (wk wr : Int) (w : List Int) (wz : Int) : List Int := (beL bs wk wr w wz).m
def vD (bs : List Bx) (wk wr : Int) (w : List Int) (wz : Int) : Int := (beL bs wk wr w wz).s
theorem BE.fin {bs : List Bx} {wk wr : Int} {w : List Int} {wz : Int} {j : Nat} {yk yr : Int} {u : List Int} {yz : Int} (h : BE (kE bs) wk wr w wz j yk yr u yz) (hj : j = ka0 (kE bs)) : vE bs wk wr w wz = yk ∧ y8 bs wk wr w wz = yr ∧ u1 bs wk wr w wz = u ∧ vD bs wk wr w wz = yz := by
 subst hj
 have h' : beL bs wk wr w wz = ⟨yk, yr, u, yz⟩ := h
 unfold vE y8 u1 vD; rw [h']; exact ⟨rfl, rfl, rfl, rfl⟩
def CoW (c : Co) : Prop := (0 ≤ c.k ∧ c.k ≤ 7) ∧ (0 ≤ c.r ∧ c.r ≤ 2147483647) ∧ (0 ≤ c.s ∧ c.s ≤ 2147483647) ∧ ka0 c.m ≤ 1000000
theorem u5g {b : Bx} (h : BxW b) (w : Co) : CoW (bxC b w) := ⟨lQ _ _ _, dD h.1, dD h.2.1, k0d h.2.2.2.2.2 _⟩
theorem u13 {bs : List Bx} (h : BsW bs) (w : Co) : ∀ j, CoW (beC bs w j)
 | 0 => ⟨⟨Int.le_refl 0, (by decide : (0 : Int) ≤ 7)⟩, ⟨Int.le_refl 0, (by decide : (0 : Int) ≤ 2147483647)⟩, ⟨Int.le_refl 0, (by decide : (0 : Int) ≤ 2147483647)⟩, Nat.zero_le _⟩
 | j + 1 => by
  rw [beC]; split
  ·exact u5g (h.get j) w
  ·exact u13 h w j
theorem yX {bs : List Bx} (h : BsW bs) (wk wr : Int) (w : List Int) (wz : Int) : (0 ≤ vE bs wk wr w wz ∧ vE bs wk wr w wz ≤ 7) ∧ (0 ≤ y8 bs wk wr w wz ∧ y8 bs wk wr w wz ≤ 2147483647) ∧ (0 ≤ vD bs wk wr w wz ∧ vD bs wk wr w wz ≤ 2147483647) ∧ ka0 (u1 bs wk wr w wz) ≤ 1000000 := u13 (aK h) _ _
abbrev yM (w : List Int) (bs : List Bx) (j : Nat) := dG w (kY (kE bs) j) (ka0 (kY (kE bs) j))
abbrev e7 (w : List Int) (bs : List Bx) := dG w (kY (kE bs) 0) (ka0 (kY (kE bs) 0))
abbrev vX (bs : List Bx) (j : Nat) := kB (qR (kE bs) j) (qM (kE bs) j)
abbrev vW (bs : List Bx) (j : Nat) := kB (qS (kE bs) j) (qN (kE bs) j)
abbrev lF (bs : List Bx) := kB (qR (kE bs) 0) (qM (kE bs) 0)
abbrev lE (bs : List Bx) := kB (qS (kE bs) 0) (qN (kE bs) 0)
theorem yH {p : Prop} (h : p := by first | omega | with_reducible assumption | (simp only [qC, qB, ka6, ka8, kb3, ka9, kb0, List.length_replicate, List.length_set] <;> omega) | rfl | assumption) : p := h
abbrev vK : BC := .ds [iD 0, iD 0, D.lit (.slice none 0 0), iD 0]
abbrev k3x (bs : List Bx) (j : Nat) (wk : Int) (wr : Int) (w : List Int) (wz : Int) : BC := .ds [iD (vS (qJ (kE bs) j) wk 7), iD (q8 wr (vX bs j)), D.sl (dI .i64 (yM w bs j)) (ka0 (yM w bs j)), iD (q8 wz (vW bs j))]
abbrev aS (wk : Int) (wr : Int) (w : List Int) (wn : Nat) (wz : Int) : BC := .ds [iD wk, iD wr, D.sl (dI .i64 w) wn, iD wz]
abbrev eZ (yk : Int) (yr : Int) (u : List Int) (yz : Int) : BC := .ds [iD yk, iD yr, D.sl (dI .i64 u) (ka0 u), iD yz]
abbrev k0n (bs : List Bx) (wk : Int) (wr : Int) (w : List Int) (wz : Int) : BC := .ds [iD (vS (qJ (kE bs) 0) wk 7), iD (q8 wr (lF bs)), D.sl (dI .i64 (e7 w bs)) (ka0 (e7 w bs)), iD (q8 wz (lE bs))]
theorem jN (bs : List Bx) (n : Nat) (wk wr : Int) (w : List Int) (wn : Nat) (wz : Int) (hn : ka0 bs = n) (h1 : n ≤ 1000000) (hW : BsW bs) (hw : ka0 w = wn) (h5 : wn ≤ 1000000) (hwr : -9223372036854775808 ≤ wr ∧ wr ≤ 9223372036854775807) (hwz : -9223372036854775808 ≤ wz ∧ wz ≤ 9223372036854775807) (h9 : 1 ≤ ka0 (kE bs)) : Fun 27 [.c (.d (D.sl (kF bs) n)), .agg [iC wk, iC wr, .d (D.sl (dI .i64 w) wn), iC wz]] (kK []) 0 (.tup [.agg [iC (vE bs wk wr w wz), iC (y8 bs wk wr w wz), .d (D.sl (dI .i64 (u1 bs wk wr w wz)) (ka0 (u1 bs wk wr w wz))), iC (vD bs wk wr w wz)], .c (.d (D.lit (.bool true)))]) (kK []) 0 := by
 refine Fun.mk (n := 34) Tryz.func27 rfl rfl (Nat.le_of_ble_eq_true rfl) ?_
 intro cx hcx
 refine kL [.no, .no, .no] True [(0, kI (kF bs) n), (3, rV 0 0), (4, rV 1 0)] [(0, some (27, (aS wk wr w wn wz))), (1, some (27, vK))] 2 trivial ?_
 refine kL [.no] True [(0, kI (kF bs) n), (3, rV 0 0), (4, rV 1 0), (6, rV 2 0)] [(0, some (27, (aS wk wr w wn wz))), (1, some (27, vK)), (2, some (27, vK))] 3 trivial ?_
 refine kP [.no] True [(0, kI (kF bs) n), (3, rV 0 0), (4, rV 1 0), (6, rV 2 0), (7, bV false)] trivial ?_
 refine AW.seq ?_
 have hx1 : ((ka0 (kE bs)) ≤ n) := (by have h9 := eG bs; omega)
 refine kP [.no, .call [] (kI (kF (kE bs)) (ka0 (kE bs))) [] 0 [] none, .no, .no] _ [(3, rV 0 0), (4, rV 1 0), (6, rV 2 0), (7, bV false), (12, kI (kF (kE bs)) (ka0 (kE bs))), (13, uV (ka0 (kE bs))), (14, iV 0)] (tD bs n zo zo (qF : BsW bs)) ?_
 refine AW.block ?_
 refine tG 1 ?_
 refine AWp.s ?_
 refine kL [.b true] (((0 : Int) < (ka0 (kE bs) : Int))) [(3, rV 0 0), (4, rV 1 0), (6, rV 2 0), (7, bV false), (12, kI (kF (kE bs)) (ka0 (kE bs))), (13, uV (ka0 (kE bs))), (14, iV 0), (15, bV true)] [(0, some (27, (aS wk wr w wn wz))), (1, some (27, vK)), (2, some (27, vK))] 3 zo ?_
 refine AW.seq ?_
 refine vP ?_
 refine AW.seq ?_
 refine AW.block ?_
 obtain ⟨hx2, hx3, hx4, hx5, hx6⟩ := BsW.at (aK (qF : BsW bs)) (0)
 have hx7 : ((1 : Nat) ≤ (ka0 (kY (kE bs) 0))) := lP zo
 refine kL [.n 0, .ds [iD (qJ (kE bs) 0), dl (qR (kE bs) 0) (qM (kE bs) 0), D.sl (kJ (kY (kE bs) 0)) (ka0 (kY (kE bs) 0)), dl (qS (kE bs) 0) (qN (kE bs) 0)], .no, .no] ((kO 0) ∧ ((0 : Nat) < (ka0 (kE bs))) ∧ (List.take 4 (List.drop 0 (kF (kE bs))) = [iD (qJ (kE bs) 0), dl (qR (kE bs) 0) (qM (kE bs) 0), D.sl (kJ (kY (kE bs) 0)) (ka0 (kY (kE bs) 0)), dl (qS (kE bs) 0) (qN (kE bs) 0)]) ∧ (([iD (qJ (kE bs) 0), dl (qR (kE bs) 0) (qM (kE bs) 0), D.sl (kJ (kY (kE bs) 0)) (ka0 (kY (kE bs) 0)), dl (qS (kE bs) 0) (qN (kE bs) 0)] : List D).length = 4)) [(3, rV 0 0), (4, rV 1 0), (6, rV 2 0), (7, bV false), (9, rV 3 0), (12, kI (kF (kE bs)) (ka0 (kE bs))), (13, uV (ka0 (kE bs))), (14, iV 0)] [(0, some (27, (aS wk wr w wn wz))), (1, some (27, vK)), (2, some (27, vK)), (3, some (59, .ds [iD (qJ (kE bs) 0), dl (qR (kE bs) 0) (qM (kE bs) 0), D.sl (kJ (kY (kE bs) 0)) (ka0 (kY (kE bs) 0)), dl (qS (kE bs) 0) (qN (kE bs) 0)]))] 4 ⟨rfl, zo, (cN (i := 0) (by first | omega | (simp only [qC, qB, ka6, ka8, kb3, ka9, kb0] <;> omega))), rfl⟩ ?_
 have hx8 : (((0 : Int) ≤ (vS (qJ (kE bs) 0) wk 7)) ∧ ((vS (qJ (kE bs) 0) wk 7) ≤ 7)) := lQ (qJ (kE bs) 0) wk 7
 have hx9 : (((0 : Int) ≤ (q8 wr (lF bs))) ∧ ((q8 wr (lF bs)) ≤ 2147483647)) := dD (yH)
 have hx10 : (((0 : Int) ≤ (q8 wz (lE bs))) ∧ ((q8 wz (lE bs)) ≤ 2147483647)) := dD (yH)
 have hx11 : ((ka0 (e7 w bs)) ≤ 1000000) := k0d ((vM (aK (qF : BsW bs)) _)) (ka0 (kY (kE bs) 0))
 refine kL [.no, .no, .call [] (.e (.agg [iC (vS (qJ (kE bs) 0) wk 7), iC (q8 wr (lF bs)), .d (dl (e7 w bs) (ka0 (e7 w bs))), iC (q8 wz (lE bs))])) [] 0 [] none, .no, .no] _ [(3, rV 0 0), (4, rV 1 0), (6, rV 2 0), (7, bV false), (10, rV 4 0), (12, kI (kF (kE bs)) (ka0 (kE bs))), (13, uV (ka0 (kE bs))), (14, iV 0)] [(0, some (27, (aS wk wr w wn wz))), (1, some (27, vK)), (2, some (27, vK)), (4, some (27, (k0n bs wk wr w wz)))] 5 (k7v (qJ (kE bs) 0) (qR (kE bs) 0) (qM (kE bs) 0) (kY (kE bs) 0) (ka0 (kY (kE bs) 0)) (qS (kE bs) 0) (qN (kE bs) 0) wk wr w wn wz yH yH rfl yH yH yH yH (vM (aK (qF : BsW bs)) _) zo zo zo zo) ?_
 refine kP (qA 4 []) True [(3, rV 0 0), (4, rV 1 0), (6, rV 2 0), (7, bV false), (10, rV 4 0), (12, kI (kF (kE bs)) (ka0 (kE bs))), (13, uV (ka0 (kE bs))), (14, iV 0), (29, bV true)] trivial ?_
 refine zt ?_
 refine a5 [.no, .no, .no] True [(3, rV 0 0), (4, rV 1 0), (6, rV 2 0), (7, bV true), (12, kI (kF (kE bs)) (ka0 (kE bs))), (13, uV (ka0 (kE bs))), (14, iV 0)] [(0, some (27, (aS wk wr w wn wz))), (1, some (27, vK)), (2, some (27, (k0n bs wk wr w wz)))] 5 trivial ?_
 refine uS [.w, .no] ((-9223372036854775808) ≤ (1 : Int) ∧ (1 : Int) ≤ 9223372036854775807) [(3, rV 0 0), (4, rV 1 0), (6, rV 2 0), (7, bV true), (12, kI (kF (kE bs)) (ka0 (kE bs))), (13, uV (ka0 (kE bs))), (14, iV 1)] ⟨by omega, by omega⟩ ?_
 refine AWp.z ?_
 refine kZ 0 hcx (fun (x : {x : Nat × Int × Int × List Int × Int // match x with | (j, yk, yr, u, yz) => (1 ≤ j ∧ j ≤ ka0 (kE bs)) ∧ (BE (kE bs) wk wr w wz j yk yr u yz) ∧ ((0 ≤ yk ∧ yk ≤ 7) ∧ (0 ≤ yr ∧ yr ≤ 2147483647) ∧ (0 ≤ yz ∧ yz ≤ 2147483647) ∧ ka0 u ≤ 1000000)}) => match x with | ⟨(j, yk, yr, u, yz), _⟩ => (⟨[(3, rV 0 0), (4, rV 1 0), (6, rV 2 0), (7, bV true), (12, kI (kF (kE bs)) (ka0 (kE bs))), (13, uV (ka0 (kE bs))), (14, uV j)], [(0, some (27, (aS wk wr w wn wz))), (1, some (27, vK)), (2, some (27, (eZ yk yr u yz)))], 5⟩ : ES)) (fun x => match x with | ⟨(j, yk, yr, u, yz), _⟩ => ka0 (kE bs) - j) ⟨((1 : Nat), ((vS (qJ (kE bs) 0) wk 7) : Int), ((q8 wr (lF bs)) : Int), ((e7 w bs) : List Int), ((q8 wz (lE bs)) : Int)), ⟨(by first | omega | assumption | simp), (BE.first rfl rfl rfl rfl), zo⟩⟩ [] (P := (kH 0) ∧ (kH 0) ∧ (kH 0) ∧ (true = true) ∧ (kM (kF (kE bs))) ∧ (kH (ka0 (kE bs))) ∧ (kO (ka0 (kE bs) : Int)) ∧ (kO 1) ∧ (kM [iD wk, iD wr, dl w wn, iD wz]) ∧ (kM [iD 0, iD 0, k9, iD 0]) ∧ (kM [iD (vS (qJ (kE bs) 0) wk 7), iD (q8 wr (lF bs)), dl (e7 w bs) (ka0 (e7 w bs)), iD (q8 wz (lE bs))])) zk ⟨rfl, rfl, rfl, (by first | rfl | assumption | simp), rfl, rfl, rfl, rfl, rfl, rfl, rfl⟩ ?_
 rintro ⟨⟨j, yk, yr, u, yz⟩, hinv0⟩
 obtain ⟨hj, hE, hy⟩ : (1 ≤ j ∧ j ≤ ka0 (kE bs)) ∧ (BE (kE bs) wk wr w wz j yk yr u yz) ∧ ((0 ≤ yk ∧ yk ≤ 7) ∧ (0 ≤ yr ∧ yr ≤ 2147483647) ∧ (0 ≤ yz ∧ yz ≤ 2147483647) ∧ ka0 u ≤ 1000000) := hinv0
 refine qT (l := [(3, rV 0 0), (4, rV 1 0), (6, rV 2 0), (7, bV true), (12, kI (kF (kE bs)) (ka0 (kE bs))), (13, uV (ka0 (kE bs))), (14, uV j)]) (g := [(0, some (27, (aS wk wr w wn wz))), (1, some (27, vK)), (2, some (27, (eZ yk yr u yz)))]) (nx := 5) rfl rfl rfl ?_
 by_cases hx12 : (((j : Nat) : Int) < (((ka0 (kE bs)) : Nat) : Int))
 ·refine kL [.b true] (((j : Int) < (ka0 (kE bs) : Int))) [(3, rV 0 0), (4, rV 1 0), (6, rV 2 0), (7, bV true), (12, kI (kF (kE bs)) (ka0 (kE bs))), (13, uV (ka0 (kE bs))), (14, uV j), (15, bV true)] [(0, some (27, (aS wk wr w wn wz))), (1, some (27, vK)), (2, some (27, (eZ yk yr u yz)))] 5 zo ?_
  refine AW.seq ?_
  refine vP ?_
  refine AW.seq ?_
  refine AW.block ?_
  obtain ⟨hx13, hx14, hx15, hx16, hx17⟩ := BsW.at (aK (qF : BsW bs)) (j)
  have hx18 : ((1 : Nat) ≤ (ka0 (kY (kE bs) j))) := lP zo
  refine kL [.n j, .ds [iD (qJ (kE bs) j), dl (qR (kE bs) j) (qM (kE bs) j), D.sl (kJ (kY (kE bs) j)) (ka0 (kY (kE bs) j)), dl (qS (kE bs) j) (qN (kE bs) j)], .no, .no] ((kO (j : Int)) ∧ (j < (ka0 (kE bs))) ∧ (List.take 4 (List.drop (j * 4) (kF (kE bs))) = [iD (qJ (kE bs) j), dl (qR (kE bs) j) (qM (kE bs) j), D.sl (kJ (kY (kE bs) j)) (ka0 (kY (kE bs) j)), dl (qS (kE bs) j) (qN (kE bs) j)]) ∧ (([iD (qJ (kE bs) j), dl (qR (kE bs) j) (qM (kE bs) j), D.sl (kJ (kY (kE bs) j)) (ka0 (kY (kE bs) j)), dl (qS (kE bs) j) (qN (kE bs) j)] : List D).length = 4)) [(3, rV 0 0), (4, rV 1 0), (6, rV 2 0), (7, bV true), (9, rV 5 0), (12, kI (kF (kE bs)) (ka0 (kE bs))), (13, uV (ka0 (kE bs))), (14, uV j)] [(0, some (27, (aS wk wr w wn wz))), (1, some (27, vK)), (2, some (27, (eZ yk yr u yz))), (5, some (59, .ds [iD (qJ (kE bs) j), dl (qR (kE bs) j) (qM (kE bs) j), D.sl (kJ (kY (kE bs) j)) (ka0 (kY (kE bs) j)), dl (qS (kE bs) j) (qN (kE bs) j)]))] 6 ⟨rfl, zo, (cN (by first | omega | (simp only [qC, qB, ka6, ka8, kb3, ka9, kb0] <;> omega))), rfl⟩ ?_
  have hx19 : (((0 : Int) ≤ (vS (qJ (kE bs) j) wk 7)) ∧ ((vS (qJ (kE bs) j) wk 7) ≤ 7)) := lQ (qJ (kE bs) j) wk 7
  have hx20 : (((0 : Int) ≤ (q8 wr (vX bs j))) ∧ ((q8 wr (vX bs j)) ≤ 2147483647)) := dD (yH)
  have hx21 : (((0 : Int) ≤ (q8 wz (vW bs j))) ∧ ((q8 wz (vW bs j)) ≤ 2147483647)) := dD (yH)
  have hx22 : ((ka0 (yM w bs j)) ≤ 1000000) := k0d ((vM (aK (qF : BsW bs)) _)) (ka0 (kY (kE bs) j))
  refine kL [.no, .no, .call [] (.e (.agg [iC (vS (qJ (kE bs) j) wk 7), iC (q8 wr (vX bs j)), .d (dl (yM w bs j) (ka0 (yM w bs j))), iC (q8 wz (vW bs j))])) [] 0 [] none, .no, .no] _ [(3, rV 0 0), (4, rV 1 0), (6, rV 2 0), (7, bV true), (10, rV 6 0), (12, kI (kF (kE bs)) (ka0 (kE bs))), (13, uV (ka0 (kE bs))), (14, uV j)] [(0, some (27, (aS wk wr w wn wz))), (1, some (27, vK)), (2, some (27, (eZ yk yr u yz))), (6, some (27, (k3x bs j wk wr w wz)))] 7 (k7v (qJ (kE bs) j) (qR (kE bs) j) (qM (kE bs) j) (kY (kE bs) j) (ka0 (kY (kE bs) j)) (qS (kE bs) j) (qN (kE bs) j) wk wr w wn wz yH yH rfl yH yH yH yH (vM (aK (qF : BsW bs)) _) zo zo zo zo) ?_
  by_cases hx24 : ((vO wk wr wz (vS (qJ (kE bs) j) wk 7) (q8 wr (vX bs j)) (q8 wz (vW bs j)) yk yr yz w (yM w bs j) u) < 0)
  ·have hx25 : ((((-1) : Int) ≤ (vO wk wr wz (vS (qJ (kE bs) j) wk 7) (q8 wr (vX bs j)) (q8 wz (vW bs j)) yk yr yz w (yM w bs j) u)) ∧ ((vO wk wr wz (vS (qJ (kE bs) j) wk 7) (q8 wr (vX bs j)) (q8 wz (vW bs j)) yk yr yz w (yM w bs j) u) ≤ 1)) := aE ..
   refine kP (qA 6 [.call [] (iV (vO wk wr wz (vS (qJ (kE bs) j) wk 7) (q8 wr (vX bs j)) (q8 wz (vW bs j)) yk yr yz w (yM w bs j) u)) [] 0 [] none, .b true, .no]) ((_) ∧ (((vO wk wr wz (vS (qJ (kE bs) j) wk 7) (q8 wr (vX bs j)) (q8 wz (vW bs j)) yk yr yz w (yM w bs j) u) < 0))) [(3, rV 0 0), (4, rV 1 0), (6, rV 2 0), (7, bV true), (10, rV 6 0), (12, kI (kF (kE bs)) (ka0 (kE bs))), (13, uV (ka0 (kE bs))), (14, uV j), (29, bV true)] ⟨(bC wk wr wz (vS (qJ (kE bs) j) wk 7) (q8 wr (vX bs j)) (q8 wz (vW bs j)) yk yr yz w (yM w bs j) u wn (ka0 (yM w bs j)) (ka0 u) zo rfl rfl zo yH zo zo yH zo zo yH zo), zo⟩ ?_
   refine zt ?_
   refine a5 [.no, .no, .no] True [(3, rV 0 0), (4, rV 1 0), (6, rV 2 0), (7, bV true), (12, kI (kF (kE bs)) (ka0 (kE bs))), (13, uV (ka0 (kE bs))), (14, uV j)] [(0, some (27, (aS wk wr w wn wz))), (1, some (27, vK)), (2, some (27, (k3x bs j wk wr w wz)))] 7 trivial ?_
   refine uS [.w, .no] ((-9223372036854775808) ≤ ((j : Int) + 1) ∧ ((j : Int) + 1) ≤ 9223372036854775807) [(3, rV 0 0), (4, rV 1 0), (6, rV 2 0), (7, bV true), (12, kI (kF (kE bs)) (ka0 (kE bs))), (13, uV (ka0 (kE bs))), (14, iV (↑j + 1))] ⟨by omega, by omega⟩ ?_
   exact kW ⟨(((j + 1) : Nat), ((vS (qJ (kE bs) j) wk 7) : Int), ((q8 wr (vX bs j)) : Int), ((yM w bs j) : List Int), ((q8 wz (vW bs j)) : Int)), ⟨(by first | omega | assumption | simp), (by first | exact BE.y hE rfl rfl rfl rfl zo | exact BE.n hE zo zo), (by first | omega | assumption)⟩⟩ [] (P := (kH 0) ∧ (kH 0) ∧ (kH 0) ∧ (true = true) ∧ (kM (kF (kE bs))) ∧ (kH (ka0 (kE bs))) ∧ (kO (ka0 (kE bs) : Int)) ∧ (((((j + 1) : Nat) : Int) : Int) = ((j : Int) + 1)) ∧ (kM [iD wk, iD wr, dl w wn, iD wz]) ∧ (kM [iD 0, iD 0, k9, iD 0]) ∧ (kM [iD (vS (qJ (kE bs) j) wk 7), iD (q8 wr (vX bs j)), dl (yM w bs j) (ka0 (yM w bs j)), iD (q8 wz (vW bs j))])) zk ⟨rfl, rfl, rfl, (by first | rfl | assumption | simp), rfl, rfl, rfl, (by first | rfl | omega | assumption | (simp; done) | (simp; omega)), rfl, rfl, rfl⟩ (show ka0 (kE bs) - (j + 1) < ka0 (kE bs) - j from (by first | omega | (show _ < _; simp; omega)))
  ·have hx26 : ((((-1) : Int) ≤ (vO wk wr wz (vS (qJ (kE bs) j) wk 7) (q8 wr (vX bs j)) (q8 wz (vW bs j)) yk yr yz w (yM w bs j) u)) ∧ ((vO wk wr wz (vS (qJ (kE bs) j) wk 7) (q8 wr (vX bs j)) (q8 wz (vW bs j)) yk yr yz w (yM w bs j) u) ≤ 1)) := aE ..
   refine kP (qA 6 [.call [] (iV (vO wk wr wz (vS (qJ (kE bs) j) wk 7) (q8 wr (vX bs j)) (q8 wz (vW bs j)) yk yr yz w (yM w bs j) u)) [] 0 [] none, .b false, .no]) ((_) ∧ (¬ ((vO wk wr wz (vS (qJ (kE bs) j) wk 7) (q8 wr (vX bs j)) (q8 wz (vW bs j)) yk yr yz w (yM w bs j) u) < 0))) [(3, rV 0 0), (4, rV 1 0), (6, rV 2 0), (7, bV true), (10, rV 6 0), (12, kI (kF (kE bs)) (ka0 (kE bs))), (13, uV (ka0 (kE bs))), (14, uV j), (29, bV false)] ⟨(bC wk wr wz (vS (qJ (kE bs) j) wk 7) (q8 wr (vX bs j)) (q8 wz (vW bs j)) yk yr yz w (yM w bs j) u wn (ka0 (yM w bs j)) (ka0 u) zo rfl rfl zo yH zo zo yH zo zo yH zo), zo⟩ ?_
   refine uB ?_
   refine a5 [.w, .no] ((-9223372036854775808) ≤ ((j : Int) + 1) ∧ ((j : Int) + 1) ≤ 9223372036854775807) [(3, rV 0 0), (4, rV 1 0), (6, rV 2 0), (7, bV true), (12, kI (kF (kE bs)) (ka0 (kE bs))), (13, uV (ka0 (kE bs))), (14, iV (↑j + 1))] [(0, some (27, (aS wk wr w wn wz))), (1, some (27, vK)), (2, some (27, (eZ yk yr u yz)))] 7 ⟨by omega, by omega⟩ ?_
   exact kW ⟨(((j + 1) : Nat), (yk : Int), (yr : Int), (u : List Int), (yz : Int)), ⟨(by first | omega | assumption | simp), (by first | exact BE.y hE rfl rfl rfl rfl zo | exact BE.n hE zo zo), (by first | omega | assumption)⟩⟩ [] (P := (kH 0) ∧ (kH 0) ∧ (kH 0) ∧ (true = true) ∧ (kM (kF (kE bs))) ∧ (kH (ka0 (kE bs))) ∧ (kO (ka0 (kE bs) : Int)) ∧ (((((j + 1) : Nat) : Int) : Int) = ((j : Int) + 1)) ∧ (kM [iD wk, iD wr, dl w wn, iD wz]) ∧ (kM [iD 0, iD 0, k9, iD 0]) ∧ (kM [iD yk, iD yr, dl u (ka0 u), iD yz])) zk ⟨rfl, rfl, rfl, (by first | rfl | assumption | simp), rfl, rfl, rfl, (by first | rfl | omega | assumption | (simp; done) | (simp; omega)), rfl, rfl, rfl⟩ (show ka0 (kE bs) - (j + 1) < ka0 (kE bs) - j from (by first | omega | (show _ < _; simp; omega)))
 ·refine kL [.b false] (¬ ((j : Int) < (ka0 (kE bs) : Int))) [(3, rV 0 0), (4, rV 1 0), (6, rV 2 0), (7, bV true), (12, kI (kF (kE bs)) (ka0 (kE bs))), (13, uV (ka0 (kE bs))), (14, uV j), (15, bV false)] [(0, some (27, (aS wk wr w wn wz))), (1, some (27, vK)), (2, some (27, (eZ yk yr u yz)))] 5 zo ?_
  refine AW.seq ?_
  refine zf ?_
  refine AW.exit ?_
  refine kL (qA 4 []) True [(4, rV 1 0), (5, bV true)] [(1, some (27, (eZ yk yr u yz)))] 5 trivial ?_
  obtain ⟨hz1, hz2, hz3, hz4⟩ := hE.fin zo
  refine AW.ret ?_
  exact kD (.inr rfl) [] (P := (((vE bs wk wr w wz) : Int) = yk) ∧ (((y8 bs wk wr w wz) : Int) = yr) ∧ (((dI .i64 (u1 bs wk wr w wz)) : List D) = (dI .i64 u)) ∧ (((ka0 (u1 bs wk wr w wz)) : Nat) = (ka0 u)) ∧ (((vD bs wk wr w wz) : Int) = yz) ∧ (true = true)) zk ⟨(by first | rfl | exact hz1 | exact hz2 | exact hz4 | rw [hz3] | omega), (by first | rfl | exact hz1 | exact hz2 | exact hz4 | rw [hz3] | omega), (by first | rfl | rw [hz3]), (by first | rfl | exact hz1 | exact hz2 | exact hz4 | rw [hz3] | omega), (by first | rfl | exact hz1 | exact hz2 | exact hz4 | rw [hz3] | omega), rfl⟩
abbrev lD : BC := .ds [iD 0, iD 0, D.lit (.slice none 0 0), iD 0]
theorem jO (bs : List Bx) (n : Nat) (wk wr : Int) (w : List Int) (wn : Nat) (wz : Int) (hn : ka0 bs = n) (h1 : n ≤ 1000000) (hW : BsW bs) (hw : ka0 w = wn) (h5 : wn ≤ 1000000) (hwr : -9223372036854775808 ≤ wr ∧ wr ≤ 9223372036854775807) (hwz : -9223372036854775808 ≤ wz ∧ wz ≤ 9223372036854775807) (h9 : ka0 (kE bs) = 0) : Fun 27 [.c (.d (D.sl (kF bs) n)), .agg [iC wk, iC wr, .d (D.sl (dI .i64 w) wn), iC wz]] (kK []) 0 (.tup [.agg [iC 0, iC 0, .d (D.lit (.slice none 0 0)), iC 0], .c (.d (D.lit (.bool false)))]) (kK []) 0 := by
 refine Fun.mk (n := 34) Tryz.func27 rfl rfl (Nat.le_of_ble_eq_true rfl) ?_
 intro cx hcx
 refine kL [.no, .no, .no] True [(0, kI (kF bs) n), (3, rV 0 0), (4, rV 1 0)] [(0, some (27, .ds [iD wk, iD wr, dl w wn, iD wz])), (1, some (27, lD))] 2 trivial ?_
 refine kL [.no] True [(0, kI (kF bs) n), (3, rV 0 0), (4, rV 1 0), (6, rV 2 0)] [(0, some (27, .ds [iD wk, iD wr, dl w wn, iD wz])), (1, some (27, lD)), (2, some (27, lD))] 3 trivial ?_
 refine kP [.no] True [(0, kI (kF bs) n), (3, rV 0 0), (4, rV 1 0), (6, rV 2 0), (7, bV false)] trivial ?_
 refine AW.seq ?_
 have hx1 : ((ka0 (kE bs)) ≤ n) := (by have h9 := eG bs; omega)
 refine kP [.no, .call [] (kI (kF (kE bs)) (ka0 (kE bs))) [] 0 [] none, .no, .no] _ [(3, rV 0 0), (4, rV 1 0), (6, rV 2 0), (7, bV false), (12, kI (kF (kE bs)) (ka0 (kE bs))), (13, uV (ka0 (kE bs))), (14, iV 0)] (tD bs n zo zo (qF : BsW bs)) ?_
 refine AW.block ?_
 refine AW.rounds 1 ?_
 refine AWr.s ?_
 refine kL [.b false] (¬ ((0 : Int) < (ka0 (kE bs) : Int))) [(3, rV 0 0), (4, rV 1 0), (6, rV 2 0), (7, bV false), (12, kI (kF (kE bs)) (ka0 (kE bs))), (13, uV (ka0 (kE bs))), (14, iV 0), (15, bV false)] [(0, some (27, .ds [iD wk, iD wr, dl w wn, iD wz])), (1, some (27, lD)), (2, some (27, lD))] 3 zo ?_
 refine AW.seq ?_
 refine zf ?_
 refine AW.exit ?_
 refine kL (qA 4 []) True [(4, rV 1 0), (5, bV false)] [(1, some (27, lD))] 3 trivial ?_
 refine AW.ret ?_
 exact kD (.inr rfl) [] (P := (kO 0) ∧ (kO 0) ∧ ((.slice none 0 0 : Value) = .slice none 0 0) ∧ (kO 0) ∧ (false = false)) zk ⟨rfl, rfl, rfl, rfl, rfl⟩
end Go.Proofs.YtcfmjpnffembpaaGreat
