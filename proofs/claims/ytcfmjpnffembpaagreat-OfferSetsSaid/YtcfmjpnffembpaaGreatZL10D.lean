/- The best choice of a list. No statement is proved here. -/
import Derived.Test.YtcfmjpnffembpaaGreatZL10C
namespace Go.Proofs.YtcfmjpnffembpaaGreat
open Go.ChangeShapes Go.WideShapes Go.ChangeAt Go.RowKit
open List renaming length → ka0
set_option linter.unusedVariables false
set_option linter.unusedSimpArgs false
set_option maxHeartbeats 4000000
set_option maxRecDepth 100000
def bxC (b : Bx) (w : Co) : Co := ⟨vR b.k w.k 7, uF w.r (kB b.r b.rn), dC w.m b.m b.m.length, uF w.s (kB b.s b.sn)⟩
def beC (bs : List Bx) (w : Co) : Nat → Co
 | 0 => ⟨0, 0, [], 0⟩
 | j + 1 => if j = 0 ∨ coV w (bxC (gL bs j) w) (beC bs w j) < 0 then bxC (gL bs j) w else beC bs w j
def BE (bs : List Bx) (wk wr : Int) (w : List Int) (wz : Int) (i : Nat) (yk yr : Int) (u : List Int) (yz : Int) : Prop := beC bs ⟨wk, wr, w, wz⟩ i = ⟨yk, yr, u, yz⟩
theorem BE.first {bs : List Bx} {wk wr : Int} {w : List Int} {wz : Int} {yk yr : Int} {u : List Int} {yz : Int} (h1 : yk = vR (k9 bs 0) wk 7) (h2 : yr = uF wr (kB (qF bs 0) (qB bs 0))) (h3 : u = dC w (kY bs 0) (ka0 (kY bs 0))) (h4 : yz = uF wz (kB (qG bs 0) (qC bs 0))) : BE bs wk wr w wz 1 yk yr u yz := by
 subst h1; subst h2; subst h3; subst h4
 exact if_pos (.inl rfl)
theorem BE.y {bs : List Bx} {wk wr : Int} {w : List Int} {wz : Int} {j : Nat} {yk yr : Int} {u : List Int} {yz xk xr : Int} {x : List Int} {xz : Int} (h : BE bs wk wr w wz j yk yr u yz) (h1 : xk = vR (k9 bs j) wk 7) (h2 : xr = uF wr (kB (qF bs j) (qB bs j))) (h3 : x = dC w (kY bs j) (ka0 (kY bs j))) (h4 : xz = uF wz (kB (qG bs j) (qC bs j))) (hc : fX wk wr wz xk xr xz yk yr yz w x u < 0) : BE bs wk wr w wz (j + 1) xk xr x xz := by
 subst h1; subst h2; subst h3; subst h4
 have h : beC bs ⟨wk, wr, w, wz⟩ j = ⟨yk, yr, u, yz⟩ := h
 exact if_pos (.inr (by rw [h]; exact hc))
theorem BE.n {bs : List Bx} {wk wr : Int} {w : List Int} {wz : Int} {j : Nat} {yk yr : Int} {u : List Int} {yz : Int} (h : BE bs wk wr w wz j yk yr u yz) (h0 : ¬ j = 0) (hc : ¬ fX wk wr wz (vR (k9 bs j) wk 7) (uF wr (kB (qF bs j) (qB bs j))) (uF wz (kB (qG bs j) (qC bs j))) yk yr yz w (dC w (kY bs j) (ka0 (kY bs j))) u < 0) : BE bs wk wr w wz (j + 1) yk yr u yz := by
 have h' : beC bs ⟨wk, wr, w, wz⟩ j = ⟨yk, yr, u, yz⟩ := h
 show beC bs ⟨wk, wr, w, wz⟩ (j + 1) = _
 rw [beC, if_neg fun e => e.elim h0 fun e1 => hc (by rw [h'] at e1; exact e1)]
 exact h'
def beL (bs : List Bx) (wk wr : Int) (w : List Int) (wz : Int) : Co := beC (kH bs) ⟨wk, wr, w, wz⟩ (ka0 (kH bs))
def xI (bs : List Bx) (wk wr : Int) (w : List Int) (wz : Int) : Int := (beL bs wk wr w wz).k
def tC (bs : List Bx) (wk wr : Int) (w : List Int) (wz : Int) : Int := (beL bs wk wr w wz).r
def nO (bs : List Bx) (wk wr : Int) (w : List Int) (wz : Int) : List Int := (beL bs wk wr w wz).m
def xH (bs : List Bx) (wk wr : Int) (w : List Int) (wz : Int) : Int := (beL bs wk wr w wz).s
theorem BE.fin {bs : List Bx} {wk wr : Int} {w : List Int} {wz : Int} {j : Nat} {yk yr : Int} {u : List Int} {yz : Int} (h : BE (kH bs) wk wr w wz j yk yr u yz) (hj : j = ka0 (kH bs)) : xI bs wk wr w wz = yk ∧ tC bs wk wr w wz = yr ∧ nO bs wk wr w wz = u ∧ xH bs wk wr w wz = yz := by
 subst hj
 have h' : beL bs wk wr w wz = ⟨yk, yr, u, yz⟩ := h
 unfold xI tC nO xH; rw [h']; exact ⟨rfl, rfl, rfl, rfl⟩
def CoW (c : Co) : Prop := (0 ≤ c.k ∧ c.k ≤ 7) ∧ (0 ≤ c.r ∧ c.r ≤ 2147483647) ∧ (0 ≤ c.s ∧ c.s ≤ 2147483647) ∧ ka0 c.m ≤ 1000000
theorem u69 {b : Bx} (h : BxW b) (w : Co) : CoW (bxC b w) := ⟨jX _ _ _, c7 h.1, c7 h.2.1, z4 h.2.2.2.2.2 _⟩
theorem u0r {bs : List Bx} (h : BsW bs) (w : Co) : ∀ j, CoW (beC bs w j)
 | 0 => ⟨⟨Int.le_refl 0, (by decide : (0 : Int) ≤ 7)⟩, ⟨Int.le_refl 0, (by decide : (0 : Int) ≤ 2147483647)⟩, ⟨Int.le_refl 0, (by decide : (0 : Int) ≤ 2147483647)⟩, Nat.zero_le _⟩
 | j + 1 => by
  rw [beC]; split
  ·exact u69 (h.get j) w
  ·exact u0r h w j
theorem wQ {bs : List Bx} (h : BsW bs) (wk wr : Int) (w : List Int) (wz : Int) : (0 ≤ xI bs wk wr w wz ∧ xI bs wk wr w wz ≤ 7) ∧ (0 ≤ tC bs wk wr w wz ∧ tC bs wk wr w wz ≤ 2147483647) ∧ (0 ≤ xH bs wk wr w wz ∧ xH bs wk wr w wz ≤ 2147483647) ∧ ka0 (nO bs wk wr w wz) ≤ 1000000 := u0r (aB h) _ _
abbrev yS (w : List Int) (bs : List Bx) (j : Nat) := dC w (kY (kH bs) j) (ka0 (kY (kH bs) j))
abbrev eV (w : List Int) (bs : List Bx) := dC w (kY (kH bs) 0) (ka0 (kY (kH bs) 0))
abbrev vW (bs : List Bx) (j : Nat) := kB (qF (kH bs) j) (qB (kH bs) j)
abbrev vV (bs : List Bx) (j : Nat) := kB (qG (kH bs) j) (qC (kH bs) j)
abbrev jK (bs : List Bx) := kB (qF (kH bs) 0) (qB (kH bs) 0)
abbrev jJ (bs : List Bx) := kB (qG (kH bs) 0) (qC (kH bs) 0)
abbrev vM : BC := .ds [iD 0, iD 0, D.lit (.slice none 0 0), iD 0]
abbrev k38 (bs : List Bx) (j : Nat) (wk : Int) (wr : Int) (w : List Int) (wz : Int) : BC := .ds [iD (vR (k9 (kH bs) j) wk 7), iD (uF wr (vW bs j)), D.sl (dI .i64 (yS w bs j)) (ka0 (yS w bs j)), iD (uF wz (vV bs j))]
abbrev aX (wk : Int) (wr : Int) (w : List Int) (wn : Nat) (wz : Int) : BC := .ds [iD wk, iD wr, D.sl (dI .i64 w) wn, iD wz]
abbrev eU (yk : Int) (yr : Int) (u : List Int) (yz : Int) : BC := .ds [iD yk, iD yr, D.sl (dI .i64 u) (ka0 u), iD yz]
abbrev k05 (bs : List Bx) (wk : Int) (wr : Int) (w : List Int) (wz : Int) : BC := .ds [iD (vR (k9 (kH bs) 0) wk 7), iD (uF wr (jK bs)), D.sl (dI .i64 (eV w bs)) (ka0 (eV w bs)), iD (uF wz (jJ bs))]
theorem k9n (bs : List Bx) (n : Nat) (wk wr : Int) (w : List Int) (wn : Nat) (wz : Int) (hn : ka0 bs = n) (h1 : n ≤ 1000000) (hW : BsW bs) (hw : ka0 w = wn) (h5 : wn ≤ 1000000) (hwr : -9223372036854775808 ≤ wr ∧ wr ≤ 9223372036854775807) (hwz : -9223372036854775808 ≤ wz ∧ wz ≤ 9223372036854775807) (h9 : 1 ≤ ka0 (kH bs)) : Fun 27 [.c (.d (D.sl (kP bs) n)), .agg [iC wk, iC wr, .d (D.sl (dI .i64 w) wn), iC wz]] (kE []) 0 (.tup [.agg [iC (xI bs wk wr w wz), iC (tC bs wk wr w wz), .d (D.sl (dI .i64 (nO bs wk wr w wz)) (ka0 (nO bs wk wr w wz))), iC (xH bs wk wr w wz)], .c (.d (D.lit (.bool true)))]) (kE []) 0 := by
 refine Fun.mk (n := 34) Tryz.func27 rfl rfl (Nat.le_of_ble_eq_true rfl) ?_
 intro cx hcx
 refine kI [.no, .no, .no] True [(0, .e (kQ bs n)), (3, rV 0 0), (4, rV 1 0)] [(0, some (27, (aX wk wr w wn wz))), (1, some (27, vM))] 2 trivial ?_
 refine kI [.no] True [(0, .e (kQ bs n)), (3, rV 0 0), (4, rV 1 0), (6, rV 2 0)] [(0, some (27, (aX wk wr w wn wz))), (1, some (27, vM)), (2, some (27, vM))] 3 trivial ?_
 refine kN [.no] True [(0, .e (kQ bs n)), (3, rV 0 0), (4, rV 1 0), (6, rV 2 0), (7, bV false)] trivial ?_
 refine AW.seq ?_
 have hx1 : ((ka0 (kH bs)) ≤ n) := (by have h9 := c9 bs; omega)
 refine kN [.no, .call [] (.e (qW (kH bs))) [] 0 [] none, .no, .no] _ [(3, rV 0 0), (4, rV 1 0), (6, rV 2 0), (7, bV false), (12, .e (qW (kH bs))), (13, uV (ka0 (kH bs))), (14, iV 0)] (sW bs n zo zo (kZ : BsW bs)) ?_
 refine AW.block ?_
 refine sZ 1 ?_
 refine AWp.s ?_
 refine kI [.b true] (((0 : Int) < (ka0 (kH bs) : Int))) [(3, rV 0 0), (4, rV 1 0), (6, rV 2 0), (7, bV false), (12, .e (qW (kH bs))), (13, uV (ka0 (kH bs))), (14, iV 0), (15, bV true)] [(0, some (27, (aX wk wr w wn wz))), (1, some (27, vM)), (2, some (27, vM))] 3 zo ?_
 refine AW.seq ?_
 refine yW ?_
 refine AW.seq ?_
 refine AW.block ?_
 obtain ⟨hx2, hx3, hx4, hx5, hx6⟩ := BsW.at (aB (kZ : BsW bs)) (0)
 have hx7 : ((1 : Nat) ≤ (ka0 (kY (kH bs) 0))) := g6 zo
 refine kI [.n 0, .ds [iD (k9 (kH bs) 0), dl (qF (kH bs) 0) (qB (kH bs) 0), D.sl (kL (kY (kH bs) 0)) (ka0 (kY (kH bs) 0)), dl (qG (kH bs) 0) (qC (kH bs) 0)], .no, .no] ((kM 0) ∧ ((0 : Nat) < (ka0 (kH bs))) ∧ (List.take 4 (List.drop 0 (kP (kH bs))) = [iD (k9 (kH bs) 0), dl (qF (kH bs) 0) (qB (kH bs) 0), D.sl (kL (kY (kH bs) 0)) (ka0 (kY (kH bs) 0)), dl (qG (kH bs) 0) (qC (kH bs) 0)]) ∧ (([iD (k9 (kH bs) 0), dl (qF (kH bs) 0) (qB (kH bs) 0), D.sl (kL (kY (kH bs) 0)) (ka0 (kY (kH bs) 0)), dl (qG (kH bs) 0) (qC (kH bs) 0)] : List D).length = 4)) [(3, rV 0 0), (4, rV 1 0), (6, rV 2 0), (7, bV false), (9, rV 3 0), (12, .e (qW (kH bs))), (13, uV (ka0 (kH bs))), (14, iV 0)] [(0, some (27, (aX wk wr w wn wz))), (1, some (27, vM)), (2, some (27, vM)), (3, some (59, .ds [iD (k9 (kH bs) 0), dl (qF (kH bs) 0) (qB (kH bs) 0), D.sl (kL (kY (kH bs) 0)) (ka0 (kY (kH bs) 0)), dl (qG (kH bs) 0) (qC (kH bs) 0)]))] 4 ⟨rfl, zo, (yF (i := 0) zo), rfl⟩ ?_
 have hx8 : (((0 : Int) ≤ (vR (k9 (kH bs) 0) wk 7)) ∧ ((vR (k9 (kH bs) 0) wk 7) ≤ 7)) := jX (k9 (kH bs) 0) wk 7
 have hx9 : (((0 : Int) ≤ (uF wr (jK bs))) ∧ ((uF wr (jK bs)) ≤ 2147483647)) := c7 (zo)
 have hx10 : (((0 : Int) ≤ (uF wz (jJ bs))) ∧ ((uF wz (jJ bs)) ≤ 2147483647)) := c7 (zo)
 have hx11 : ((ka0 (eV w bs)) ≤ 1000000) := z4 ((BsW.ms (aB (kZ : BsW bs)) _)) (ka0 (kY (kH bs) 0))
 refine kI [.no, .no, .call [] (.e (.agg [iC (vR (k9 (kH bs) 0) wk 7), iC (uF wr (jK bs)), .d (dl (eV w bs) (ka0 (eV w bs))), iC (uF wz (jJ bs))])) [] 0 [] none, .no, .no] _ [(3, rV 0 0), (4, rV 1 0), (6, rV 2 0), (7, bV false), (10, rV 4 0), (12, .e (qW (kH bs))), (13, uV (ka0 (kH bs))), (14, iV 0)] [(0, some (27, (aX wk wr w wn wz))), (1, some (27, vM)), (2, some (27, vM)), (4, some (27, (k05 bs wk wr w wz)))] 5 (k7g (k9 (kH bs) 0) (qF (kH bs) 0) (qB (kH bs) 0) (kY (kH bs) 0) (ka0 (kY (kH bs) 0)) (qG (kH bs) 0) (qC (kH bs) 0) wk wr w wn wz zo zo rfl zo zo zo zo (BsW.ms (aB (kZ : BsW bs)) _) zo zo zo zo) ?_
 refine kN (kT 4 []) True [(3, rV 0 0), (4, rV 1 0), (6, rV 2 0), (7, bV false), (10, rV 4 0), (12, .e (qW (kH bs))), (13, uV (ka0 (kH bs))), (14, iV 0), (29, bV true)] trivial ?_
 refine zt ?_
 refine aD [.no, .no, .no] True [(3, rV 0 0), (4, rV 1 0), (6, rV 2 0), (7, bV true), (12, .e (qW (kH bs))), (13, uV (ka0 (kH bs))), (14, iV 0)] [(0, some (27, (aX wk wr w wn wz))), (1, some (27, vM)), (2, some (27, (k05 bs wk wr w wz)))] 5 trivial ?_
 refine uJ [.w, .no] (uZ (1 : Int)) [(3, rV 0 0), (4, rV 1 0), (6, rV 2 0), (7, bV true), (12, .e (qW (kH bs))), (13, uV (ka0 (kH bs))), (14, iV 1)] ⟨by omega, by omega⟩ ?_
 refine AWp.z ?_
 refine kU 0 hcx (fun (x : {x : Nat × Int × Int × List Int × Int // match x with | (j, yk, yr, u, yz) => (1 ≤ j ∧ j ≤ ka0 (kH bs)) ∧ (BE (kH bs) wk wr w wz j yk yr u yz) ∧ ((0 ≤ yk ∧ yk ≤ 7) ∧ (0 ≤ yr ∧ yr ≤ 2147483647) ∧ (0 ≤ yz ∧ yz ≤ 2147483647) ∧ ka0 u ≤ 1000000)}) => match x with | ⟨(j, yk, yr, u, yz), _⟩ => (⟨[(3, rV 0 0), (4, rV 1 0), (6, rV 2 0), (7, bV true), (12, .e (qW (kH bs))), (13, uV (ka0 (kH bs))), (14, uV j)], [(0, some (27, (aX wk wr w wn wz))), (1, some (27, vM)), (2, some (27, (eU yk yr u yz)))], 5⟩ : ES)) (fun x => match x with | ⟨(j, yk, yr, u, yz), _⟩ => ka0 (kH bs) - j) ⟨((1 : Nat), ((vR (k9 (kH bs) 0) wk 7) : Int), ((uF wr (jK bs)) : Int), ((eV w bs) : List Int), ((uF wz (jJ bs)) : Int)), ⟨zo, (BE.first rfl rfl rfl rfl), zo⟩⟩ [] (P := (kG 0) ∧ (kG 0) ∧ (kG 0) ∧ (true = true) ∧ (kJ (kP (kH bs))) ∧ (kG (ka0 (kH bs))) ∧ (kM (ka0 (kH bs) : Int)) ∧ (kM 1) ∧ (kJ [iD wk, iD wr, dl w wn, iD wz]) ∧ (kJ [iD 0, iD 0, qR, iD 0]) ∧ (kJ [iD (vR (k9 (kH bs) 0) wk 7), iD (uF wr (jK bs)), dl (eV w bs) (ka0 (eV w bs)), iD (uF wz (jJ bs))])) zk ⟨rfl, rfl, rfl, (by rfl), rfl, rfl, rfl, rfl, rfl, rfl, rfl⟩ ?_
 rintro ⟨⟨j, yk, yr, u, yz⟩, hinv0⟩
 obtain ⟨hj, hE, hy⟩ : (1 ≤ j ∧ j ≤ ka0 (kH bs)) ∧ (BE (kH bs) wk wr w wz j yk yr u yz) ∧ ((0 ≤ yk ∧ yk ≤ 7) ∧ (0 ≤ yr ∧ yr ≤ 2147483647) ∧ (0 ≤ yz ∧ yz ≤ 2147483647) ∧ ka0 u ≤ 1000000) := hinv0
 refine qN (l := [(3, rV 0 0), (4, rV 1 0), (6, rV 2 0), (7, bV true), (12, .e (qW (kH bs))), (13, uV (ka0 (kH bs))), (14, uV j)]) (g := [(0, some (27, (aX wk wr w wn wz))), (1, some (27, vM)), (2, some (27, (eU yk yr u yz)))]) (nx := 5) rfl rfl rfl ?_
 by_cases hx12 : (((j : Nat) : Int) < (((ka0 (kH bs)) : Nat) : Int))
 ·refine kI [.b true] (((j : Int) < (ka0 (kH bs) : Int))) [(3, rV 0 0), (4, rV 1 0), (6, rV 2 0), (7, bV true), (12, .e (qW (kH bs))), (13, uV (ka0 (kH bs))), (14, uV j), (15, bV true)] [(0, some (27, (aX wk wr w wn wz))), (1, some (27, vM)), (2, some (27, (eU yk yr u yz)))] 5 zo ?_
  refine AW.seq ?_
  refine yW ?_
  refine AW.seq ?_
  refine AW.block ?_
  obtain ⟨hx13, hx14, hx15, hx16, hx17⟩ := BsW.at (aB (kZ : BsW bs)) (j)
  have hx18 : ((1 : Nat) ≤ (ka0 (kY (kH bs) j))) := g6 zo
  refine kI [.n j, .ds (uY (kH bs) j), .no, .no] ((kM (j : Int)) ∧ (j < (ka0 (kH bs))) ∧ (List.take 4 (List.drop (j * 4) (kP (kH bs))) = (uY (kH bs) j)) ∧ (((uY (kH bs) j) : List D).length = 4)) [(3, rV 0 0), (4, rV 1 0), (6, rV 2 0), (7, bV true), (9, rV 5 0), (12, .e (qW (kH bs))), (13, uV (ka0 (kH bs))), (14, uV j)] [(0, some (27, (aX wk wr w wn wz))), (1, some (27, vM)), (2, some (27, (eU yk yr u yz))), (5, some (59, .ds (uY (kH bs) j)))] 6 ⟨rfl, zo, (yF zo), rfl⟩ ?_
  have hx19 : (((0 : Int) ≤ (vR (k9 (kH bs) j) wk 7)) ∧ ((vR (k9 (kH bs) j) wk 7) ≤ 7)) := jX (k9 (kH bs) j) wk 7
  have hx20 : (((0 : Int) ≤ (uF wr (vW bs j))) ∧ ((uF wr (vW bs j)) ≤ 2147483647)) := c7 (zo)
  have hx21 : (((0 : Int) ≤ (uF wz (vV bs j))) ∧ ((uF wz (vV bs j)) ≤ 2147483647)) := c7 (zo)
  have hx22 : ((ka0 (yS w bs j)) ≤ 1000000) := z4 ((BsW.ms (aB (kZ : BsW bs)) _)) (ka0 (kY (kH bs) j))
  refine kI [.no, .no, .call [] (.e (.agg [iC (vR (k9 (kH bs) j) wk 7), iC (uF wr (vW bs j)), .d (dl (yS w bs j) (ka0 (yS w bs j))), iC (uF wz (vV bs j))])) [] 0 [] none, .no, .no] _ [(3, rV 0 0), (4, rV 1 0), (6, rV 2 0), (7, bV true), (10, rV 6 0), (12, .e (qW (kH bs))), (13, uV (ka0 (kH bs))), (14, uV j)] [(0, some (27, (aX wk wr w wn wz))), (1, some (27, vM)), (2, some (27, (eU yk yr u yz))), (6, some (27, (k38 bs j wk wr w wz)))] 7 (k7g (k9 (kH bs) j) (qF (kH bs) j) (qB (kH bs) j) (kY (kH bs) j) (ka0 (kY (kH bs) j)) (qG (kH bs) j) (qC (kH bs) j) wk wr w wn wz zo zo rfl zo zo zo zo (BsW.ms (aB (kZ : BsW bs)) _) zo zo zo zo) ?_
  by_cases hx24 : ((fX wk wr wz (vR (k9 (kH bs) j) wk 7) (uF wr (vW bs j)) (uF wz (vV bs j)) yk yr yz w (yS w bs j) u) < 0)
  ·have hx25 : ((((-1) : Int) ≤ (fX wk wr wz (vR (k9 (kH bs) j) wk 7) (uF wr (vW bs j)) (uF wz (vV bs j)) yk yr yz w (yS w bs j) u)) ∧ ((fX wk wr wz (vR (k9 (kH bs) j) wk 7) (uF wr (vW bs j)) (uF wz (vV bs j)) yk yr yz w (yS w bs j) u) ≤ 1)) := lX ..
   refine kN (kT 6 [.call [] (iV (fX wk wr wz (vR (k9 (kH bs) j) wk 7) (uF wr (vW bs j)) (uF wz (vV bs j)) yk yr yz w (yS w bs j) u)) [] 0 [] none, .b true, .no]) ((_) ∧ (((fX wk wr wz (vR (k9 (kH bs) j) wk 7) (uF wr (vW bs j)) (uF wz (vV bs j)) yk yr yz w (yS w bs j) u) < 0))) [(3, rV 0 0), (4, rV 1 0), (6, rV 2 0), (7, bV true), (10, rV 6 0), (12, .e (qW (kH bs))), (13, uV (ka0 (kH bs))), (14, uV j), (29, bV true)] ⟨(nD wk wr wz (vR (k9 (kH bs) j) wk 7) (uF wr (vW bs j)) (uF wz (vV bs j)) yk yr yz w (yS w bs j) u wn (ka0 (yS w bs j)) (ka0 u) zo rfl rfl zo zo zo zo zo zo zo zo zo), zo⟩ ?_
   refine zt ?_
   refine aD [.no, .no, .no] True [(3, rV 0 0), (4, rV 1 0), (6, rV 2 0), (7, bV true), (12, .e (qW (kH bs))), (13, uV (ka0 (kH bs))), (14, uV j)] [(0, some (27, (aX wk wr w wn wz))), (1, some (27, vM)), (2, some (27, (k38 bs j wk wr w wz)))] 7 trivial ?_
   refine uJ [.w, .no] (uZ ((j : Int) + 1)) [(3, rV 0 0), (4, rV 1 0), (6, rV 2 0), (7, bV true), (12, .e (qW (kH bs))), (13, uV (ka0 (kH bs))), (14, iV (↑j + 1))] ⟨by omega, by omega⟩ ?_
   exact kX ⟨(((j + 1) : Nat), ((vR (k9 (kH bs) j) wk 7) : Int), ((uF wr (vW bs j)) : Int), ((yS w bs j) : List Int), ((uF wz (vV bs j)) : Int)), ⟨zo, (by exact BE.y hE rfl rfl rfl rfl zo), zo⟩⟩ [] (P := (kG 0) ∧ (kG 0) ∧ (kG 0) ∧ (true = true) ∧ (kJ (kP (kH bs))) ∧ (kG (ka0 (kH bs))) ∧ (kM (ka0 (kH bs) : Int)) ∧ (vX j) ∧ (kJ [iD wk, iD wr, dl w wn, iD wz]) ∧ (kJ [iD 0, iD 0, qR, iD 0]) ∧ (kJ [iD (vR (k9 (kH bs) j) wk 7), iD (uF wr (vW bs j)), dl (yS w bs j) (ka0 (yS w bs j)), iD (uF wz (vV bs j))])) zk ⟨rfl, rfl, rfl, (by rfl), rfl, rfl, rfl, (by rfl), rfl, rfl, rfl⟩ (show ka0 (kH bs) - (j + 1) < ka0 (kH bs) - j from zo)
  ·have hx26 : ((((-1) : Int) ≤ (fX wk wr wz (vR (k9 (kH bs) j) wk 7) (uF wr (vW bs j)) (uF wz (vV bs j)) yk yr yz w (yS w bs j) u)) ∧ ((fX wk wr wz (vR (k9 (kH bs) j) wk 7) (uF wr (vW bs j)) (uF wz (vV bs j)) yk yr yz w (yS w bs j) u) ≤ 1)) := lX ..
   refine kN (kT 6 [.call [] (iV (fX wk wr wz (vR (k9 (kH bs) j) wk 7) (uF wr (vW bs j)) (uF wz (vV bs j)) yk yr yz w (yS w bs j) u)) [] 0 [] none, .b false, .no]) ((_) ∧ (¬ ((fX wk wr wz (vR (k9 (kH bs) j) wk 7) (uF wr (vW bs j)) (uF wz (vV bs j)) yk yr yz w (yS w bs j) u) < 0))) [(3, rV 0 0), (4, rV 1 0), (6, rV 2 0), (7, bV true), (10, rV 6 0), (12, .e (qW (kH bs))), (13, uV (ka0 (kH bs))), (14, uV j), (29, bV false)] ⟨(nD wk wr wz (vR (k9 (kH bs) j) wk 7) (uF wr (vW bs j)) (uF wz (vV bs j)) yk yr yz w (yS w bs j) u wn (ka0 (yS w bs j)) (ka0 u) zo rfl rfl zo zo zo zo zo zo zo zo zo), zo⟩ ?_
   refine q8 ?_
   refine aD [.w, .no] (uZ ((j : Int) + 1)) [(3, rV 0 0), (4, rV 1 0), (6, rV 2 0), (7, bV true), (12, .e (qW (kH bs))), (13, uV (ka0 (kH bs))), (14, iV (↑j + 1))] [(0, some (27, (aX wk wr w wn wz))), (1, some (27, vM)), (2, some (27, (eU yk yr u yz)))] 7 ⟨by omega, by omega⟩ ?_
   exact kX ⟨(((j + 1) : Nat), (yk : Int), (yr : Int), (u : List Int), (yz : Int)), ⟨zo, (by exact BE.n hE zo zo), zo⟩⟩ [] (P := (kG 0) ∧ (kG 0) ∧ (kG 0) ∧ (true = true) ∧ (kJ (kP (kH bs))) ∧ (kG (ka0 (kH bs))) ∧ (kM (ka0 (kH bs) : Int)) ∧ (vX j) ∧ (kJ [iD wk, iD wr, dl w wn, iD wz]) ∧ (kJ [iD 0, iD 0, qR, iD 0]) ∧ (kJ [iD yk, iD yr, dl u (ka0 u), iD yz])) zk ⟨rfl, rfl, rfl, (by rfl), rfl, rfl, rfl, (by rfl), rfl, rfl, rfl⟩ (show ka0 (kH bs) - (j + 1) < ka0 (kH bs) - j from zo)
 ·refine kI [.b false] (¬ ((j : Int) < (ka0 (kH bs) : Int))) [(3, rV 0 0), (4, rV 1 0), (6, rV 2 0), (7, bV true), (12, .e (qW (kH bs))), (13, uV (ka0 (kH bs))), (14, uV j), (15, bV false)] [(0, some (27, (aX wk wr w wn wz))), (1, some (27, vM)), (2, some (27, (eU yk yr u yz)))] 5 zo ?_
  refine AW.seq ?_
  refine zf ?_
  refine AW.exit ?_
  refine kI (kT 4 []) True [(4, rV 1 0), (5, bV true)] [(1, some (27, (eU yk yr u yz)))] 5 trivial ?_
  obtain ⟨hz1, hz2, hz3, hz4⟩ := hE.fin zo
  refine AW.ret ?_
  exact kC (.inr rfl) [] (P := (((xI bs wk wr w wz) : Int) = yk) ∧ (((tC bs wk wr w wz) : Int) = yr) ∧ (((dI .i64 (nO bs wk wr w wz)) : List D) = (dI .i64 u)) ∧ (((ka0 (nO bs wk wr w wz)) : Nat) = (ka0 u)) ∧ (((xH bs wk wr w wz) : Int) = yz) ∧ (true = true)) zk ⟨(by exact hz1), (by exact hz2), (by rw [hz3]), (by rw [hz3]), (by exact hz4), rfl⟩
abbrev jI : BC := .ds [iD 0, iD 0, D.lit (.slice none 0 0), iD 0]
theorem k9o (bs : List Bx) (n : Nat) (wk wr : Int) (w : List Int) (wn : Nat) (wz : Int) (hn : ka0 bs = n) (h1 : n ≤ 1000000) (hW : BsW bs) (hw : ka0 w = wn) (h5 : wn ≤ 1000000) (hwr : -9223372036854775808 ≤ wr ∧ wr ≤ 9223372036854775807) (hwz : -9223372036854775808 ≤ wz ∧ wz ≤ 9223372036854775807) (h9 : ka0 (kH bs) = 0) : Fun 27 [.c (.d (D.sl (kP bs) n)), .agg [iC wk, iC wr, .d (D.sl (dI .i64 w) wn), iC wz]] (kE []) 0 (.tup [.agg [iC 0, iC 0, .d (D.lit (.slice none 0 0)), iC 0], .c (.d (D.lit (.bool false)))]) (kE []) 0 := by
 refine Fun.mk (n := 34) Tryz.func27 rfl rfl (Nat.le_of_ble_eq_true rfl) ?_
 intro cx hcx
 refine kI [.no, .no, .no] True [(0, .e (kQ bs n)), (3, rV 0 0), (4, rV 1 0)] [(0, some (27, .ds [iD wk, iD wr, dl w wn, iD wz])), (1, some (27, jI))] 2 trivial ?_
 refine kI [.no] True [(0, .e (kQ bs n)), (3, rV 0 0), (4, rV 1 0), (6, rV 2 0)] [(0, some (27, .ds [iD wk, iD wr, dl w wn, iD wz])), (1, some (27, jI)), (2, some (27, jI))] 3 trivial ?_
 refine kN [.no] True [(0, .e (kQ bs n)), (3, rV 0 0), (4, rV 1 0), (6, rV 2 0), (7, bV false)] trivial ?_
 refine AW.seq ?_
 have hx1 : ((ka0 (kH bs)) ≤ n) := (by have h9 := c9 bs; omega)
 refine kN [.no, .call [] (.e (qW (kH bs))) [] 0 [] none, .no, .no] _ [(3, rV 0 0), (4, rV 1 0), (6, rV 2 0), (7, bV false), (12, .e (qW (kH bs))), (13, uV (ka0 (kH bs))), (14, iV 0)] (sW bs n zo zo (kZ : BsW bs)) ?_
 refine AW.block ?_
 refine AW.rounds 1 ?_
 refine AWr.s ?_
 refine kI [.b false] (¬ ((0 : Int) < (ka0 (kH bs) : Int))) [(3, rV 0 0), (4, rV 1 0), (6, rV 2 0), (7, bV false), (12, .e (qW (kH bs))), (13, uV (ka0 (kH bs))), (14, iV 0), (15, bV false)] [(0, some (27, .ds [iD wk, iD wr, dl w wn, iD wz])), (1, some (27, jI)), (2, some (27, jI))] 3 zo ?_
 refine AW.seq ?_
 refine zf ?_
 refine AW.exit ?_
 refine kI (kT 4 []) True [(4, rV 1 0), (5, bV false)] [(1, some (27, jI))] 3 trivial ?_
 refine AW.ret ?_
 exact kC (.inr rfl) [] (P := (kM 0) ∧ (kM 0) ∧ ((.slice none 0 0 : Value) = .slice none 0 0) ∧ (kM 0) ∧ (false = false)) zk ⟨rfl, rfl, rfl, rfl, rfl⟩
end Go.Proofs.YtcfmjpnffembpaaGreat
