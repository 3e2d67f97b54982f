/- Descriptors out of dice. No statement is proved here. -/
import Derived.Test.YtdbjebdomdnbkaaZD11E
namespace Go.Proofs.Ytdbjebdomdnbkaa
open Go.ChangeShapes Go.WideShapes Go.ChangeAt Go.RowKit
open List renaming getD → ka0, getD_eq_getElem?_getD → ka8, length → ka1, length_append → ka3, length_cons → kb1, length_drop → kb2, length_map → kc3, length_nil → kb5, length_replicate → kb6, length_reverse → kc7, length_set → kc2, length_take → kb3
open Nat renaming le_of_ble_eq_true → ka4, le_refl → kc8
set_option linter.unusedVariables false
set_option linter.unusedSimpArgs false
/-! chapter 11: descriptors out of dice -/
set_option maxHeartbeats 4000000
set_option maxRecDepth 100000
theorem u09 : ∀ s : List Sp, mV s → R32 (fl s)
  | [], _ => sI
  | p :: r, h => fun x hx => by
    have h1 : jG p := h.1
    have h2 : p.1 = x ∨ p.2 = x ∨ x ∈ fl r := by
      rcases List.mem_cons.1 (show x ∈ p.1 :: p.2 :: fl r from hx) with e | e
      · exact .inl e.symm
      · rcases List.mem_cons.1 e with e | e
        · exact .inr (.inl e.symm)
        · exact .inr (.inr e)
    unfold jG at h1
    rcases h2 with h2 | h2 | h2
    · omega
    · omega
    · exact u09 r h.2.2 x h2
theorem k9t {l : List Int} {n : Nat} (hl : l.length = n * 2) (h : f6 l n = true) : R32 l ∧ n ≤ 64 := by
  obtain ⟨h1, h2⟩ := (zU hl).1 h
  exact ⟨by have := u09 _ h2; rwa [xV n l hl] at this, h1⟩
theorem u40 {ms : List (List Int)} (h : sQ ms = true) : RmW ms ∧ ka1 ms ≤ 16 ∧ ∀ x ∈ ms, ka1 x ≤ 8 := by
  obtain ⟨_, h2, h3⟩ := of_decide_eq_true h
  have h4 : ∀ x ∈ ms, f9 x x.length = true := fun x hx => by
    obtain ⟨i, hi, e⟩ := List.mem_iff_getElem.1 hx
    have h5 := h3 i hi
    unfold zT at h5
    rw [Bool.and_eq_true, ka8, List.getElem?_eq_getElem hi, Option.getD_some, e] at h5
    exact h5.1
  refine ⟨fun x hx => ?_, h2, fun x hx => (u0k (h4 x hx)).2⟩
  obtain ⟨c1, c2, _⟩ := (k94 rfl).1 (h4 x hx)
  exact ⟨fun y hy => by have := c2 y hy; omega, by omega⟩
theorem k9o {ms : List (List Int)} (h : ∀ x ∈ ms, ka1 x ≤ 8) : ∀ k, ka1 (bQ ms k) ≤ k * 18
  | 0 => kc8 _
  | k + 1 => by
    have h1 := k9o h k
    have h2 : ka1 (ka0 ms k []) ≤ 8 := by
      rw [ka8]
      cases e : ms[k]? with
      | none => exact Nat.zero_le _
      | some l => exact h l (List.mem_of_getElem? e)
    rw [bQ, ka3, pA]; omega
theorem u0l {b : Bx} (h : BxV b) : RbX b ∧ ka1 (wbX b) ≤ 1400 := by
  obtain ⟨h1, h2, h3⟩ := h
  obtain ⟨_, p2, p3, p4⟩ := mK h3
  obtain ⟨r1, r2⟩ := k9t h1.1 (zR p2).1
  obtain ⟨s1, s2⟩ := k9t h1.2.1 (zR p4).1
  obtain ⟨m1, m2, m3⟩ := u40 p3
  unfold KG at h2
  have h5 := k9o m3 b.m.length
  refine ⟨⟨by omega, r1, by omega, s1, by omega, by omega, m1⟩, ?_⟩
  unfold wbX bB
  rw [ka3, ka3, ka3, ka3, pbL_len, pbL_len, qB, qB]
  omega
theorem k6c {bs : List Bx} (h : BsV bs) : ∀ k, k ≤ bs.length → ka1 (aV bs k) ≤ k * 1400
  | 0, _ => kc8 _
  | k + 1, hk => by
    have h1 := k6c h k (by omega)
    have h2 := (u0l (h _ (fB (show k < bs.length by omega)))).2
    rw [aV, ka3]; omega
theorem u0m {bs : List Bx} (h : BsV bs) (hn : bs.length ≤ 8) : RbW bs ∧ ka1 (vV bs) ≤ 12000 := by
  refine ⟨fun b hb => (u0l (h b hb)).1, ?_⟩
  have := k6c h bs.length (kc8 _)
  unfold vV; rw [ka3, pbL_len]; omega
structure DeW (id : Int) (nm : List Int) (d1 d2 d3 d4 d5 : Int) (bs : List Bx) (n : Nat) : Prop where
  y : Byt nm
  l : 1 ≤ ka1 nm ∧ ka1 nm ≤ 64
  n : ka1 bs = n ∧ 1 ≤ n ∧ n ≤ 8
  v : BsV bs
  i : 0 ≤ id ∧ id ≤ 255
  d : (d1 = 1 ∨ d1 = 2) ∧ (0 ≤ d2 ∧ d2 ≤ 65535) ∧ (0 ≤ d3 ∧ d3 ≤ 1048576) ∧ (0 ≤ d4 ∧ d4 ≤ 2048) ∧ (0 ≤ d5 ∧ d5 ≤ 4096)
  b : uZ nm = true
theorem DeW.w {id : Int} {nm : List Int} {d1 d2 d3 d4 d5 : Int} {bs : List Bx} {n : Nat} (h : DeW id nm d1 d2 d3 d4 d5 bs n) : BsW bs := h.v.w
theorem DeW.r {id : Int} {nm : List Int} {d1 d2 d3 d4 d5 : Int} {bs : List Bx} {n : Nat} (h : DeW id nm d1 d2 d3 d4 d5 bs n) : RbW bs ∧ ka1 (vV bs) ≤ 12000 := u0m h.v (by have := h.n; omega)
theorem DeW.vd {id : Int} {nm : List Int} {d1 d2 d3 d4 d5 : Int} {bs : List Bx} {n : Nat} (h : DeW id nm d1 d2 d3 d4 d5 bs n) : yK nm d1 d2 d3 d4 d5 bs = true :=
  u17 h.b (by have h1 := h.d; have h2 := h.n; omega) (h.v.vb (by have := h.n; omega))
def sX (l : List Int) : List Int := qS (kA l 2) (1 + kB l 2)
def u3 (l : List Int) : List Bx := bbL (kA l 2) (1 + kB l 2)
theorem dM {l : List Int} (h : Byt l) : Byt (sX l) := fD (kE _ h) _
theorem aU {l : List Int} (h : Byt l) : 1 ≤ ka1 (u3 l) ∧ ka1 (u3 l) ≤ 2 := by
  unfold u3; rw [jZ]
  have := kO l 2 h; omega
theorem u6k {l : List Int} (h : Byt l) : BsV (u3 l) := u0p (kE _ h) _
def iO : List (List Int) := [[100, 97, 99], [104, 100, 109, 105, 45, 49], [77, 105, 99, 46, 50]]
theorem k3t {k : Nat} (h : k < 3) : uZ (ka0 iO k []) = true ∧ Byt (ka0 iO k []) := by
  match k, h with
  | 0, _ => exact ⟨by decide, fun x hx => by have : x = 100 ∨ x = 97 ∨ x = 99 := by simpa [iO] using hx; 
                                             omega⟩
  | 1, _ => exact ⟨by decide, fun x hx => by have : x = 104 ∨ x = 100 ∨ x = 109 ∨ x = 105 ∨ x = 45 ∨ x = 49 := by simpa [iO] using hx; 
                                             omega⟩
  | 2, _ => exact ⟨by decide, fun x hx => by have : x = 77 ∨ x = 105 ∨ x = 99 ∨ x = 46 ∨ x = 50 := by simpa [iO] using hx; 
                                             omega⟩
theorem u66 {k : Nat} (h : k < 4) : 0 ≤ ka0 ([0, 66, 200, 7] : List Int) k 0 ∧ ka0 ([0, 66, 200, 7] : List Int) k 0 ≤ 2048 := by
  match k, h with
  | 0, _ => exact ⟨by decide, by decide⟩
  | 1, _ => exact ⟨by decide, by decide⟩
  | 2, _ => exact ⟨by decide, by decide⟩
  | 3, _ => exact ⟨by decide, by decide⟩
theorem iF {p : Prop} (h : p := by first | omega | (simp only [kU, kT, pbL_len, qD, qB, qM, ka3, kb1, kb5, kb3, kb2, kb6, kc2, kc3, kc7, Nat.mul_one] <;> omega) | rfl) : p := h
abbrev lJ (l : List Int) (i : Nat) : BC := .ds [D.sl (dI .u8 (qS (kA l 2) i)) (ka1 (qS (kA l 2) i))]
theorem mR (l : List Int) (hb : Byt l) : Fun 37 [.c (.ptr 0 0), iE 1, iE 2] (kF [(0, some (77, .ds [D.sl (dI .u8 l) (ka1 l)]))]) 1 (.e (q1M (u3 l))) (kF [(0, some (77, .ds [D.sl (dI .u8 (sX l)) (ka1 (sX l))]))]) 1 := by
  have hz1 : ka1 (u3 l) = 1 + kB l 2 := jZ _ _
  refine Fun.mk (n := 27) Try.func37 rfl rfl (ka4 rfl) ?_
  intro cx hcx
  refine kI [.no] True [(0, rV 0 0), (1, iV 1), (2, iV 2)] [(0, some (77, .ds [db l (ka1 l)]))] 1 trivial ?_
  refine k8 [.no] True [(0, rV 0 0), (1, iV 1), (2, iV 2), (7, nV)] trivial ?_
  refine AW.seq ?_
  have hx1 : ((((((kB l 2) : Nat) : Int) < 2) ∨ ((kB l 2) = 0)) ∧ ((kB l 2) ≤ 255)) := kO l (2 : Int) (kQ : Byt l)
  have hx2 : (Byt (kA l 2)) := kE (2 : Int) (kQ : Byt l)
  refine kI (kJ 4 [.w, .w, .call [0] (uV (kB l 2)) [(0, some (77, .ds [db (kA l 2) (ka1 (kA l 2))]))] 1 [] none, .w, .no]) ((qJ (1 : Int)) ∧ (qJ (2 : Int)) ∧ (_) ∧ (qJ (1 + (kB l 2 : Int)))) [(0, rV 0 0), (7, nV), (8, iV (1 + (kB l 2 : Int)))] [(0, some (77, .ds [db (kA l 2) (ka1 (kA l 2))]))] 1 ⟨⟨by omega, by omega⟩, ⟨by omega, by omega⟩, (qH l 2 (kQ : Byt l)), ⟨by omega, by omega⟩⟩ ?_
  refine AW.block ?_
  refine AW.adoptS 7 4 47 rfl ?_
  refine kX 1 hcx (fun (x : {x : Nat × List Bx // match x with | (i, bs) => (i ≤ 1 + kB l 2) ∧ (bbL (kA l 2) i = bs) ∧ (ka1 bs = i)}) => match x with | ⟨(i, bs), _⟩ => (⟨[(0, rV 0 0), (7, oV 2 0 i 4), (8, iV ((1 + (kB l 2 : Int)) - (i : Int)))], [(0, some (77, (lJ l i))), (2, some (47, .ds (kR bs)))], 3⟩ : ES)) (fun x => match x with | ⟨(i, bs), _⟩ => 1 + kB l 2 - i) ⟨((0 : Nat), (([] : List Bx) : List Bx)), ⟨(by first | omega | assumption | simp), rfl, rfl⟩⟩ [(2, 1)] (P := (kP 0) ∧ (kP 0) ∧ (kP 0) ∧ ((((1 + (kB l 2 : Int)) - 0) : Int) = (1 + (kB l 2 : Int))) ∧ (([db (qS (kA l 2) 0) (ka1 (qS (kA l 2) 0))] : List D) = [db (kA l 2) (ka1 (kA l 2))]) ∧ (((kR ([] : List Bx)) : List D) = ([] : List D))) zk ⟨rfl, rfl, rfl, (by first | rfl | omega | assumption | (simp; done) | (simp; omega)), (by first | rfl | with_reducible assumption), (by first | rfl | with_reducible assumption)⟩ ?_
  rintro ⟨⟨i, bs⟩, hinv0⟩
  obtain ⟨hi, hB, hn⟩ : (i ≤ 1 + kB l 2) ∧ (bbL (kA l 2) i = bs) ∧ (ka1 bs = i) := hinv0
  refine qU (l := [(0, rV 0 0), (7, oV 2 0 i 4), (8, iV ((1 + (kB l 2 : Int)) - (i : Int)))]) (g := [(0, some (77, (lJ l i))), (2, some (47, .ds (kR bs)))]) (nx := 3) rfl rfl rfl ?_
  refine AW.seq ?_
  by_cases hx3 : ((0 : Int) < ((1 + (((kB l 2) : Nat) : Int)) - ((i : Nat) : Int)))
  · refine zr [.no, .b true] [0, 7, 8, 18] [0, 2] (((0 : Int) < ((1 + (kB l 2 : Int)) - (i : Int)))) [(0, rV 0 0), (7, oV 2 0 i 4), (8, iV ((1 + (kB l 2 : Int)) - ↑i)), (18, bV true)] [(0, some (77, (lJ l i))), (2, some (47, .ds (kR bs)))] 3 zo ?_
    refine vD ?_
    refine AW.seq ?_
    refine AW.block ?_
    refine v7 [.no, .no, .call [0] (.e (.agg [iC (jD (qS (kA l 2) i)), .d (dl (jC (qS (kA l 2) i)) (iZ (qS (kA l 2) i))), .d (D.sl (kY (dV (qS (kA l 2) i))) (ka1 (dV (qS (kA l 2) i)))), .d (dl (jB (qS (kA l 2) i)) (iY (qS (kA l 2) i)))])) [(0, some (77, .ds [db (sE (qS (kA l 2) i)) (ka1 (sE (qS (kA l 2) i)))]))] 1 [] none, .no, .ap none (i + 1) (kR (bs ++ ([(vX (jD (qS (kA l 2) i)) (jC (qS (kA l 2) i)) (iZ (qS (kA l 2) i)) (dV (qS (kA l 2) i)) (jB (qS (kA l 2) i)) (iY (qS (kA l 2) i)))] : List Bx))), .no] ((_) ∧ ([iD (jD (qS (kA l 2) i)), dl (jC (qS (kA l 2) i)) (iZ (qS (kA l 2) i)), D.sl (kY (dV (qS (kA l 2) i))) (ka1 (dV (qS (kA l 2) i))), dl (jB (qS (kA l 2) i)) (iY (qS (kA l 2) i))].length = 1 * 4) ∧ (((kR bs) : List D).length = i * 4) ∧ ((i + 1) * 80 ≤ 140737488355328) ∧ (i + 1 = (i + 1)) ∧ (((kR bs) : List D) ++ [iD (jD (qS (kA l 2) i)), dl (jC (qS (kA l 2) i)) (iZ (qS (kA l 2) i)), D.sl (kY (dV (qS (kA l 2) i))) (ka1 (dV (qS (kA l 2) i))), dl (jB (qS (kA l 2) i)) (iY (qS (kA l 2) i))] = (kR (bs ++ ([(vX (jD (qS (kA l 2) i)) (jC (qS (kA l 2) i)) (iZ (qS (kA l 2) i)) (dV (qS (kA l 2) i)) (jB (qS (kA l 2) i)) (iY (qS (kA l 2) i)))] : List Bx))))) [(0, rV 0 0), (7, oV 4 0 (i + 1) 4), (8, iV ((1 + (kB l 2 : Int)) - ↑i))] [(0, some (77, .ds [db (sE (qS (kA l 2) i)) (ka1 (sE (qS (kA l 2) i)))])), (4, some (47, .ds (kR (bs ++ ([(vX (jD (qS (kA l 2) i)) (jC (qS (kA l 2) i)) (iZ (qS (kA l 2) i)) (dV (qS (kA l 2) i)) (jB (qS (kA l 2) i)) (iY (qS (kA l 2) i)))] : List Bx)))))] 5 ⟨(u0z (qS (kA l 2) i) (fD (kQ : Byt (kA l 2)) _)), iF, iF, zo, zo, (jY bs (jD (qS (kA l 2) i)) (jC (qS (kA l 2) i)) (iZ (qS (kA l 2) i)) (dV (qS (kA l 2) i)) (ka1 (dV (qS (kA l 2) i))) (jB (qS (kA l 2) i)) (iY (qS (kA l 2) i)) (by first | rfl | omega))⟩ ?_
    refine yD [.no, .w, .no] (qJ (((1 + (kB l 2 : Int)) - (i : Int)) - 1)) [(0, rV 0 0), (7, oV 4 0 (i + 1) 4), (8, iV (((1 + (kB l 2 : Int)) - ↑i) - 1))] ⟨by omega, by omega⟩ ?_
    exact qE ⟨(((i + 1) : Nat), ((bs ++ ([(vX (jD (qS (kA l 2) i)) (jC (qS (kA l 2) i)) (iZ (qS (kA l 2) i)) (dV (qS (kA l 2) i)) (jB (qS (kA l 2) i)) (iY (qS (kA l 2) i)))] : List Bx)) : List Bx)), ⟨(by first | omega | assumption | simp), (u6i hB), (by first | omega | (simp only [kU, kT, pbL_len, qD, qB, ka3, kb1, kb5] <;> omega))⟩⟩ [(2, 4)] (P := (kP 0) ∧ (kP 0) ∧ (kP (i + 1)) ∧ ((((1 + (kB l 2 : Int)) - (((i + 1) : Nat) : Int)) : Int) = (((1 + (kB l 2 : Int)) - (i : Int)) - 1)) ∧ (([db (qS (kA l 2) (i + 1)) (ka1 (qS (kA l 2) (i + 1)))] : List D) = [db (sE (qS (kA l 2) i)) (ka1 (sE (qS (kA l 2) i)))]) ∧ (kZ (kR (bs ++ ([(vX (jD (qS (kA l 2) i)) (jC (qS (kA l 2) i)) (iZ (qS (kA l 2) i)) (dV (qS (kA l 2) i)) (jB (qS (kA l 2) i)) (iY (qS (kA l 2) i)))] : List Bx))))) zk ⟨rfl, rfl, rfl, (by first | rfl | omega | assumption | (simp; done) | (simp; omega)), (by first | rfl | with_reducible assumption), rfl⟩ (show 1 + kB l 2 - (i + 1) < 1 + kB l 2 - i from (by first | omega | (show _ < _; simp; omega)))
  · refine zr [.no, .b false] [0, 7, 8, 18] [0, 2] (¬ ((0 : Int) < ((1 + (kB l 2 : Int)) - (i : Int)))) [(0, rV 0 0), (7, oV 2 0 i 4), (8, iV ((1 + (kB l 2 : Int)) - ↑i)), (18, bV false)] [(0, some (77, (lJ l i))), (2, some (47, .ds (kR bs)))] 3 zo ?_
    refine zf ?_
    refine AW.exit ?_
    refine kI [.no, .no] True [(6, oV 2 0 i 4)] [(0, some (77, (lJ l i))), (2, some (47, .ds (kR bs)))] 3 trivial ?_
    obtain rfl : i = (1 + (kB l 2)) := (by omega)
    refine AW.freeze 2 (l' := [(6, .e (uX bs (1 + (kB l 2))))]) (g' := [(0, some (77, .ds [db (qS (kA l 2) (1 + (kB l 2))) (ka1 (qS (kA l 2) (1 + (kB l 2))))]))]) rfl (FzS.cons rfl (.e (.c (@FzC.own 2 ((kR bs) : List D) 0 (1 + (kB l 2)) 4 true ((kR bs) : List D) (by rw [List.drop_zero, List.take_of_length_le (by first | omega | (simp only [kU, kT, pbL_len, qD, qB, qM, ka3, kb1, kb5, kb3, kb2, kb6, kc2, kc3, kc7, Nat.mul_one] <;> omega))]) iF))) FzS.nil) (uP rfl rfl FzG.nil) ?_
    refine AW.ret ?_
    exact kC (.inr rfl) [] (P := (((kR (u3 l)) : List D) = (kR bs)) ∧ (((ka1 (u3 l)) : Nat) = (1 + (kB l 2))) ∧ (([db (sX l) (ka1 (sX l))] : List D) = [db (qS (kA l 2) (1 + (kB l 2))) (ka1 (qS (kA l 2) (1 + (kB l 2))))])) zk ⟨(by first | rfl | (rw [hB]; done) | (rw [hB]; rfl) | (unfold u3; rw [hB]; done) | (unfold u3; rw [hB]; rfl)), (by first | omega | rfl | assumption | (simp; done) | (simp; omega)), (by first | rfl | (rw [hB]; done) | (rw [hB]; rfl) | (unfold u3; rw [hB]; done) | (unfold u3; rw [hB]; rfl))⟩
abbrev kH (l : List Int) := kA (kA (kA (kA l 256) 3) 4) 200
abbrev u9 (l : List Int) := sX (kA (kA (kH l) 4) 4)
theorem k9k (l : List Int) (g : Int) (hb : Byt l) : Fun 13 [.c (.ptr 0 0), iE g] (kF [(0, some (77, .ds [D.sl (dI .u8 l) (ka1 l)]))]) 1 (.e (.agg [.d (D.lit (.int .u64 (((kB l 256) : Nat) : Int))), .d (D.lit (.string (strOfNums (ka0 iO (kB (kA l 256) 3) ([] : List Int))))), iC g, iC (((kB (kA (kA l 256) 3) 4) : Nat) : Int), iC (((kB (kA (kA (kA l 256) 3) 4) 200) : Nat) : Int), iC (ka0 ([0, 66, 200, 7] : List Int) (kB (kA (kA (kA (kA l 256) 3) 4) 200) 4) 0), iC (((kB (kA (kA (kA (kA (kA l 256) 3) 4) 200) 4) 4) : Nat) : Int), .d (D.sl (kR (u3 (kA (kA (kA (kA (kA (kA l 256) 3) 4) 200) 4) 4))) (ka1 (u3 (kA (kA (kA (kA (kA (kA l 256) 3) 4) 200) 4) 4))))])) (kF [(0, some (77, .ds [D.sl (dI .u8 (sX (kA (kA (kA (kA (kA (kA l 256) 3) 4) 200) 4) 4))) (ka1 (sX (kA (kA (kA (kA (kA (kA l 256) 3) 4) 200) 4) 4)))]))]) 1 := by
  refine Fun.mk (n := 28) Try.func13 rfl rfl (ka4 rfl) ?_
  intro cx hcx
  refine kI [.no] True [(0, rV 0 0), (1, iV g), (4, rV 1 0)] [(0, some (77, .ds [db l (ka1 l)])), (1, some (25, .ds [D.lit (.int .u64 0), D.lit (.string { data := #[] }), iD 0, iD 0, iD 0, iD 0, iD 0, qF]))] 2 trivial ?_
  by_cases hx5 : ((((kB (kA l 256) 3) : Nat) : Int) = 0)
  · have hx6 : ((((((kB l 256) : Nat) : Int) < 256) ∨ ((kB l 256) = 0)) ∧ ((kB l 256) ≤ 255)) := kO l (256 : Int) (kQ : Byt l)
    have hx7 : (Byt (kA l 256)) := kE (256 : Int) (kQ : Byt l)
    have hx8 : ((((((kB (kA l 256) 3) : Nat) : Int) < 3) ∨ ((kB (kA l 256) 3) = 0)) ∧ ((kB (kA l 256) 3) ≤ 255)) := kO (kA l 256) (3 : Int) (kQ : Byt (kA l 256))
    have hx9 : (Byt (kA (kA l 256) 3)) := kE (3 : Int) (kQ : Byt (kA l 256))
    have hx10 : ((((((kB (kA (kA l 256) 3) 4) : Nat) : Int) < 4) ∨ ((kB (kA (kA l 256) 3) 4) = 0)) ∧ ((kB (kA (kA l 256) 3) 4) ≤ 255)) := kO (kA (kA l 256) 3) (4 : Int) (kQ : Byt (kA (kA l 256) 3))
    have hx11 : (Byt (kA (kA (kA l 256) 3) 4)) := kE (4 : Int) (kQ : Byt (kA (kA l 256) 3))
    have hx12 : ((((((kB (kA (kA (kA l 256) 3) 4) 200) : Nat) : Int) < 200) ∨ ((kB (kA (kA (kA l 256) 3) 4) 200) = 0)) ∧ ((kB (kA (kA (kA l 256) 3) 4) 200) ≤ 255)) := kO (kA (kA (kA l 256) 3) 4) (200 : Int) (kQ : Byt (kA (kA (kA l 256) 3) 4))
    have hx13 : (Byt (kH l)) := kE (200 : Int) (kQ : Byt (kA (kA (kA l 256) 3) 4))
    have hx14 : ((((((kB (kH l) 4) : Nat) : Int) < 4) ∨ ((kB (kH l) 4) = 0)) ∧ ((kB (kH l) 4) ≤ 255)) := kO (kH l) (4 : Int) (kQ : Byt (kH l))
    have hx15 : (Byt (kA (kH l) 4)) := kE (4 : Int) (kQ : Byt (kH l))
    have hx16 : 0 ≤ (ka0 ([0, 66, 200, 7] : List Int) (kB (kH l) 4) 0) ∧ (ka0 ([0, 66, 200, 7] : List Int) (kB (kH l) 4) 0) ≤ 200 := eX (l := ([0, 66, 200, 7] : List Int)) (a := 0) (b := 200) (by decide) _ (show _ < 4 by omega)
    have hx17 : ((((((kB (kA (kH l) 4) 4) : Nat) : Int) < 4) ∨ ((kB (kA (kH l) 4) 4) = 0)) ∧ ((kB (kA (kH l) 4) 4) ≤ 255)) := kO (kA (kH l) 4) (4 : Int) (kQ : Byt (kA (kH l) 4))
    have hx18 : (Byt (kA (kA (kH l) 4) 4)) := kE (4 : Int) (kQ : Byt (kA (kH l) 4))
    have hx19 : (((1 : Nat) ≤ (ka1 (u3 (kA (kA (kH l) 4) 4)))) ∧ ((ka1 (u3 (kA (kA (kH l) 4) 4))) ≤ 2)) := (aU (kQ : Byt (kA (kA (kH l) 4) 4)))
    have hx20 : (BsW (u3 (kA (kA (kH l) 4) 4))) := (mM _ _)
    have hx21 : (Byt (u9 l)) := (dM (kQ : Byt (kA (kA (kH l) 4) 4)))
    refine kI [.no, .call [0] (uV (kB l 256)) [(0, some (77, .ds [db (kA l 256) (ka1 (kA l 256))]))] 1 [] none, .w, .no, .no, .call [0] (uV (kB (kA l 256) 3)) [(0, some (77, .ds [db (kA (kA l 256) 3) (ka1 (kA (kA l 256) 3))]))] 1 [] none, .n2 0 0, .no, .no, .no, .call [0] (uV (kB (kA (kA l 256) 3) 4)) [(0, some (77, .ds [db (kA (kA (kA l 256) 3) 4) (ka1 (kA (kA (kA l 256) 3) 4))]))] 1 [] none, .no, .call [0] (iV (kB (kA (kA (kA l 256) 3) 4) 200 : Int)) [(0, some (77, .ds [db (kH l) (ka1 (kH l))]))] 1 [] none, .no, .no, .call [0] (uV (kB (kH l) 4)) [(0, some (77, .ds [db (kA (kH l) 4) (ka1 (kA (kH l) 4))]))] 1 [] none, .n2 (kB (kH l) 4) (kB (kH l) 4), .d (D.lit (.int .i64 (ka0 ([0, 66, 200, 7] : List Int) (kB (kH l) 4) 0))), .no, .call [0] (uV (kB (kA (kH l) 4) 4)) [(0, some (77, .ds [db (kA (kA (kH l) 4) 4) (ka1 (kA (kA (kH l) 4) 4))]))] 1 [] none, .no, .call [0] (.e (q1M (u3 (kA (kA (kH l) 4) 4)))) [(0, some (77, .ds [db (u9 l) (ka1 (u9 l))]))] 1 [] none, .no, .no] ((_) ∧ (0 ≤ (kB l 256 : Int) ∧ (kB l 256 : Int) ≤ 18446744073709551615) ∧ (_) ∧ (((kB (kA l 256) 3 : Int) : Int) = 0) ∧ ((0 : Nat) < 3) ∧ ((0 : Nat) + 0 * 1 = 0) ∧ (_) ∧ (_) ∧ (_) ∧ (kN (kB (kH l) 4 : Int)) ∧ ((kB (kH l) 4) < 4) ∧ ((0 : Nat) + (kB (kH l) 4) * 1 = (kB (kH l) 4)) ∧ ([iD 0, iD 66, iD 200, iD 7][(kB (kH l) 4)]? = some (D.lit (.int .i64 (ka0 ([0, 66, 200, 7] : List Int) (kB (kH l) 4) 0)))) ∧ (_) ∧ (_)) [(4, rV 1 0)] [(0, some (77, .ds [db (u9 l) (ka1 (u9 l))])), (1, some (25, .ds [D.lit (.int .u64 (kB l 256 : Int)), D.lit ((.string (ByteArray.mk #[100, 97, 99]))), iD g, uD (kB (kA (kA l 256) 3) 4), iD (kB (kA (kA (kA l 256) 3) 4) 200 : Int), iD (ka0 ([0, 66, 200, 7] : List Int) (kB (kH l) 4) 0), uD (kB (kA (kH l) 4) 4), D.sl (kR (u3 (kA (kA (kH l) 4) 4))) (ka1 (u3 (kA (kA (kH l) 4) 4)))]))] 4 ⟨(qH l 256 (kQ : Byt l)), ⟨by omega, by omega⟩, (qH (kA l 256) 3 (kQ : Byt (kA l 256))), (by first | rfl | omega), zo, zo, (qH (kA (kA l 256) 3) 4 (kQ : Byt (kA (kA l 256) 3))), (qH (kA (kA (kA l 256) 3) 4) 200 (kQ : Byt (kA (kA (kA l 256) 3) 4))), (qH (kH l) 4 (kQ : Byt (kH l))), rfl, zo, zo, (dH .i64 ([0, 66, 200, 7] : List Int) _ iF), (qH (kA (kH l) 4) 4 (kQ : Byt (kA (kH l) 4))), (mR (kA (kA (kH l) 4) 4) (kQ : Byt (kA (kA (kH l) 4) 4)))⟩ ?_
    refine AW.ret ?_
    exact kC (.inr rfl) [] (P := (kN (kB l 256 : Int)) ∧ ((.string (strOfNums (ka0 iO (kB (kA l 256) 3) ([] : List Int))) : Value) = .string (ByteArray.mk #[100, 97, 99])) ∧ (kN g) ∧ (kN (kB (kA (kA l 256) 3) 4 : Int)) ∧ (kN (kB (kA (kA (kA l 256) 3) 4) 200 : Int)) ∧ (kN (ka0 ([0, 66, 200, 7] : List Int) (kB (kH l) 4) 0)) ∧ (kN (kB (kA (kH l) 4) 4 : Int)) ∧ (kZ (kR (u3 (kA (kA (kH l) 4) 4)))) ∧ (kP (ka1 (u3 (kA (kA (kH l) 4) 4)))) ∧ (kZ [db (u9 l) (ka1 (u9 l))])) zk ⟨rfl, (congrArg (fun x9 => Value.string (strOfNums x9)) (show (ka0 iO (kB (kA l 256) 3) ([] : List Int)) = ([100, 97, 99] : List Int) from (by first | (rw [show kB (kA l 256) 3 = 0 by omega]; rfl) | (rw [show kB (kA l 256) 3 = 1 by omega]; rfl) | (rw [show kB (kA l 256) 3 = 2 by omega]; rfl)))), rfl, rfl, rfl, rfl, rfl, rfl, rfl, rfl⟩
  · by_cases hx26 : ((((kB (kA l 256) 3) : Nat) : Int) = 1)
    · have hx27 : ((((((kB l 256) : Nat) : Int) < 256) ∨ ((kB l 256) = 0)) ∧ ((kB l 256) ≤ 255)) := kO l (256 : Int) (kQ : Byt l)
      have hx28 : (Byt (kA l 256)) := kE (256 : Int) (kQ : Byt l)
      have hx29 : ((((((kB (kA l 256) 3) : Nat) : Int) < 3) ∨ ((kB (kA l 256) 3) = 0)) ∧ ((kB (kA l 256) 3) ≤ 255)) := kO (kA l 256) (3 : Int) (kQ : Byt (kA l 256))
      have hx30 : (Byt (kA (kA l 256) 3)) := kE (3 : Int) (kQ : Byt (kA l 256))
      have hx31 : ((((((kB (kA (kA l 256) 3) 4) : Nat) : Int) < 4) ∨ ((kB (kA (kA l 256) 3) 4) = 0)) ∧ ((kB (kA (kA l 256) 3) 4) ≤ 255)) := kO (kA (kA l 256) 3) (4 : Int) (kQ : Byt (kA (kA l 256) 3))
      have hx32 : (Byt (kA (kA (kA l 256) 3) 4)) := kE (4 : Int) (kQ : Byt (kA (kA l 256) 3))
      have hx33 : ((((((kB (kA (kA (kA l 256) 3) 4) 200) : Nat) : Int) < 200) ∨ ((kB (kA (kA (kA l 256) 3) 4) 200) = 0)) ∧ ((kB (kA (kA (kA l 256) 3) 4) 200) ≤ 255)) := kO (kA (kA (kA l 256) 3) 4) (200 : Int) (kQ : Byt (kA (kA (kA l 256) 3) 4))
      have hx34 : (Byt (kH l)) := kE (200 : Int) (kQ : Byt (kA (kA (kA l 256) 3) 4))
      have hx35 : ((((((kB (kH l) 4) : Nat) : Int) < 4) ∨ ((kB (kH l) 4) = 0)) ∧ ((kB (kH l) 4) ≤ 255)) := kO (kH l) (4 : Int) (kQ : Byt (kH l))
      have hx36 : (Byt (kA (kH l) 4)) := kE (4 : Int) (kQ : Byt (kH l))
      have hx37 : 0 ≤ (ka0 ([0, 66, 200, 7] : List Int) (kB (kH l) 4) 0) ∧ (ka0 ([0, 66, 200, 7] : List Int) (kB (kH l) 4) 0) ≤ 200 := eX (l := ([0, 66, 200, 7] : List Int)) (a := 0) (b := 200) (by decide) _ (show _ < 4 by omega)
      have hx38 : ((((((kB (kA (kH l) 4) 4) : Nat) : Int) < 4) ∨ ((kB (kA (kH l) 4) 4) = 0)) ∧ ((kB (kA (kH l) 4) 4) ≤ 255)) := kO (kA (kH l) 4) (4 : Int) (kQ : Byt (kA (kH l) 4))
      have hx39 : (Byt (kA (kA (kH l) 4) 4)) := kE (4 : Int) (kQ : Byt (kA (kH l) 4))
      have hx40 : (((1 : Nat) ≤ (ka1 (u3 (kA (kA (kH l) 4) 4)))) ∧ ((ka1 (u3 (kA (kA (kH l) 4) 4))) ≤ 2)) := (aU (kQ : Byt (kA (kA (kH l) 4) 4)))
      have hx41 : (BsW (u3 (kA (kA (kH l) 4) 4))) := (mM _ _)
      have hx42 : (Byt (u9 l)) := (dM (kQ : Byt (kA (kA (kH l) 4) 4)))
      refine kI [.no, .call [0] (uV (kB l 256)) [(0, some (77, .ds [db (kA l 256) (ka1 (kA l 256))]))] 1 [] none, .w, .no, .no, .call [0] (uV (kB (kA l 256) 3)) [(0, some (77, .ds [db (kA (kA l 256) 3) (ka1 (kA (kA l 256) 3))]))] 1 [] none, .n2 1 1, .no, .no, .no, .call [0] (uV (kB (kA (kA l 256) 3) 4)) [(0, some (77, .ds [db (kA (kA (kA l 256) 3) 4) (ka1 (kA (kA (kA l 256) 3) 4))]))] 1 [] none, .no, .call [0] (iV (kB (kA (kA (kA l 256) 3) 4) 200 : Int)) [(0, some (77, .ds [db (kH l) (ka1 (kH l))]))] 1 [] none, .no, .no, .call [0] (uV (kB (kH l) 4)) [(0, some (77, .ds [db (kA (kH l) 4) (ka1 (kA (kH l) 4))]))] 1 [] none, .n2 (kB (kH l) 4) (kB (kH l) 4), .d (D.lit (.int .i64 (ka0 ([0, 66, 200, 7] : List Int) (kB (kH l) 4) 0))), .no, .call [0] (uV (kB (kA (kH l) 4) 4)) [(0, some (77, .ds [db (kA (kA (kH l) 4) 4) (ka1 (kA (kA (kH l) 4) 4))]))] 1 [] none, .no, .call [0] (.e (q1M (u3 (kA (kA (kH l) 4) 4)))) [(0, some (77, .ds [db (u9 l) (ka1 (u9 l))]))] 1 [] none, .no, .no] ((_) ∧ (0 ≤ (kB l 256 : Int) ∧ (kB l 256 : Int) ≤ 18446744073709551615) ∧ (_) ∧ (((kB (kA l 256) 3 : Int) : Int) = 1) ∧ ((1 : Nat) < 3) ∧ ((0 : Nat) + 1 * 1 = 1) ∧ (_) ∧ (_) ∧ (_) ∧ (kN (kB (kH l) 4 : Int)) ∧ ((kB (kH l) 4) < 4) ∧ ((0 : Nat) + (kB (kH l) 4) * 1 = (kB (kH l) 4)) ∧ ([iD 0, iD 66, iD 200, iD 7][(kB (kH l) 4)]? = some (D.lit (.int .i64 (ka0 ([0, 66, 200, 7] : List Int) (kB (kH l) 4) 0)))) ∧ (_) ∧ (_)) [(4, rV 1 0)] [(0, some (77, .ds [db (u9 l) (ka1 (u9 l))])), (1, some (25, .ds [D.lit (.int .u64 (kB l 256 : Int)), D.lit ((.string (ByteArray.mk #[104, 100, 109, 105, 45, 49]))), iD g, uD (kB (kA (kA l 256) 3) 4), iD (kB (kA (kA (kA l 256) 3) 4) 200 : Int), iD (ka0 ([0, 66, 200, 7] : List Int) (kB (kH l) 4) 0), uD (kB (kA (kH l) 4) 4), D.sl (kR (u3 (kA (kA (kH l) 4) 4))) (ka1 (u3 (kA (kA (kH l) 4) 4)))]))] 4 ⟨(qH l 256 (kQ : Byt l)), ⟨by omega, by omega⟩, (qH (kA l 256) 3 (kQ : Byt (kA l 256))), (by first | rfl | omega), zo, zo, (qH (kA (kA l 256) 3) 4 (kQ : Byt (kA (kA l 256) 3))), (qH (kA (kA (kA l 256) 3) 4) 200 (kQ : Byt (kA (kA (kA l 256) 3) 4))), (qH (kH l) 4 (kQ : Byt (kH l))), rfl, zo, zo, (dH .i64 ([0, 66, 200, 7] : List Int) _ iF), (qH (kA (kH l) 4) 4 (kQ : Byt (kA (kH l) 4))), (mR (kA (kA (kH l) 4) 4) (kQ : Byt (kA (kA (kH l) 4) 4)))⟩ ?_
      refine AW.ret ?_
      exact kC (.inr rfl) [] (P := (kN (kB l 256 : Int)) ∧ ((.string (strOfNums (ka0 iO (kB (kA l 256) 3) ([] : List Int))) : Value) = .string (ByteArray.mk #[104, 100, 109, 105, 45, 49])) ∧ (kN g) ∧ (kN (kB (kA (kA l 256) 3) 4 : Int)) ∧ (kN (kB (kA (kA (kA l 256) 3) 4) 200 : Int)) ∧ (kN (ka0 ([0, 66, 200, 7] : List Int) (kB (kH l) 4) 0)) ∧ (kN (kB (kA (kH l) 4) 4 : Int)) ∧ (kZ (kR (u3 (kA (kA (kH l) 4) 4)))) ∧ (kP (ka1 (u3 (kA (kA (kH l) 4) 4)))) ∧ (kZ [db (u9 l) (ka1 (u9 l))])) zk ⟨rfl, (congrArg (fun x9 => Value.string (strOfNums x9)) (show (ka0 iO (kB (kA l 256) 3) ([] : List Int)) = ([104, 100, 109, 105, 45, 49] : List Int) from (by first | (rw [show kB (kA l 256) 3 = 0 by omega]; rfl) | (rw [show kB (kA l 256) 3 = 1 by omega]; rfl) | (rw [show kB (kA l 256) 3 = 2 by omega]; rfl)))), rfl, rfl, rfl, rfl, rfl, rfl, rfl, rfl⟩
    · have hx43 : ((((((kB l 256) : Nat) : Int) < 256) ∨ ((kB l 256) = 0)) ∧ ((kB l 256) ≤ 255)) := kO l (256 : Int) (kQ : Byt l)
      have hx44 : (Byt (kA l 256)) := kE (256 : Int) (kQ : Byt l)
      have hx45 : ((((((kB (kA l 256) 3) : Nat) : Int) < 3) ∨ ((kB (kA l 256) 3) = 0)) ∧ ((kB (kA l 256) 3) ≤ 255)) := kO (kA l 256) (3 : Int) (kQ : Byt (kA l 256))
      have hx46 : (Byt (kA (kA l 256) 3)) := kE (3 : Int) (kQ : Byt (kA l 256))
      have hx47 : ((((((kB (kA (kA l 256) 3) 4) : Nat) : Int) < 4) ∨ ((kB (kA (kA l 256) 3) 4) = 0)) ∧ ((kB (kA (kA l 256) 3) 4) ≤ 255)) := kO (kA (kA l 256) 3) (4 : Int) (kQ : Byt (kA (kA l 256) 3))
      have hx48 : (Byt (kA (kA (kA l 256) 3) 4)) := kE (4 : Int) (kQ : Byt (kA (kA l 256) 3))
      have hx49 : ((((((kB (kA (kA (kA l 256) 3) 4) 200) : Nat) : Int) < 200) ∨ ((kB (kA (kA (kA l 256) 3) 4) 200) = 0)) ∧ ((kB (kA (kA (kA l 256) 3) 4) 200) ≤ 255)) := kO (kA (kA (kA l 256) 3) 4) (200 : Int) (kQ : Byt (kA (kA (kA l 256) 3) 4))
      have hx50 : (Byt (kH l)) := kE (200 : Int) (kQ : Byt (kA (kA (kA l 256) 3) 4))
      have hx51 : ((((((kB (kH l) 4) : Nat) : Int) < 4) ∨ ((kB (kH l) 4) = 0)) ∧ ((kB (kH l) 4) ≤ 255)) := kO (kH l) (4 : Int) (kQ : Byt (kH l))
      have hx52 : (Byt (kA (kH l) 4)) := kE (4 : Int) (kQ : Byt (kH l))
      have hx53 : 0 ≤ (ka0 ([0, 66, 200, 7] : List Int) (kB (kH l) 4) 0) ∧ (ka0 ([0, 66, 200, 7] : List Int) (kB (kH l) 4) 0) ≤ 200 := eX (l := ([0, 66, 200, 7] : List Int)) (a := 0) (b := 200) (by decide) _ (show _ < 4 by omega)
      have hx54 : ((((((kB (kA (kH l) 4) 4) : Nat) : Int) < 4) ∨ ((kB (kA (kH l) 4) 4) = 0)) ∧ ((kB (kA (kH l) 4) 4) ≤ 255)) := kO (kA (kH l) 4) (4 : Int) (kQ : Byt (kA (kH l) 4))
      have hx55 : (Byt (kA (kA (kH l) 4) 4)) := kE (4 : Int) (kQ : Byt (kA (kH l) 4))
      have hx56 : (((1 : Nat) ≤ (ka1 (u3 (kA (kA (kH l) 4) 4)))) ∧ ((ka1 (u3 (kA (kA (kH l) 4) 4))) ≤ 2)) := (aU (kQ : Byt (kA (kA (kH l) 4) 4)))
      have hx57 : (BsW (u3 (kA (kA (kH l) 4) 4))) := (mM _ _)
      have hx58 : (Byt (u9 l)) := (dM (kQ : Byt (kA (kA (kH l) 4) 4)))
      refine kI [.no, .call [0] (uV (kB l 256)) [(0, some (77, .ds [db (kA l 256) (ka1 (kA l 256))]))] 1 [] none, .w, .no, .no, .call [0] (uV (kB (kA l 256) 3)) [(0, some (77, .ds [db (kA (kA l 256) 3) (ka1 (kA (kA l 256) 3))]))] 1 [] none, .n2 2 2, .no, .no, .no, .call [0] (uV (kB (kA (kA l 256) 3) 4)) [(0, some (77, .ds [db (kA (kA (kA l 256) 3) 4) (ka1 (kA (kA (kA l 256) 3) 4))]))] 1 [] none, .no, .call [0] (iV (kB (kA (kA (kA l 256) 3) 4) 200 : Int)) [(0, some (77, .ds [db (kH l) (ka1 (kH l))]))] 1 [] none, .no, .no, .call [0] (uV (kB (kH l) 4)) [(0, some (77, .ds [db (kA (kH l) 4) (ka1 (kA (kH l) 4))]))] 1 [] none, .n2 (kB (kH l) 4) (kB (kH l) 4), .d (D.lit (.int .i64 (ka0 ([0, 66, 200, 7] : List Int) (kB (kH l) 4) 0))), .no, .call [0] (uV (kB (kA (kH l) 4) 4)) [(0, some (77, .ds [db (kA (kA (kH l) 4) 4) (ka1 (kA (kA (kH l) 4) 4))]))] 1 [] none, .no, .call [0] (.e (q1M (u3 (kA (kA (kH l) 4) 4)))) [(0, some (77, .ds [db (u9 l) (ka1 (u9 l))]))] 1 [] none, .no, .no] ((_) ∧ (0 ≤ (kB l 256 : Int) ∧ (kB l 256 : Int) ≤ 18446744073709551615) ∧ (_) ∧ (((kB (kA l 256) 3 : Int) : Int) = 2) ∧ ((2 : Nat) < 3) ∧ ((0 : Nat) + 2 * 1 = 2) ∧ (_) ∧ (_) ∧ (_) ∧ (kN (kB (kH l) 4 : Int)) ∧ ((kB (kH l) 4) < 4) ∧ ((0 : Nat) + (kB (kH l) 4) * 1 = (kB (kH l) 4)) ∧ ([iD 0, iD 66, iD 200, iD 7][(kB (kH l) 4)]? = some (D.lit (.int .i64 (ka0 ([0, 66, 200, 7] : List Int) (kB (kH l) 4) 0)))) ∧ (_) ∧ (_)) [(4, rV 1 0)] [(0, some (77, .ds [db (u9 l) (ka1 (u9 l))])), (1, some (25, .ds [D.lit (.int .u64 (kB l 256 : Int)), D.lit ((.string (ByteArray.mk #[77, 105, 99, 46, 50]))), iD g, uD (kB (kA (kA l 256) 3) 4), iD (kB (kA (kA (kA l 256) 3) 4) 200 : Int), iD (ka0 ([0, 66, 200, 7] : List Int) (kB (kH l) 4) 0), uD (kB (kA (kH l) 4) 4), D.sl (kR (u3 (kA (kA (kH l) 4) 4))) (ka1 (u3 (kA (kA (kH l) 4) 4)))]))] 4 ⟨(qH l 256 (kQ : Byt l)), ⟨by omega, by omega⟩, (qH (kA l 256) 3 (kQ : Byt (kA l 256))), (by first | rfl | omega), zo, zo, (qH (kA (kA l 256) 3) 4 (kQ : Byt (kA (kA l 256) 3))), (qH (kA (kA (kA l 256) 3) 4) 200 (kQ : Byt (kA (kA (kA l 256) 3) 4))), (qH (kH l) 4 (kQ : Byt (kH l))), rfl, zo, zo, (dH .i64 ([0, 66, 200, 7] : List Int) _ iF), (qH (kA (kH l) 4) 4 (kQ : Byt (kA (kH l) 4))), (mR (kA (kA (kH l) 4) 4) (kQ : Byt (kA (kA (kH l) 4) 4)))⟩ ?_
      refine AW.ret ?_
      exact kC (.inr rfl) [] (P := (kN (kB l 256 : Int)) ∧ ((.string (strOfNums (ka0 iO (kB (kA l 256) 3) ([] : List Int))) : Value) = .string (ByteArray.mk #[77, 105, 99, 46, 50])) ∧ (kN g) ∧ (kN (kB (kA (kA l 256) 3) 4 : Int)) ∧ (kN (kB (kA (kA (kA l 256) 3) 4) 200 : Int)) ∧ (kN (ka0 ([0, 66, 200, 7] : List Int) (kB (kH l) 4) 0)) ∧ (kN (kB (kA (kH l) 4) 4 : Int)) ∧ (kZ (kR (u3 (kA (kA (kH l) 4) 4)))) ∧ (kP (ka1 (u3 (kA (kA (kH l) 4) 4)))) ∧ (kZ [db (u9 l) (ka1 (u9 l))])) zk ⟨rfl, (congrArg (fun x9 => Value.string (strOfNums x9)) (show (ka0 iO (kB (kA l 256) 3) ([] : List Int)) = ([77, 105, 99, 46, 50] : List Int) from (by first | (rw [show kB (kA l 256) 3 = 0 by omega]; rfl) | (rw [show kB (kA l 256) 3 = 1 by omega]; rfl) | (rw [show kB (kA l 256) 3 = 2 by omega]; rfl)))), rfl, rfl, rfl, rfl, rfl, rfl, rfl, rfl⟩
theorem k42 (l : List Int) (g : Int) (hb : Byt l) (hg : g = 1 ∨ g = 2) : DeW (((kB (l) 256 : Nat) : Int)) (ka0 iO (kB (kA l 256) 3) []) (g) (((kB (kA (kA l 256) 3) 4 : Nat) : Int)) (((kB (kA (kA (kA l 256) 3) 4) 200 : Nat) : Int)) (ka0 ([0, 66, 200, 7] : List Int) (kB (kA (kA (kA (kA l 256) 3) 4) 200) 4) 0) (((kB (kA (kA (kA (kA (kA l 256) 3) 4) 200) 4) 4 : Nat) : Int)) (u3 (kA (kA (kA (kA (kA (kA l 256) 3) 4) 200) 4) 4)) (ka1 (u3 (kA (kA (kA (kA (kA (kA l 256) 3) 4) 200) 4) 4))) := ⟨(k3t (by have h9 := kO (kA l 256) 3 (kE 256 hb); omega)).2, (tP (k3t (by have h9 := kO (kA l 256) 3 (kE 256 hb); omega)).1), ⟨rfl, (aU (kE 4 (kE 4 (kE 200 (kE 4 (kE 3 (kE 256 hb))))))).1, Nat.le_trans (aU (kE 4 (kE 4 (kE 200 (kE 4 (kE 3 (kE 256 hb))))))).2 (by omega)⟩, u6k (kE 4 (kE 4 (kE 200 (kE 4 (kE 3 (kE 256 hb)))))), (by have h9 := kO (l) 256 hb; omega), ⟨hg, (by have h9 := kO (kA (kA l 256) 3) 4 (kE 3 (kE 256 hb)); omega), (by have h9 := kO (kA (kA (kA l 256) 3) 4) 200 (kE 4 (kE 3 (kE 256 hb))); omega), u66 (by have h9 := kO (kA (kA (kA (kA l 256) 3) 4) 200) 4 (kE 200 (kE 4 (kE 3 (kE 256 hb)))); omega), (by have h9 := kO (kA (kA (kA (kA (kA l 256) 3) 4) 200) 4) 4 (kE 4 (kE 200 (kE 4 (kE 3 (kE 256 hb))))); omega)⟩, (k3t (by have h9 := kO (kA l 256) 3 (kE 256 hb); omega)).1⟩
theorem k9c (l : List Int) (g : Int) (hb : Byt l) (hg : g = 1 ∨ g = 2) : ∃ (id : Int) (nm : List Int) (d2 : Int) (d3 : Int) (d4 : Int) (d5 : Int) (bs : List Bx) (n : Nat) (q : List Int), (DeW id nm g d2 d3 d4 d5 bs n) ∧ (Byt q) ∧ (Fun 13 [.c (.ptr 0 0), iE g] (kF [(0, some (77, .ds [D.sl (dI .u8 l) (ka1 l)]))]) 1 (.e (.agg [.d (D.lit (.int .u64 id)), .d (D.lit (.string (strOfNums nm))), iC g, iC d2, iC d3, iC d4, iC d5, .d (D.sl (kR bs) n)])) (kF [(0, some (77, .ds [D.sl (dI .u8 q) (ka1 q)]))]) 1) := ⟨(((kB l 256) : Nat) : Int), (ka0 iO (kB (kA l 256) 3) ([] : List Int)), (((kB (kA (kA l 256) 3) 4) : Nat) : Int), (((kB (kA (kA (kA l 256) 3) 4) 200) : Nat) : Int), (ka0 ([0, 66, 200, 7] : List Int) (kB (kA (kA (kA (kA l 256) 3) 4) 200) 4) 0), (((kB (kA (kA (kA (kA (kA l 256) 3) 4) 200) 4) 4) : Nat) : Int), (u3 (kA (kA (kA (kA (kA (kA l 256) 3) 4) 200) 4) 4)), (ka1 (u3 (kA (kA (kA (kA (kA (kA l 256) 3) 4) 200) 4) 4))), (sX (kA (kA (kA (kA (kA (kA l 256) 3) 4) 200) 4) 4)), k42 l g hb hg, dM (kE 4 (kE 4 (kE 200 (kE 4 (kE 3 (kE 256 hb)))))), k9k l g hb⟩
end Go.Proofs.Ytdbjebdomdnbkaa
