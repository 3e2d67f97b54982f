/- Descriptors out of dice. No statement is proved here. -/
import Derived.Test.YtalbpleglapihaaZD11E
namespace Go.Proofs.Ytalbpleglapihaa
open Go.ChangeShapes Go.WideShapes Go.ChangeAt Go.RowKit
open List renaming getD → ka0, getD_eq_getElem?_getD → ka8, length → ka1, length_append → ka4, length_cons → kb1, length_drop → kb2, length_map → kd0, length_nil → kb6, length_replicate → kb4, length_reverse → kc7, length_set → kc2, length_take → kb3
open Nat renaming le_of_ble_eq_true → ka5, le_refl → kc9
set_option linter.unusedVariables false
set_option linter.unusedSimpArgs false
/-! chapter 11: descriptors out of dice -/
set_option maxHeartbeats 4000000
set_option maxRecDepth 100000
theorem k89 : ∀ s : List Sp, jQ s → R32 (fl s)
  | [], _ => oO
  | p :: r, h => fun x hx => by
    have h1 : fZ p := h.1
    have h2 : p.1 = x ∨ p.2 = x ∨ x ∈ fl r := by
      rcases List.mem_cons.1 (show x ∈ p.1 :: p.2 :: fl r from hx) with e | e
      · exact .inl e.symm
      · rcases List.mem_cons.1 e with e | e
        · exact .inr (.inl e.symm)
        · exact .inr (.inr e)
    unfold fZ at h1
    rcases h2 with h2 | h2 | h2
    · omega
    · omega
    · exact k89 r h.2.2 x h2
theorem k7o {l : List Int} {n : Nat} (hl : l.length = n * 2) (h : jN l n = true) : R32 l ∧ n ≤ 64 := by
  obtain ⟨h1, h2⟩ := (wM hl).1 h
  exact ⟨by have := k89 _ h2; rwa [i9 n l hl] at this, h1⟩
theorem u1h {ms : List (List Int)} (h : oU ms = true) : RmW ms ∧ ka1 ms ≤ 16 ∧ ∀ x ∈ ms, ka1 x ≤ 8 := by
  obtain ⟨_, h2, h3⟩ := of_decide_eq_true h
  have h4 : ∀ x ∈ ms, jT x x.length = true := fun x hx => by
    obtain ⟨i, hi, e⟩ := List.mem_iff_getElem.1 hx
    have h5 := h3 i hi
    unfold vmE at h5
    rw [Bool.and_eq_true, ka8, List.getElem?_eq_getElem hi, Option.getD_some, e] at h5
    exact h5.1
  refine ⟨fun x hx => ?_, h2, fun x hx => (k8k (h4 x hx)).2⟩
  obtain ⟨c1, c2, _⟩ := (k74 rfl).1 (h4 x hx)
  exact ⟨fun y hy => by have := c2 y hy; omega, by omega⟩
theorem k7k {ms : List (List Int)} (h : ∀ x ∈ ms, ka1 x ≤ 8) : ∀ k, ka1 (bS ms k) ≤ k * 18
  | 0 => kc9 _
  | k + 1 => by
    have h1 := k7k h k
    have h2 : ka1 (ka0 ms k []) ≤ 8 := by
      rw [ka8]
      cases e : ms[k]? with
      | none => exact Nat.zero_le _
      | some l => exact h l (List.mem_of_getElem? e)
    rw [bS, ka4, mK]; omega
theorem k8l {b : Bx} (h : BxV b) : RbX b ∧ ka1 (wbX b) ≤ 1400 := by
  obtain ⟨h1, h2, h3⟩ := h
  obtain ⟨_, p2, p3, p4⟩ := sC h3
  obtain ⟨r1, r2⟩ := k7o h1.1 (wI p2).1
  obtain ⟨s1, s2⟩ := k7o h1.2.1 (wI p4).1
  obtain ⟨m1, m2, m3⟩ := u1h p3
  unfold KG at h2
  have h5 := k7k m3 b.m.length
  refine ⟨⟨by omega, r1, by omega, s1, by omega, by omega, m1⟩, ?_⟩
  unfold wbX a9
  rw [ka4, ka4, ka4, ka4, pbL_len, pbL_len, qJ, qJ]
  omega
theorem k4k {bs : List Bx} (h : BsV bs) : ∀ k, k ≤ bs.length → ka1 (bF bs k) ≤ k * 1400
  | 0, _ => kc9 _
  | k + 1, hk => by
    have h1 := k4k h k (by omega)
    have h2 := (k8l (h _ (eO (show k < bs.length by omega)))).2
    rw [bF, ka4]; omega
theorem u3y {bs : List Bx} (h : BsV bs) (hn : bs.length ≤ 8) : RbW bs ∧ ka1 (vF bs) ≤ 12000 := by
  refine ⟨fun b hb => (k8l (h b hb)).1, ?_⟩
  have := k4k h bs.length (kc9 _)
  unfold vF; rw [ka4, pbL_len]; omega
structure DeW (id : Int) (nm : List Int) (d1 d2 d3 d4 d5 : Int) (bs : List Bx) (n : Nat) : Prop where
  y : Byt nm
  l : 1 ≤ ka1 nm ∧ ka1 nm ≤ 64
  n : ka1 bs = n ∧ 1 ≤ n ∧ n ≤ 8
  v : BsV bs
  i : 0 ≤ id ∧ id ≤ 255
  d : (d1 = 1 ∨ d1 = 2) ∧ (0 ≤ d2 ∧ d2 ≤ 65535) ∧ (0 ≤ d3 ∧ d3 ≤ 1048576) ∧ (0 ≤ d4 ∧ d4 ≤ 2048) ∧ (0 ≤ d5 ∧ d5 ≤ 4096)
  b : yQ nm = true
theorem DeW.w {id : Int} {nm : List Int} {d1 d2 d3 d4 d5 : Int} {bs : List Bx} {n : Nat} (h : DeW id nm d1 d2 d3 d4 d5 bs n) : BsW bs := h.v.w
theorem DeW.r {id : Int} {nm : List Int} {d1 d2 d3 d4 d5 : Int} {bs : List Bx} {n : Nat} (h : DeW id nm d1 d2 d3 d4 d5 bs n) : RbW bs ∧ ka1 (vF bs) ≤ 12000 := u3y h.v (by have := h.n; omega)
theorem DeW.vd {id : Int} {nm : List Int} {d1 d2 d3 d4 d5 : Int} {bs : List Bx} {n : Nat} (h : DeW id nm d1 d2 d3 d4 d5 bs n) : dM nm d1 d2 d3 d4 d5 bs = true :=
  u1m h.b (by have h1 := h.d; have h2 := h.n; omega) (h.v.vb (by have := h.n; omega))
def bcD (l : List Int) : List Int := uY (kA l 2) (1 + kB l 2)
def vL (l : List Int) : List Bx := bbL (kA l 2) (1 + kB l 2)
theorem gO {l : List Int} (h : Byt l) : Byt (bcD l) := eQ (kF _ h) _
theorem eP {l : List Int} (h : Byt l) : 1 ≤ ka1 (vL l) ∧ ka1 (vL l) ≤ 2 := by
  unfold vL; rw [oL]
  have := kQ l 2 h; omega
theorem u40 {l : List Int} (h : Byt l) : BsV (vL l) := k8o (kF _ h) _
def lM : List (List Int) := [[100, 97, 99], [104, 100, 109, 105, 45, 49], [77, 105, 99, 46, 50]]
theorem k20 {k : Nat} (h : k < 3) : yQ (ka0 lM k []) = true ∧ Byt (ka0 lM k []) := by
  match k, h with
  | 0, _ => exact ⟨by decide, fun x hx => by have : x = 100 ∨ x = 97 ∨ x = 99 := by simpa [lM] using hx; 
                                             omega⟩
  | 1, _ => exact ⟨by decide, fun x hx => by have : x = 104 ∨ x = 100 ∨ x = 109 ∨ x = 105 ∨ x = 45 ∨ x = 49 := by simpa [lM] using hx; 
                                             omega⟩
  | 2, _ => exact ⟨by decide, fun x hx => by have : x = 77 ∨ x = 105 ∨ x = 99 ∨ x = 46 ∨ x = 50 := by simpa [lM] using hx; 
                                             omega⟩
theorem u3l {k : Nat} (h : k < 4) : 0 ≤ ka0 ([0, 66, 200, 7] : List Int) k 0 ∧ ka0 ([0, 66, 200, 7] : List Int) k 0 ≤ 2048 := by
  match k, h with
  | 0, _ => exact ⟨by decide, by decide⟩
  | 1, _ => exact ⟨by decide, by decide⟩
  | 2, _ => exact ⟨by decide, by decide⟩
  | 3, _ => exact ⟨by decide, by decide⟩
theorem fB {p : Prop} (h : p := by first | omega | (simp only [kR, kO, pbL_len, qT, qJ, qK, ka4, kb1, kb6, kb3, kb2, kb4, kc2, kd0, kc7, Nat.mul_one] <;> omega) | rfl) : p := h
abbrev hJ (l : List Int) (i : Nat) : BC := .ds [D.sl (dI .u8 (uY (kA l 2) i)) (ka1 (uY (kA l 2) i))]
theorem jL (l : List Int) (hb : Byt l) : Fun 27 [.c (.ptr 0 0), iE 1, iE 2] (kG [(0, some (66, .ds [D.sl (dI .u8 l) (ka1 l)]))]) 1 (.e (q1M (vL l))) (kG [(0, some (66, .ds [D.sl (dI .u8 (bcD l)) (ka1 (bcD l))]))]) 1 := by
  have hz1 : ka1 (vL l) = 1 + kB l 2 := oL _ _
  refine Fun.mk (n := 27) Try.func27 rfl rfl (ka5 rfl) ?_
  intro cx hcx
  refine kK [.no] True [(0, rV 0 0), (1, iV 1), (2, iV 2)] [(0, some (66, .ds [db l (ka1 l)]))] 1 trivial ?_
  refine kX [.no] True [(0, rV 0 0), (1, iV 1), (2, iV 2), (7, nV)] trivial ?_
  refine AW.seq ?_
  have hx1 : ((((((kB l 2) : Nat) : Int) < 2) ∨ ((kB l 2) = 0)) ∧ ((kB l 2) ≤ 255)) := kQ l (2 : Int) (kP : Byt l)
  have hx2 : (Byt (kA l 2)) := kF (2 : Int) (kP : Byt l)
  refine kK (kS 4 [.w, .w, .call [0] (uV (kB l 2)) [(0, some (66, .ds [db (kA l 2) (ka1 (kA l 2))]))] 1 [] none, .w, .no]) ((qL (1 : Int)) ∧ (qL (2 : Int)) ∧ (_) ∧ (qL (1 + (kB l 2 : Int)))) [(0, rV 0 0), (7, nV), (8, iV (1 + (kB l 2 : Int)))] [(0, some (66, .ds [db (kA l 2) (ka1 (kA l 2))]))] 1 ⟨⟨by omega, by omega⟩, ⟨by omega, by omega⟩, (qW l 2 (kP : Byt l)), ⟨by omega, by omega⟩⟩ ?_
  refine AW.block ?_
  refine AW.adoptS 7 4 78 rfl ?_
  refine kW 1 hcx (fun (x : {x : Nat × List Bx // match x with | (i, bs) => (i ≤ 1 + kB l 2) ∧ (bbL (kA l 2) i = bs) ∧ (ka1 bs = i)}) => match x with | ⟨(i, bs), _⟩ => (⟨[(0, rV 0 0), (7, oV 2 0 i 4), (8, iV ((1 + (kB l 2 : Int)) - (i : Int)))], [(0, some (66, (hJ l i))), (2, some (78, .ds (qC bs)))], 3⟩ : ES)) (fun x => match x with | ⟨(i, bs), _⟩ => 1 + kB l 2 - i) ⟨((0 : Nat), (([] : List Bx) : List Bx)), ⟨(by first | omega | assumption | simp), rfl, rfl⟩⟩ [(2, 1)] (P := (kN 0) ∧ (kN 0) ∧ (kN 0) ∧ ((((1 + (kB l 2 : Int)) - 0) : Int) = (1 + (kB l 2 : Int))) ∧ (([db (uY (kA l 2) 0) (ka1 (uY (kA l 2) 0))] : List D) = [db (kA l 2) (ka1 (kA l 2))]) ∧ (((qC ([] : List Bx)) : List D) = ([] : List D))) zk ⟨rfl, rfl, rfl, (by first | rfl | omega | assumption | (simp; done) | (simp; omega)), (by first | rfl | with_reducible assumption), (by first | rfl | with_reducible assumption)⟩ ?_
  rintro ⟨⟨i, bs⟩, hinv0⟩
  obtain ⟨hi, hB, hn⟩ : (i ≤ 1 + kB l 2) ∧ (bbL (kA l 2) i = bs) ∧ (ka1 bs = i) := hinv0
  refine uH (l := [(0, rV 0 0), (7, oV 2 0 i 4), (8, iV ((1 + (kB l 2 : Int)) - (i : Int)))]) (g := [(0, some (66, (hJ l i))), (2, some (78, .ds (qC bs)))]) (nx := 3) rfl rfl rfl ?_
  refine AW.seq ?_
  by_cases hx3 : ((0 : Int) < ((1 + (((kB l 2) : Nat) : Int)) - ((i : Nat) : Int)))
  · refine zr [.no, .b true] [0, 7, 8, 18] [0, 2] (((0 : Int) < ((1 + (kB l 2 : Int)) - (i : Int)))) [(0, rV 0 0), (7, oV 2 0 i 4), (8, iV ((1 + (kB l 2 : Int)) - ↑i)), (18, bV true)] [(0, some (66, (hJ l i))), (2, some (78, .ds (qC bs)))] 3 zo ?_
    refine vD ?_
    refine AW.seq ?_
    refine AW.block ?_
    refine cB [.no, .no, .call [0] (.e (.agg [iC (sH (uY (kA l 2) i)), .d (dl (sG (uY (kA l 2) i)) (o9 (uY (kA l 2) i))), .d (D.sl (k9 (gC (uY (kA l 2) i))) (ka1 (gC (uY (kA l 2) i)))), .d (dl (sF (uY (kA l 2) i)) (o8 (uY (kA l 2) i)))])) [(0, some (66, .ds [db (boD (uY (kA l 2) i)) (ka1 (boD (uY (kA l 2) i)))]))] 1 [] none, .no, .ap none (i + 1) (qC (bs ++ ([(cN (sH (uY (kA l 2) i)) (sG (uY (kA l 2) i)) (o9 (uY (kA l 2) i)) (gC (uY (kA l 2) i)) (sF (uY (kA l 2) i)) (o8 (uY (kA l 2) i)))] : List Bx))), .no] ((_) ∧ ([iD (sH (uY (kA l 2) i)), dl (sG (uY (kA l 2) i)) (o9 (uY (kA l 2) i)), D.sl (k9 (gC (uY (kA l 2) i))) (ka1 (gC (uY (kA l 2) i))), dl (sF (uY (kA l 2) i)) (o8 (uY (kA l 2) i))].length = 1 * 4) ∧ (((qC bs) : List D).length = i * 4) ∧ ((i + 1) * 80 ≤ 140737488355328) ∧ (i + 1 = (i + 1)) ∧ (((qC bs) : List D) ++ [iD (sH (uY (kA l 2) i)), dl (sG (uY (kA l 2) i)) (o9 (uY (kA l 2) i)), D.sl (k9 (gC (uY (kA l 2) i))) (ka1 (gC (uY (kA l 2) i))), dl (sF (uY (kA l 2) i)) (o8 (uY (kA l 2) i))] = (qC (bs ++ ([(cN (sH (uY (kA l 2) i)) (sG (uY (kA l 2) i)) (o9 (uY (kA l 2) i)) (gC (uY (kA l 2) i)) (sF (uY (kA l 2) i)) (o8 (uY (kA l 2) i)))] : List Bx))))) [(0, rV 0 0), (7, oV 4 0 (i + 1) 4), (8, iV ((1 + (kB l 2 : Int)) - ↑i))] [(0, some (66, .ds [db (boD (uY (kA l 2) i)) (ka1 (boD (uY (kA l 2) i)))])), (4, some (78, .ds (qC (bs ++ ([(cN (sH (uY (kA l 2) i)) (sG (uY (kA l 2) i)) (o9 (uY (kA l 2) i)) (gC (uY (kA l 2) i)) (sF (uY (kA l 2) i)) (o8 (uY (kA l 2) i)))] : List Bx)))))] 5 ⟨(u49 (uY (kA l 2) i) (eQ (kP : Byt (kA l 2)) _)), fB, fB, zo, zo, (xX bs (sH (uY (kA l 2) i)) (sG (uY (kA l 2) i)) (o9 (uY (kA l 2) i)) (gC (uY (kA l 2) i)) (ka1 (gC (uY (kA l 2) i))) (sF (uY (kA l 2) i)) (o8 (uY (kA l 2) i)) (by first | rfl | omega))⟩ ?_
    refine yD [.no, .w, .no] (qL (((1 + (kB l 2 : Int)) - (i : Int)) - 1)) [(0, rV 0 0), (7, oV 4 0 (i + 1) 4), (8, iV (((1 + (kB l 2 : Int)) - ↑i) - 1))] ⟨by omega, by omega⟩ ?_
    exact qS ⟨(((i + 1) : Nat), ((bs ++ ([(cN (sH (uY (kA l 2) i)) (sG (uY (kA l 2) i)) (o9 (uY (kA l 2) i)) (gC (uY (kA l 2) i)) (sF (uY (kA l 2) i)) (o8 (uY (kA l 2) i)))] : List Bx)) : List Bx)), ⟨(by first | omega | assumption | simp), (u63 hB), (by first | omega | (simp only [kR, kO, pbL_len, qT, qJ, ka4, kb1, kb6] <;> omega))⟩⟩ [(2, 4)] (P := (kN 0) ∧ (kN 0) ∧ (kN (i + 1)) ∧ ((((1 + (kB l 2 : Int)) - (((i + 1) : Nat) : Int)) : Int) = (((1 + (kB l 2 : Int)) - (i : Int)) - 1)) ∧ (([db (uY (kA l 2) (i + 1)) (ka1 (uY (kA l 2) (i + 1)))] : List D) = [db (boD (uY (kA l 2) i)) (ka1 (boD (uY (kA l 2) i)))]) ∧ (k8 (qC (bs ++ ([(cN (sH (uY (kA l 2) i)) (sG (uY (kA l 2) i)) (o9 (uY (kA l 2) i)) (gC (uY (kA l 2) i)) (sF (uY (kA l 2) i)) (o8 (uY (kA l 2) i)))] : List Bx))))) zk ⟨rfl, rfl, rfl, (by first | rfl | omega | assumption | (simp; done) | (simp; omega)), (by first | rfl | with_reducible assumption), rfl⟩ (show 1 + kB l 2 - (i + 1) < 1 + kB l 2 - i from (by first | omega | (show _ < _; simp; omega)))
  · refine zr [.no, .b false] [0, 7, 8, 18] [0, 2] (¬ ((0 : Int) < ((1 + (kB l 2 : Int)) - (i : Int)))) [(0, rV 0 0), (7, oV 2 0 i 4), (8, iV ((1 + (kB l 2 : Int)) - ↑i)), (18, bV false)] [(0, some (66, (hJ l i))), (2, some (78, .ds (qC bs)))] 3 zo ?_
    refine zf ?_
    refine AW.exit ?_
    refine kK [.no, .no] True [(6, oV 2 0 i 4)] [(0, some (66, (hJ l i))), (2, some (78, .ds (qC bs)))] 3 trivial ?_
    obtain rfl : i = (1 + (kB l 2)) := (by omega)
    refine AW.freeze 2 (l' := [(6, .e (vN bs (1 + (kB l 2))))]) (g' := [(0, some (66, .ds [db (uY (kA l 2) (1 + (kB l 2))) (ka1 (uY (kA l 2) (1 + (kB l 2))))]))]) rfl (FzS.cons rfl (.e (.c (@FzC.own 2 ((qC bs) : List D) 0 (1 + (kB l 2)) 4 true ((qC bs) : List D) (by rw [List.drop_zero, List.take_of_length_le (by first | omega | (simp only [kR, kO, pbL_len, qT, qJ, qK, ka4, kb1, kb6, kb3, kb2, kb4, kc2, kd0, kc7, Nat.mul_one] <;> omega))]) fB))) FzS.nil) (uO rfl rfl FzG.nil) ?_
    refine AW.ret ?_
    exact kC (.inr rfl) [] (P := (((qC (vL l)) : List D) = (qC bs)) ∧ (((ka1 (vL l)) : Nat) = (1 + (kB l 2))) ∧ (([db (bcD l) (ka1 (bcD l))] : List D) = [db (uY (kA l 2) (1 + (kB l 2))) (ka1 (uY (kA l 2) (1 + (kB l 2))))])) zk ⟨(by first | rfl | (rw [hB]; done) | (rw [hB]; rfl) | (unfold vL; rw [hB]; done) | (unfold vL; rw [hB]; rfl)), (by first | omega | rfl | assumption | (simp; done) | (simp; omega)), (by first | rfl | (rw [hB]; done) | (rw [hB]; rfl) | (unfold vL; rw [hB]; done) | (unfold vL; rw [hB]; rfl))⟩
abbrev kE (l : List Int) := kA (kA (kA (kA l 256) 3) 4) 200
abbrev uS (l : List Int) := bcD (kA (kA (kE l) 4) 4)
theorem x7 (l : List Int) (g : Int) (hb : Byt l) : Fun 12 [.c (.ptr 0 0), iE g] (kG [(0, some (66, .ds [D.sl (dI .u8 l) (ka1 l)]))]) 1 (.e (.agg [.d (D.lit (.int .u64 (((kB l 256) : Nat) : Int))), .d (D.lit (.string (strOfNums (ka0 lM (kB (kA l 256) 3) ([] : List Int))))), iC g, iC (((kB (kA (kA l 256) 3) 4) : Nat) : Int), iC (((kB (kA (kA (kA l 256) 3) 4) 200) : Nat) : Int), iC (ka0 ([0, 66, 200, 7] : List Int) (kB (kA (kA (kA (kA l 256) 3) 4) 200) 4) 0), iC (((kB (kA (kA (kA (kA (kA l 256) 3) 4) 200) 4) 4) : Nat) : Int), .d (D.sl (qC (vL (kA (kA (kA (kA (kA (kA l 256) 3) 4) 200) 4) 4))) (ka1 (vL (kA (kA (kA (kA (kA (kA l 256) 3) 4) 200) 4) 4))))])) (kG [(0, some (66, .ds [D.sl (dI .u8 (bcD (kA (kA (kA (kA (kA (kA l 256) 3) 4) 200) 4) 4))) (ka1 (bcD (kA (kA (kA (kA (kA (kA l 256) 3) 4) 200) 4) 4)))]))]) 1 := by
  refine Fun.mk (n := 28) Try.func12 rfl rfl (ka5 rfl) ?_
  intro cx hcx
  refine kK [.no] True [(0, rV 0 0), (1, iV g), (4, rV 1 0)] [(0, some (66, .ds [db l (ka1 l)])), (1, some (31, .ds [D.lit (.int .u64 0), D.lit (.string { data := #[] }), iD 0, iD 0, iD 0, iD 0, iD 0, qI]))] 2 trivial ?_
  by_cases hx5 : ((((kB (kA l 256) 3) : Nat) : Int) = 0)
  · have hx6 : ((((((kB l 256) : Nat) : Int) < 256) ∨ ((kB l 256) = 0)) ∧ ((kB l 256) ≤ 255)) := kQ l (256 : Int) (kP : Byt l)
    have hx7 : (Byt (kA l 256)) := kF (256 : Int) (kP : Byt l)
    have hx8 : ((((((kB (kA l 256) 3) : Nat) : Int) < 3) ∨ ((kB (kA l 256) 3) = 0)) ∧ ((kB (kA l 256) 3) ≤ 255)) := kQ (kA l 256) (3 : Int) (kP : Byt (kA l 256))
    have hx9 : (Byt (kA (kA l 256) 3)) := kF (3 : Int) (kP : Byt (kA l 256))
    have hx10 : ((((((kB (kA (kA l 256) 3) 4) : Nat) : Int) < 4) ∨ ((kB (kA (kA l 256) 3) 4) = 0)) ∧ ((kB (kA (kA l 256) 3) 4) ≤ 255)) := kQ (kA (kA l 256) 3) (4 : Int) (kP : Byt (kA (kA l 256) 3))
    have hx11 : (Byt (kA (kA (kA l 256) 3) 4)) := kF (4 : Int) (kP : Byt (kA (kA l 256) 3))
    have hx12 : ((((((kB (kA (kA (kA l 256) 3) 4) 200) : Nat) : Int) < 200) ∨ ((kB (kA (kA (kA l 256) 3) 4) 200) = 0)) ∧ ((kB (kA (kA (kA l 256) 3) 4) 200) ≤ 255)) := kQ (kA (kA (kA l 256) 3) 4) (200 : Int) (kP : Byt (kA (kA (kA l 256) 3) 4))
    have hx13 : (Byt (kE l)) := kF (200 : Int) (kP : Byt (kA (kA (kA l 256) 3) 4))
    have hx14 : ((((((kB (kE l) 4) : Nat) : Int) < 4) ∨ ((kB (kE l) 4) = 0)) ∧ ((kB (kE l) 4) ≤ 255)) := kQ (kE l) (4 : Int) (kP : Byt (kE l))
    have hx15 : (Byt (kA (kE l) 4)) := kF (4 : Int) (kP : Byt (kE l))
    have hx16 : 0 ≤ (ka0 ([0, 66, 200, 7] : List Int) (kB (kE l) 4) 0) ∧ (ka0 ([0, 66, 200, 7] : List Int) (kB (kE l) 4) 0) ≤ 200 := nM (l := ([0, 66, 200, 7] : List Int)) (a := 0) (b := 200) (by decide) _ (show _ < 4 by omega)
    have hx17 : ((((((kB (kA (kE l) 4) 4) : Nat) : Int) < 4) ∨ ((kB (kA (kE l) 4) 4) = 0)) ∧ ((kB (kA (kE l) 4) 4) ≤ 255)) := kQ (kA (kE l) 4) (4 : Int) (kP : Byt (kA (kE l) 4))
    have hx18 : (Byt (kA (kA (kE l) 4) 4)) := kF (4 : Int) (kP : Byt (kA (kE l) 4))
    have hx19 : (((1 : Nat) ≤ (ka1 (vL (kA (kA (kE l) 4) 4)))) ∧ ((ka1 (vL (kA (kA (kE l) 4) 4))) ≤ 2)) := (eP (kP : Byt (kA (kA (kE l) 4) 4)))
    have hx20 : (BsW (vL (kA (kA (kE l) 4) 4))) := (x1 _ _)
    have hx21 : (Byt (uS l)) := (gO (kP : Byt (kA (kA (kE l) 4) 4)))
    refine kK [.no, .call [0] (uV (kB l 256)) [(0, some (66, .ds [db (kA l 256) (ka1 (kA l 256))]))] 1 [] none, .w, .no, .no, .call [0] (uV (kB (kA l 256) 3)) [(0, some (66, .ds [db (kA (kA l 256) 3) (ka1 (kA (kA l 256) 3))]))] 1 [] none, .n2 0 0, .no, .no, .no, .call [0] (uV (kB (kA (kA l 256) 3) 4)) [(0, some (66, .ds [db (kA (kA (kA l 256) 3) 4) (ka1 (kA (kA (kA l 256) 3) 4))]))] 1 [] none, .no, .call [0] (iV (kB (kA (kA (kA l 256) 3) 4) 200 : Int)) [(0, some (66, .ds [db (kE l) (ka1 (kE l))]))] 1 [] none, .no, .no, .call [0] (uV (kB (kE l) 4)) [(0, some (66, .ds [db (kA (kE l) 4) (ka1 (kA (kE l) 4))]))] 1 [] none, .n2 (kB (kE l) 4) (kB (kE l) 4), .d (D.lit (.int .i64 (ka0 ([0, 66, 200, 7] : List Int) (kB (kE l) 4) 0))), .no, .call [0] (uV (kB (kA (kE l) 4) 4)) [(0, some (66, .ds [db (kA (kA (kE l) 4) 4) (ka1 (kA (kA (kE l) 4) 4))]))] 1 [] none, .no, .call [0] (.e (q1M (vL (kA (kA (kE l) 4) 4)))) [(0, some (66, .ds [db (uS l) (ka1 (uS l))]))] 1 [] none, .no, .no] ((_) ∧ (0 ≤ (kB l 256 : Int) ∧ (kB l 256 : Int) ≤ 18446744073709551615) ∧ (_) ∧ (((kB (kA l 256) 3 : Int) : Int) = 0) ∧ ((0 : Nat) < 3) ∧ ((0 : Nat) + 0 * 1 = 0) ∧ (_) ∧ (_) ∧ (_) ∧ (kM (kB (kE l) 4 : Int)) ∧ ((kB (kE l) 4) < 4) ∧ ((0 : Nat) + (kB (kE l) 4) * 1 = (kB (kE l) 4)) ∧ ([iD 0, iD 66, iD 200, iD 7][(kB (kE l) 4)]? = some (D.lit (.int .i64 (ka0 ([0, 66, 200, 7] : List Int) (kB (kE l) 4) 0)))) ∧ (_) ∧ (_)) [(4, rV 1 0)] [(0, some (66, .ds [db (uS l) (ka1 (uS l))])), (1, some (31, .ds [D.lit (.int .u64 (kB l 256 : Int)), D.lit ((.string (ByteArray.mk #[100, 97, 99]))), iD g, uD (kB (kA (kA l 256) 3) 4), iD (kB (kA (kA (kA l 256) 3) 4) 200 : Int), iD (ka0 ([0, 66, 200, 7] : List Int) (kB (kE l) 4) 0), uD (kB (kA (kE l) 4) 4), D.sl (qC (vL (kA (kA (kE l) 4) 4))) (ka1 (vL (kA (kA (kE l) 4) 4)))]))] 4 ⟨(qW l 256 (kP : Byt l)), ⟨by omega, by omega⟩, (qW (kA l 256) 3 (kP : Byt (kA l 256))), (by first | rfl | omega), zo, zo, (qW (kA (kA l 256) 3) 4 (kP : Byt (kA (kA l 256) 3))), (qW (kA (kA (kA l 256) 3) 4) 200 (kP : Byt (kA (kA (kA l 256) 3) 4))), (qW (kE l) 4 (kP : Byt (kE l))), rfl, zo, zo, (dW .i64 ([0, 66, 200, 7] : List Int) _ fB), (qW (kA (kE l) 4) 4 (kP : Byt (kA (kE l) 4))), (jL (kA (kA (kE l) 4) 4) (kP : Byt (kA (kA (kE l) 4) 4)))⟩ ?_
    refine AW.ret ?_
    exact kC (.inr rfl) [] (P := (kM (kB l 256 : Int)) ∧ ((.string (strOfNums (ka0 lM (kB (kA l 256) 3) ([] : List Int))) : Value) = .string (ByteArray.mk #[100, 97, 99])) ∧ (kM g) ∧ (kM (kB (kA (kA l 256) 3) 4 : Int)) ∧ (kM (kB (kA (kA (kA l 256) 3) 4) 200 : Int)) ∧ (kM (ka0 ([0, 66, 200, 7] : List Int) (kB (kE l) 4) 0)) ∧ (kM (kB (kA (kE l) 4) 4 : Int)) ∧ (k8 (qC (vL (kA (kA (kE l) 4) 4)))) ∧ (kN (ka1 (vL (kA (kA (kE l) 4) 4)))) ∧ (k8 [db (uS l) (ka1 (uS l))])) zk ⟨rfl, (congrArg (fun x9 => Value.string (strOfNums x9)) (show (ka0 lM (kB (kA l 256) 3) ([] : List Int)) = ([100, 97, 99] : List Int) from (by first | (rw [show kB (kA l 256) 3 = 0 by omega]; rfl) | (rw [show kB (kA l 256) 3 = 1 by omega]; rfl) | (rw [show kB (kA l 256) 3 = 2 by omega]; rfl)))), rfl, rfl, rfl, rfl, rfl, rfl, rfl, rfl⟩
  · by_cases hx26 : ((((kB (kA l 256) 3) : Nat) : Int) = 1)
    · have hx27 : ((((((kB l 256) : Nat) : Int) < 256) ∨ ((kB l 256) = 0)) ∧ ((kB l 256) ≤ 255)) := kQ l (256 : Int) (kP : Byt l)
      have hx28 : (Byt (kA l 256)) := kF (256 : Int) (kP : Byt l)
      have hx29 : ((((((kB (kA l 256) 3) : Nat) : Int) < 3) ∨ ((kB (kA l 256) 3) = 0)) ∧ ((kB (kA l 256) 3) ≤ 255)) := kQ (kA l 256) (3 : Int) (kP : Byt (kA l 256))
      have hx30 : (Byt (kA (kA l 256) 3)) := kF (3 : Int) (kP : Byt (kA l 256))
      have hx31 : ((((((kB (kA (kA l 256) 3) 4) : Nat) : Int) < 4) ∨ ((kB (kA (kA l 256) 3) 4) = 0)) ∧ ((kB (kA (kA l 256) 3) 4) ≤ 255)) := kQ (kA (kA l 256) 3) (4 : Int) (kP : Byt (kA (kA l 256) 3))
      have hx32 : (Byt (kA (kA (kA l 256) 3) 4)) := kF (4 : Int) (kP : Byt (kA (kA l 256) 3))
      have hx33 : ((((((kB (kA (kA (kA l 256) 3) 4) 200) : Nat) : Int) < 200) ∨ ((kB (kA (kA (kA l 256) 3) 4) 200) = 0)) ∧ ((kB (kA (kA (kA l 256) 3) 4) 200) ≤ 255)) := kQ (kA (kA (kA l 256) 3) 4) (200 : Int) (kP : Byt (kA (kA (kA l 256) 3) 4))
      have hx34 : (Byt (kE l)) := kF (200 : Int) (kP : Byt (kA (kA (kA l 256) 3) 4))
      have hx35 : ((((((kB (kE l) 4) : Nat) : Int) < 4) ∨ ((kB (kE l) 4) = 0)) ∧ ((kB (kE l) 4) ≤ 255)) := kQ (kE l) (4 : Int) (kP : Byt (kE l))
      have hx36 : (Byt (kA (kE l) 4)) := kF (4 : Int) (kP : Byt (kE l))
      have hx37 : 0 ≤ (ka0 ([0, 66, 200, 7] : List Int) (kB (kE l) 4) 0) ∧ (ka0 ([0, 66, 200, 7] : List Int) (kB (kE l) 4) 0) ≤ 200 := nM (l := ([0, 66, 200, 7] : List Int)) (a := 0) (b := 200) (by decide) _ (show _ < 4 by omega)
      have hx38 : ((((((kB (kA (kE l) 4) 4) : Nat) : Int) < 4) ∨ ((kB (kA (kE l) 4) 4) = 0)) ∧ ((kB (kA (kE l) 4) 4) ≤ 255)) := kQ (kA (kE l) 4) (4 : Int) (kP : Byt (kA (kE l) 4))
      have hx39 : (Byt (kA (kA (kE l) 4) 4)) := kF (4 : Int) (kP : Byt (kA (kE l) 4))
      have hx40 : (((1 : Nat) ≤ (ka1 (vL (kA (kA (kE l) 4) 4)))) ∧ ((ka1 (vL (kA (kA (kE l) 4) 4))) ≤ 2)) := (eP (kP : Byt (kA (kA (kE l) 4) 4)))
      have hx41 : (BsW (vL (kA (kA (kE l) 4) 4))) := (x1 _ _)
      have hx42 : (Byt (uS l)) := (gO (kP : Byt (kA (kA (kE l) 4) 4)))
      refine kK [.no, .call [0] (uV (kB l 256)) [(0, some (66, .ds [db (kA l 256) (ka1 (kA l 256))]))] 1 [] none, .w, .no, .no, .call [0] (uV (kB (kA l 256) 3)) [(0, some (66, .ds [db (kA (kA l 256) 3) (ka1 (kA (kA l 256) 3))]))] 1 [] none, .n2 1 1, .no, .no, .no, .call [0] (uV (kB (kA (kA l 256) 3) 4)) [(0, some (66, .ds [db (kA (kA (kA l 256) 3) 4) (ka1 (kA (kA (kA l 256) 3) 4))]))] 1 [] none, .no, .call [0] (iV (kB (kA (kA (kA l 256) 3) 4) 200 : Int)) [(0, some (66, .ds [db (kE l) (ka1 (kE l))]))] 1 [] none, .no, .no, .call [0] (uV (kB (kE l) 4)) [(0, some (66, .ds [db (kA (kE l) 4) (ka1 (kA (kE l) 4))]))] 1 [] none, .n2 (kB (kE l) 4) (kB (kE l) 4), .d (D.lit (.int .i64 (ka0 ([0, 66, 200, 7] : List Int) (kB (kE l) 4) 0))), .no, .call [0] (uV (kB (kA (kE l) 4) 4)) [(0, some (66, .ds [db (kA (kA (kE l) 4) 4) (ka1 (kA (kA (kE l) 4) 4))]))] 1 [] none, .no, .call [0] (.e (q1M (vL (kA (kA (kE l) 4) 4)))) [(0, some (66, .ds [db (uS l) (ka1 (uS l))]))] 1 [] none, .no, .no] ((_) ∧ (0 ≤ (kB l 256 : Int) ∧ (kB l 256 : Int) ≤ 18446744073709551615) ∧ (_) ∧ (((kB (kA l 256) 3 : Int) : Int) = 1) ∧ ((1 : Nat) < 3) ∧ ((0 : Nat) + 1 * 1 = 1) ∧ (_) ∧ (_) ∧ (_) ∧ (kM (kB (kE l) 4 : Int)) ∧ ((kB (kE l) 4) < 4) ∧ ((0 : Nat) + (kB (kE l) 4) * 1 = (kB (kE l) 4)) ∧ ([iD 0, iD 66, iD 200, iD 7][(kB (kE l) 4)]? = some (D.lit (.int .i64 (ka0 ([0, 66, 200, 7] : List Int) (kB (kE l) 4) 0)))) ∧ (_) ∧ (_)) [(4, rV 1 0)] [(0, some (66, .ds [db (uS l) (ka1 (uS l))])), (1, some (31, .ds [D.lit (.int .u64 (kB l 256 : Int)), D.lit ((.string (ByteArray.mk #[104, 100, 109, 105, 45, 49]))), iD g, uD (kB (kA (kA l 256) 3) 4), iD (kB (kA (kA (kA l 256) 3) 4) 200 : Int), iD (ka0 ([0, 66, 200, 7] : List Int) (kB (kE l) 4) 0), uD (kB (kA (kE l) 4) 4), D.sl (qC (vL (kA (kA (kE l) 4) 4))) (ka1 (vL (kA (kA (kE l) 4) 4)))]))] 4 ⟨(qW l 256 (kP : Byt l)), ⟨by omega, by omega⟩, (qW (kA l 256) 3 (kP : Byt (kA l 256))), (by first | rfl | omega), zo, zo, (qW (kA (kA l 256) 3) 4 (kP : Byt (kA (kA l 256) 3))), (qW (kA (kA (kA l 256) 3) 4) 200 (kP : Byt (kA (kA (kA l 256) 3) 4))), (qW (kE l) 4 (kP : Byt (kE l))), rfl, zo, zo, (dW .i64 ([0, 66, 200, 7] : List Int) _ fB), (qW (kA (kE l) 4) 4 (kP : Byt (kA (kE l) 4))), (jL (kA (kA (kE l) 4) 4) (kP : Byt (kA (kA (kE l) 4) 4)))⟩ ?_
      refine AW.ret ?_
      exact kC (.inr rfl) [] (P := (kM (kB l 256 : Int)) ∧ ((.string (strOfNums (ka0 lM (kB (kA l 256) 3) ([] : List Int))) : Value) = .string (ByteArray.mk #[104, 100, 109, 105, 45, 49])) ∧ (kM g) ∧ (kM (kB (kA (kA l 256) 3) 4 : Int)) ∧ (kM (kB (kA (kA (kA l 256) 3) 4) 200 : Int)) ∧ (kM (ka0 ([0, 66, 200, 7] : List Int) (kB (kE l) 4) 0)) ∧ (kM (kB (kA (kE l) 4) 4 : Int)) ∧ (k8 (qC (vL (kA (kA (kE l) 4) 4)))) ∧ (kN (ka1 (vL (kA (kA (kE l) 4) 4)))) ∧ (k8 [db (uS l) (ka1 (uS l))])) zk ⟨rfl, (congrArg (fun x9 => Value.string (strOfNums x9)) (show (ka0 lM (kB (kA l 256) 3) ([] : List Int)) = ([104, 100, 109, 105, 45, 49] : List Int) from (by first | (rw [show kB (kA l 256) 3 = 0 by omega]; rfl) | (rw [show kB (kA l 256) 3 = 1 by omega]; rfl) | (rw [show kB (kA l 256) 3 = 2 by omega]; rfl)))), rfl, rfl, rfl, rfl, rfl, rfl, rfl, rfl⟩
    · have hx43 : ((((((kB l 256) : Nat) : Int) < 256) ∨ ((kB l 256) = 0)) ∧ ((kB l 256) ≤ 255)) := kQ l (256 : Int) (kP : Byt l)
      have hx44 : (Byt (kA l 256)) := kF (256 : Int) (kP : Byt l)
      have hx45 : ((((((kB (kA l 256) 3) : Nat) : Int) < 3) ∨ ((kB (kA l 256) 3) = 0)) ∧ ((kB (kA l 256) 3) ≤ 255)) := kQ (kA l 256) (3 : Int) (kP : Byt (kA l 256))
      have hx46 : (Byt (kA (kA l 256) 3)) := kF (3 : Int) (kP : Byt (kA l 256))
      have hx47 : ((((((kB (kA (kA l 256) 3) 4) : Nat) : Int) < 4) ∨ ((kB (kA (kA l 256) 3) 4) = 0)) ∧ ((kB (kA (kA l 256) 3) 4) ≤ 255)) := kQ (kA (kA l 256) 3) (4 : Int) (kP : Byt (kA (kA l 256) 3))
      have hx48 : (Byt (kA (kA (kA l 256) 3) 4)) := kF (4 : Int) (kP : Byt (kA (kA l 256) 3))
      have hx49 : ((((((kB (kA (kA (kA l 256) 3) 4) 200) : Nat) : Int) < 200) ∨ ((kB (kA (kA (kA l 256) 3) 4) 200) = 0)) ∧ ((kB (kA (kA (kA l 256) 3) 4) 200) ≤ 255)) := kQ (kA (kA (kA l 256) 3) 4) (200 : Int) (kP : Byt (kA (kA (kA l 256) 3) 4))
      have hx50 : (Byt (kE l)) := kF (200 : Int) (kP : Byt (kA (kA (kA l 256) 3) 4))
      have hx51 : ((((((kB (kE l) 4) : Nat) : Int) < 4) ∨ ((kB (kE l) 4) = 0)) ∧ ((kB (kE l) 4) ≤ 255)) := kQ (kE l) (4 : Int) (kP : Byt (kE l))
      have hx52 : (Byt (kA (kE l) 4)) := kF (4 : Int) (kP : Byt (kE l))
      have hx53 : 0 ≤ (ka0 ([0, 66, 200, 7] : List Int) (kB (kE l) 4) 0) ∧ (ka0 ([0, 66, 200, 7] : List Int) (kB (kE l) 4) 0) ≤ 200 := nM (l := ([0, 66, 200, 7] : List Int)) (a := 0) (b := 200) (by decide) _ (show _ < 4 by omega)
      have hx54 : ((((((kB (kA (kE l) 4) 4) : Nat) : Int) < 4) ∨ ((kB (kA (kE l) 4) 4) = 0)) ∧ ((kB (kA (kE l) 4) 4) ≤ 255)) := kQ (kA (kE l) 4) (4 : Int) (kP : Byt (kA (kE l) 4))
      have hx55 : (Byt (kA (kA (kE l) 4) 4)) := kF (4 : Int) (kP : Byt (kA (kE l) 4))
      have hx56 : (((1 : Nat) ≤ (ka1 (vL (kA (kA (kE l) 4) 4)))) ∧ ((ka1 (vL (kA (kA (kE l) 4) 4))) ≤ 2)) := (eP (kP : Byt (kA (kA (kE l) 4) 4)))
      have hx57 : (BsW (vL (kA (kA (kE l) 4) 4))) := (x1 _ _)
      have hx58 : (Byt (uS l)) := (gO (kP : Byt (kA (kA (kE l) 4) 4)))
      refine kK [.no, .call [0] (uV (kB l 256)) [(0, some (66, .ds [db (kA l 256) (ka1 (kA l 256))]))] 1 [] none, .w, .no, .no, .call [0] (uV (kB (kA l 256) 3)) [(0, some (66, .ds [db (kA (kA l 256) 3) (ka1 (kA (kA l 256) 3))]))] 1 [] none, .n2 2 2, .no, .no, .no, .call [0] (uV (kB (kA (kA l 256) 3) 4)) [(0, some (66, .ds [db (kA (kA (kA l 256) 3) 4) (ka1 (kA (kA (kA l 256) 3) 4))]))] 1 [] none, .no, .call [0] (iV (kB (kA (kA (kA l 256) 3) 4) 200 : Int)) [(0, some (66, .ds [db (kE l) (ka1 (kE l))]))] 1 [] none, .no, .no, .call [0] (uV (kB (kE l) 4)) [(0, some (66, .ds [db (kA (kE l) 4) (ka1 (kA (kE l) 4))]))] 1 [] none, .n2 (kB (kE l) 4) (kB (kE l) 4), .d (D.lit (.int .i64 (ka0 ([0, 66, 200, 7] : List Int) (kB (kE l) 4) 0))), .no, .call [0] (uV (kB (kA (kE l) 4) 4)) [(0, some (66, .ds [db (kA (kA (kE l) 4) 4) (ka1 (kA (kA (kE l) 4) 4))]))] 1 [] none, .no, .call [0] (.e (q1M (vL (kA (kA (kE l) 4) 4)))) [(0, some (66, .ds [db (uS l) (ka1 (uS l))]))] 1 [] none, .no, .no] ((_) ∧ (0 ≤ (kB l 256 : Int) ∧ (kB l 256 : Int) ≤ 18446744073709551615) ∧ (_) ∧ (((kB (kA l 256) 3 : Int) : Int) = 2) ∧ ((2 : Nat) < 3) ∧ ((0 : Nat) + 2 * 1 = 2) ∧ (_) ∧ (_) ∧ (_) ∧ (kM (kB (kE l) 4 : Int)) ∧ ((kB (kE l) 4) < 4) ∧ ((0 : Nat) + (kB (kE l) 4) * 1 = (kB (kE l) 4)) ∧ ([iD 0, iD 66, iD 200, iD 7][(kB (kE l) 4)]? = some (D.lit (.int .i64 (ka0 ([0, 66, 200, 7] : List Int) (kB (kE l) 4) 0)))) ∧ (_) ∧ (_)) [(4, rV 1 0)] [(0, some (66, .ds [db (uS l) (ka1 (uS l))])), (1, some (31, .ds [D.lit (.int .u64 (kB l 256 : Int)), D.lit ((.string (ByteArray.mk #[77, 105, 99, 46, 50]))), iD g, uD (kB (kA (kA l 256) 3) 4), iD (kB (kA (kA (kA l 256) 3) 4) 200 : Int), iD (ka0 ([0, 66, 200, 7] : List Int) (kB (kE l) 4) 0), uD (kB (kA (kE l) 4) 4), D.sl (qC (vL (kA (kA (kE l) 4) 4))) (ka1 (vL (kA (kA (kE l) 4) 4)))]))] 4 ⟨(qW l 256 (kP : Byt l)), ⟨by omega, by omega⟩, (qW (kA l 256) 3 (kP : Byt (kA l 256))), (by first | rfl | omega), zo, zo, (qW (kA (kA l 256) 3) 4 (kP : Byt (kA (kA l 256) 3))), (qW (kA (kA (kA l 256) 3) 4) 200 (kP : Byt (kA (kA (kA l 256) 3) 4))), (qW (kE l) 4 (kP : Byt (kE l))), rfl, zo, zo, (dW .i64 ([0, 66, 200, 7] : List Int) _ fB), (qW (kA (kE l) 4) 4 (kP : Byt (kA (kE l) 4))), (jL (kA (kA (kE l) 4) 4) (kP : Byt (kA (kA (kE l) 4) 4)))⟩ ?_
      refine AW.ret ?_
      exact kC (.inr rfl) [] (P := (kM (kB l 256 : Int)) ∧ ((.string (strOfNums (ka0 lM (kB (kA l 256) 3) ([] : List Int))) : Value) = .string (ByteArray.mk #[77, 105, 99, 46, 50])) ∧ (kM g) ∧ (kM (kB (kA (kA l 256) 3) 4 : Int)) ∧ (kM (kB (kA (kA (kA l 256) 3) 4) 200 : Int)) ∧ (kM (ka0 ([0, 66, 200, 7] : List Int) (kB (kE l) 4) 0)) ∧ (kM (kB (kA (kE l) 4) 4 : Int)) ∧ (k8 (qC (vL (kA (kA (kE l) 4) 4)))) ∧ (kN (ka1 (vL (kA (kA (kE l) 4) 4)))) ∧ (k8 [db (uS l) (ka1 (uS l))])) zk ⟨rfl, (congrArg (fun x9 => Value.string (strOfNums x9)) (show (ka0 lM (kB (kA l 256) 3) ([] : List Int)) = ([77, 105, 99, 46, 50] : List Int) from (by first | (rw [show kB (kA l 256) 3 = 0 by omega]; rfl) | (rw [show kB (kA l 256) 3 = 1 by omega]; rfl) | (rw [show kB (kA l 256) 3 = 2 by omega]; rfl)))), rfl, rfl, rfl, rfl, rfl, rfl, rfl, rfl⟩
theorem u3b (l : List Int) (g : Int) (hb : Byt l) (hg : g = 1 ∨ g = 2) : DeW (((kB (l) 256 : Nat) : Int)) (ka0 lM (kB (kA l 256) 3) []) (g) (((kB (kA (kA l 256) 3) 4 : Nat) : Int)) (((kB (kA (kA (kA l 256) 3) 4) 200 : Nat) : Int)) (ka0 ([0, 66, 200, 7] : List Int) (kB (kA (kA (kA (kA l 256) 3) 4) 200) 4) 0) (((kB (kA (kA (kA (kA (kA l 256) 3) 4) 200) 4) 4 : Nat) : Int)) (vL (kA (kA (kA (kA (kA (kA l 256) 3) 4) 200) 4) 4)) (ka1 (vL (kA (kA (kA (kA (kA (kA l 256) 3) 4) 200) 4) 4))) := ⟨(k20 (by have h9 := kQ (kA l 256) 3 (kF 256 hb); omega)).2, (k23 (k20 (by have h9 := kQ (kA l 256) 3 (kF 256 hb); omega)).1), ⟨rfl, (eP (kF 4 (kF 4 (kF 200 (kF 4 (kF 3 (kF 256 hb))))))).1, Nat.le_trans (eP (kF 4 (kF 4 (kF 200 (kF 4 (kF 3 (kF 256 hb))))))).2 (by omega)⟩, u40 (kF 4 (kF 4 (kF 200 (kF 4 (kF 3 (kF 256 hb)))))), (by have h9 := kQ (l) 256 hb; omega), ⟨hg, (by have h9 := kQ (kA (kA l 256) 3) 4 (kF 3 (kF 256 hb)); omega), (by have h9 := kQ (kA (kA (kA l 256) 3) 4) 200 (kF 4 (kF 3 (kF 256 hb))); omega), u3l (by have h9 := kQ (kA (kA (kA (kA l 256) 3) 4) 200) 4 (kF 200 (kF 4 (kF 3 (kF 256 hb)))); omega), (by have h9 := kQ (kA (kA (kA (kA (kA l 256) 3) 4) 200) 4) 4 (kF 4 (kF 200 (kF 4 (kF 3 (kF 256 hb))))); omega)⟩, (k20 (by have h9 := kQ (kA l 256) 3 (kF 256 hb); omega)).1⟩
theorem k79 (l : List Int) (g : Int) (hb : Byt l) (hg : g = 1 ∨ g = 2) : ∃ (id : Int) (nm : List Int) (d2 : Int) (d3 : Int) (d4 : Int) (d5 : Int) (bs : List Bx) (n : Nat) (q : List Int), (DeW id nm g d2 d3 d4 d5 bs n) ∧ (Byt q) ∧ (Fun 12 [.c (.ptr 0 0), iE g] (kG [(0, some (66, .ds [D.sl (dI .u8 l) (ka1 l)]))]) 1 (.e (.agg [.d (D.lit (.int .u64 id)), .d (D.lit (.string (strOfNums nm))), iC g, iC d2, iC d3, iC d4, iC d5, .d (D.sl (qC bs) n)])) (kG [(0, some (66, .ds [D.sl (dI .u8 q) (ka1 q)]))]) 1) := ⟨(((kB l 256) : Nat) : Int), (ka0 lM (kB (kA l 256) 3) ([] : List Int)), (((kB (kA (kA l 256) 3) 4) : Nat) : Int), (((kB (kA (kA (kA l 256) 3) 4) 200) : Nat) : Int), (ka0 ([0, 66, 200, 7] : List Int) (kB (kA (kA (kA (kA l 256) 3) 4) 200) 4) 0), (((kB (kA (kA (kA (kA (kA l 256) 3) 4) 200) 4) 4) : Nat) : Int), (vL (kA (kA (kA (kA (kA (kA l 256) 3) 4) 200) 4) 4)), (ka1 (vL (kA (kA (kA (kA (kA (kA l 256) 3) 4) 200) 4) 4))), (bcD (kA (kA (kA (kA (kA (kA l 256) 3) 4) 200) 4) 4)), u3b l g hb hg, gO (kF 4 (kF 4 (kF 200 (kF 4 (kF 3 (kF 256 hb)))))), x7 l g hb⟩
end Go.Proofs.Ytalbpleglapihaa
