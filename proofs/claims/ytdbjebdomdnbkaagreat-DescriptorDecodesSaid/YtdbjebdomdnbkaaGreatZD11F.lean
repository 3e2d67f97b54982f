/- Descriptors out of dice. No statement is proved here. -/
import Derived.Test.YtdbjebdomdnbkaaGreatZD11E
namespace Go.Proofs.YtdbjebdomdnbkaaGreat
open Go.ChangeShapes Go.WideShapes Go.ChangeAt Go.RowKit
open List renaming getD → ka0, getD_eq_getElem?_getD → ka8, length → ka1, length_append → ka4, length_cons → kb3, length_drop → kb9, length_map → kc8, length_nil → kb6, length_replicate → kb8, length_reverse → kc6, length_set → kc4, length_take → kb4
open Nat renaming le_of_ble_eq_true → ka3, le_refl → kc7
set_option linter.unusedVariables false
set_option linter.unusedSimpArgs false
/-! chapter 11: descriptors out of dice -/
set_option maxHeartbeats 4000000
set_option maxRecDepth 100000
theorem u0p : ∀ s : List Sp, l0 s → R32 (fl s)
  | [], _ => rF
  | p :: r, h => fun x hx => by
    have h1 : iS p := h.1
    have h2 : p.1 = x ∨ p.2 = x ∨ x ∈ fl r := by
      rcases List.mem_cons.1 (show x ∈ p.1 :: p.2 :: fl r from hx) with e | e
      · exact .inl e.symm
      · rcases List.mem_cons.1 e with e | e
        · exact .inr (.inl e.symm)
        · exact .inr (.inr e)
    unfold iS at h1
    rcases h2 with h2 | h2 | h2
    · omega
    · omega
    · exact u0p r h.2.2 x h2
theorem k9t {l : List Int} {n : Nat} (hl : l.length = n * 2) (h : fF l n = true) : R32 l ∧ n ≤ 64 := by
  obtain ⟨h1, h2⟩ := (zE hl).1 h
  exact ⟨by have := u0p _ h2; rwa [lM n l hl] at this, h1⟩
theorem u4h {ms : List (List Int)} (h : rP ms = true) : RmW ms ∧ ka1 ms ≤ 16 ∧ ∀ x ∈ ms, ka1 x ≤ 8 := by
  obtain ⟨_, h2, h3⟩ := of_decide_eq_true h
  have h4 : ∀ x ∈ ms, fG x x.length = true := fun x hx => by
    obtain ⟨i, hi, e⟩ := List.mem_iff_getElem.1 hx
    have h5 := h3 i hi
    unfold zD at h5
    rw [Bool.and_eq_true, ka8, List.getElem?_eq_getElem hi, Option.getD_some, e] at h5
    exact h5.1
  refine ⟨fun x hx => ?_, h2, fun x hx => (u0z (h4 x hx)).2⟩
  obtain ⟨c1, c2, _⟩ := (k98 rfl).1 (h4 x hx)
  exact ⟨fun y hy => by have := c2 y hy; omega, by omega⟩
theorem k9p {ms : List (List Int)} (h : ∀ x ∈ ms, ka1 x ≤ 8) : ∀ k, ka1 (bN ms k) ≤ k * 18
  | 0 => kc7 _
  | k + 1 => by
    have h1 := k9p h k
    have h2 : ka1 (ka0 ms k []) ≤ 8 := by
      rw [ka8]
      cases e : ms[k]? with
      | none => exact Nat.zero_le _
      | some l => exact h l (List.mem_of_getElem? e)
    rw [bN, ka4, oA]; omega
theorem u10 {b : Bx} (h : BxV b) : RbX b ∧ ka1 (wbX b) ≤ 1400 := by
  obtain ⟨h1, h2, h3⟩ := h
  obtain ⟨_, p2, p3, p4⟩ := tS h3
  obtain ⟨r1, r2⟩ := k9t h1.1 (zB p2).1
  obtain ⟨s1, s2⟩ := k9t h1.2.1 (zB p4).1
  obtain ⟨m1, m2, m3⟩ := u4h p3
  unfold KG at h2
  have h5 := k9p m3 b.m.length
  refine ⟨⟨by omega, r1, by omega, s1, by omega, by omega, m1⟩, ?_⟩
  unfold wbX bC
  rw [ka4, ka4, ka4, ka4, pbL_len, pbL_len, qI, qI]
  omega
theorem k66 {bs : List Bx} (h : BsV bs) : ∀ k, k ≤ bs.length → ka1 (aZ bs k) ≤ k * 1400
  | 0, _ => kc7 _
  | k + 1, hk => by
    have h1 := k66 h k (by omega)
    have h2 := (u10 (h _ (gA (show k < bs.length by omega)))).2
    rw [aZ, ka4]; omega
theorem u73 {bs : List Bx} (h : BsV bs) (hn : bs.length ≤ 8) : RbW bs ∧ ka1 (vW bs) ≤ 12000 := by
  refine ⟨fun b hb => (u10 (h b hb)).1, ?_⟩
  have := k66 h bs.length (kc7 _)
  unfold vW; rw [ka4, pbL_len]; omega
structure DeW (id : Int) (nm : List Int) (d1 d2 d3 d4 d5 : Int) (bs : List Bx) (n : Nat) : Prop where
  y : Byt nm
  l : 1 ≤ ka1 nm ∧ ka1 nm ≤ 64
  n : ka1 bs = n ∧ 1 ≤ n ∧ n ≤ 8
  v : BsV bs
  i : 0 ≤ id ∧ id ≤ 255
  d : (d1 = 1 ∨ d1 = 2) ∧ (0 ≤ d2 ∧ d2 ≤ 65535) ∧ (0 ≤ d3 ∧ d3 ≤ 1048576) ∧ (0 ≤ d4 ∧ d4 ≤ 2048) ∧ (0 ≤ d5 ∧ d5 ≤ 4096)
  b : u5 nm = true
theorem DeW.w {id : Int} {nm : List Int} {d1 d2 d3 d4 d5 : Int} {bs : List Bx} {n : Nat} (h : DeW id nm d1 d2 d3 d4 d5 bs n) : BsW bs := h.v.w
theorem DeW.r {id : Int} {nm : List Int} {d1 d2 d3 d4 d5 : Int} {bs : List Bx} {n : Nat} (h : DeW id nm d1 d2 d3 d4 d5 bs n) : RbW bs ∧ ka1 (vW bs) ≤ 12000 := u73 h.v (by have := h.n; omega)
theorem DeW.vd {id : Int} {nm : List Int} {d1 d2 d3 d4 d5 : Int} {bs : List Bx} {n : Nat} (h : DeW id nm d1 d2 d3 d4 d5 bs n) : vS nm d1 d2 d3 d4 d5 bs = true :=
  k24 h.b (by have h1 := h.d; have h2 := h.n; omega) (h.v.vb (by have := h.n; omega))
def bcD (l : List Int) : List Int := yH (kA l 2) (1 + kC l 2)
def aY (l : List Int) : List Bx := bbL (kA l 2) (1 + kC l 2)
theorem jA {l : List Int} (h : Byt l) : Byt (bcD l) := gD (kH _ h) _
theorem gC {l : List Int} (h : Byt l) : 1 ≤ ka1 (aY l) ∧ ka1 (aY l) ≤ 2 := by
  unfold aY; rw [rB]
  have := kZ l 2 h; omega
theorem u75 {l : List Int} (h : Byt l) : BsV (aY l) := u13 (kH _ h) _
def nA : List (List Int) := [[100, 97, 99], [104, 100, 109, 105, 45, 49], [77, 105, 99, 46, 50]]
theorem k3d {k : Nat} (h : k < 3) : u5 (ka0 nA k []) = true ∧ Byt (ka0 nA k []) := by
  match k, h with
  | 0, _ => exact ⟨by decide, fun x hx => by have : x = 100 ∨ x = 97 ∨ x = 99 := by simpa [nA] using hx; 
                                             omega⟩
  | 1, _ => exact ⟨by decide, fun x hx => by have : x = 104 ∨ x = 100 ∨ x = 109 ∨ x = 105 ∨ x = 45 ∨ x = 49 := by simpa [nA] using hx; 
                                             omega⟩
  | 2, _ => exact ⟨by decide, fun x hx => by have : x = 77 ∨ x = 105 ∨ x = 99 ∨ x = 46 ∨ x = 50 := by simpa [nA] using hx; 
                                             omega⟩
theorem u6n {k : Nat} (h : k < 4) : 0 ≤ ka0 ([0, 66, 200, 7] : List Int) k 0 ∧ ka0 ([0, 66, 200, 7] : List Int) k 0 ≤ 2048 := by
  match k, h with
  | 0, _ => exact ⟨by decide, by decide⟩
  | 1, _ => exact ⟨by decide, by decide⟩
  | 2, _ => exact ⟨by decide, by decide⟩
  | 3, _ => exact ⟨by decide, by decide⟩
theorem gT {p : Prop} (h : p := by (simp only [qA, k8, pbL_len, qP, qI, uF, ka4, kb3, kb6, kb4, kb9, kb8, kc4, kc8, kc6, Nat.mul_one] <;> omega)) : p := h
abbrev jO (l : List Int) (i : Nat) : BC := .ds [D.sl (dI .u8 (yH (kA l 2) i)) (ka1 (yH (kA l 2) i))]
theorem lV (l : List Int) (hb : Byt l) : Fun 35 [.c (.ptr 0 0), iE 1, iE 2] (kD [(0, some (78, .ds [D.sl (dI .u8 l) (ka1 l)]))]) 1 (.e (q1M (aY l))) (kD [(0, some (78, .ds [D.sl (dI .u8 (bcD l)) (ka1 (bcD l))]))]) 1 := by
  have hz1 : ka1 (aY l) = 1 + kC l 2 := rB _ _
  refine Fun.mk (n := 27) Tryz.func35 rfl rfl (ka3 rfl) ?_
  intro cx hcx
  refine kG [.no] True [(0, rV 0 0), (1, iV 1), (2, iV 2)] [(0, some (78, .ds [db l (ka1 l)]))] 1 trivial ?_
  refine kV [.no] True [(0, rV 0 0), (1, iV 1), (2, iV 2), (7, nV)] trivial ?_
  refine AW.seq ?_
  have hx1 : ((((((kC l 2) : Nat) : Int) < 2) ∨ ((kC l 2) = 0)) ∧ ((kC l 2) ≤ 255)) := kZ l (2 : Int) (kL : Byt l)
  have hx2 : (Byt (kA l 2)) := kH (2 : Int) (kL : Byt l)
  refine kG (kJ 4 [.w, .w, .call [0] (uV (kC l 2)) [(0, some (78, .ds [db (kA l 2) (ka1 (kA l 2))]))] 1 [] none, .w, .no]) ((qB (1 : Int)) ∧ (qB (2 : Int)) ∧ (_) ∧ (qB (1 + (kC l 2 : Int)))) [(0, rV 0 0), (7, nV), (8, iV (1 + (kC l 2 : Int)))] [(0, some (78, .ds [db (kA l 2) (ka1 (kA l 2))]))] 1 ⟨⟨by omega, by omega⟩, ⟨by omega, by omega⟩, (uL l 2 (kL : Byt l)), ⟨by omega, by omega⟩⟩ ?_
  refine AW.block ?_
  refine AW.adoptS 7 4 53 rfl ?_
  refine kU 1 hcx (fun (x : {x : Nat × List Bx // match x with | (i, bs) => (i ≤ 1 + kC l 2) ∧ (bbL (kA l 2) i = bs) ∧ (ka1 bs = i)}) => match x with | ⟨(i, bs), _⟩ => (⟨[(0, rV 0 0), (7, oV 2 0 i 4), (8, iV ((1 + (kC l 2 : Int)) - (i : Int)))], [(0, some (78, (jO l i))), (2, some (53, .ds (kX bs)))], 3⟩ : ES)) (fun x => match x with | ⟨(i, bs), _⟩ => 1 + kC l 2 - i) ⟨((0 : Nat), (([] : List Bx) : List Bx)), ⟨zo, rfl, rfl⟩⟩ [(2, 1)] (P := (kQ 0) ∧ (kQ 0) ∧ (kQ 0) ∧ ((((1 + (kC l 2 : Int)) - 0) : Int) = (1 + (kC l 2 : Int))) ∧ (([db (yH (kA l 2) 0) (ka1 (yH (kA l 2) 0))] : List D) = [db (kA l 2) (ka1 (kA l 2))]) ∧ (((kX ([] : List Bx)) : List D) = ([] : List D))) zk ⟨rfl, rfl, rfl, (by rfl), (by rfl), (by rfl)⟩ ?_
  rintro ⟨⟨i, bs⟩, hinv0⟩
  obtain ⟨hi, hB, hn⟩ : (i ≤ 1 + kC l 2) ∧ (bbL (kA l 2) i = bs) ∧ (ka1 bs = i) := hinv0
  refine qV (l := [(0, rV 0 0), (7, oV 2 0 i 4), (8, iV ((1 + (kC l 2 : Int)) - (i : Int)))]) (g := [(0, some (78, (jO l i))), (2, some (53, .ds (kX bs)))]) (nx := 3) rfl rfl rfl ?_
  refine AW.seq ?_
  by_cases hx3 : ((0 : Int) < ((1 + (((kC l 2) : Nat) : Int)) - ((i : Nat) : Int)))
  · refine zr [.no, .b true] [0, 7, 8, 18] [0, 2] (((0 : Int) < ((1 + (kC l 2 : Int)) - (i : Int)))) [(0, rV 0 0), (7, oV 2 0 i 4), (8, iV ((1 + (kC l 2 : Int)) - ↑i)), (18, bV true)] [(0, some (78, (jO l i))), (2, some (53, .ds (kX bs)))] 3 zo ?_
    refine u1 ?_
    refine AW.seq ?_
    refine AW.block ?_
    refine aC [.no, .no, .call [0] (.e (.agg [iC (tW (yH (kA l 2) i)), .d (dl (tV (yH (kA l 2) i)) (rU (yH (kA l 2) i))), .d (D.sl (kW (iY (yH (kA l 2) i))) (ka1 (iY (yH (kA l 2) i)))), .d (dl (tU (yH (kA l 2) i)) (rT (yH (kA l 2) i)))])) [(0, some (78, .ds [db (boD (yH (kA l 2) i)) (ka1 (boD (yH (kA l 2) i)))]))] 1 [] none, .no, .ap none (i + 1) (kX (bs ++ ([(aQ (tW (yH (kA l 2) i)) (tV (yH (kA l 2) i)) (rU (yH (kA l 2) i)) (iY (yH (kA l 2) i)) (tU (yH (kA l 2) i)) (rT (yH (kA l 2) i)))] : List Bx))), .no] ((_) ∧ ([iD (tW (yH (kA l 2) i)), dl (tV (yH (kA l 2) i)) (rU (yH (kA l 2) i)), D.sl (kW (iY (yH (kA l 2) i))) (ka1 (iY (yH (kA l 2) i))), dl (tU (yH (kA l 2) i)) (rT (yH (kA l 2) i))].length = 1 * 4) ∧ (((kX bs) : List D).length = i * 4) ∧ ((i + 1) * 80 ≤ 140737488355328) ∧ (i + 1 = (i + 1)) ∧ (((kX bs) : List D) ++ [iD (tW (yH (kA l 2) i)), dl (tV (yH (kA l 2) i)) (rU (yH (kA l 2) i)), D.sl (kW (iY (yH (kA l 2) i))) (ka1 (iY (yH (kA l 2) i))), dl (tU (yH (kA l 2) i)) (rT (yH (kA l 2) i))] = (kX (bs ++ ([(aQ (tW (yH (kA l 2) i)) (tV (yH (kA l 2) i)) (rU (yH (kA l 2) i)) (iY (yH (kA l 2) i)) (tU (yH (kA l 2) i)) (rT (yH (kA l 2) i)))] : List Bx))))) [(0, rV 0 0), (7, oV 4 0 (i + 1) 4), (8, iV ((1 + (kC l 2 : Int)) - ↑i))] [(0, some (78, .ds [db (boD (yH (kA l 2) i)) (ka1 (boD (yH (kA l 2) i)))])), (4, some (53, .ds (kX (bs ++ ([(aQ (tW (yH (kA l 2) i)) (tV (yH (kA l 2) i)) (rU (yH (kA l 2) i)) (iY (yH (kA l 2) i)) (tU (yH (kA l 2) i)) (rT (yH (kA l 2) i)))] : List Bx)))))] 5 ⟨(u7e (yH (kA l 2) i) (gD (kL : Byt (kA l 2)) _)), gT, gT, zo, zo, (p9 bs (tW (yH (kA l 2) i)) (tV (yH (kA l 2) i)) (rU (yH (kA l 2) i)) (iY (yH (kA l 2) i)) (ka1 (iY (yH (kA l 2) i))) (tU (yH (kA l 2) i)) (rT (yH (kA l 2) i)) (by rfl))⟩ ?_
    refine uG [.no, .w, .no] (qB (((1 + (kC l 2 : Int)) - (i : Int)) - 1)) [(0, rV 0 0), (7, oV 4 0 (i + 1) 4), (8, iV (((1 + (kC l 2 : Int)) - ↑i) - 1))] ⟨by omega, by omega⟩ ?_
    exact qH ⟨(((i + 1) : Nat), ((bs ++ ([(aQ (tW (yH (kA l 2) i)) (tV (yH (kA l 2) i)) (rU (yH (kA l 2) i)) (iY (yH (kA l 2) i)) (tU (yH (kA l 2) i)) (rT (yH (kA l 2) i)))] : List Bx)) : List Bx)), ⟨zo, (u95 hB), (by (simp only [qA, k8, pbL_len, qP, qI, ka4, kb3, kb6] <;> omega))⟩⟩ [(2, 4)] (P := (kQ 0) ∧ (kQ 0) ∧ (kQ (i + 1)) ∧ ((((1 + (kC l 2 : Int)) - (((i + 1) : Nat) : Int)) : Int) = (((1 + (kC l 2 : Int)) - (i : Int)) - 1)) ∧ (([db (yH (kA l 2) (i + 1)) (ka1 (yH (kA l 2) (i + 1)))] : List D) = [db (boD (yH (kA l 2) i)) (ka1 (boD (yH (kA l 2) i)))]) ∧ (kY (kX (bs ++ ([(aQ (tW (yH (kA l 2) i)) (tV (yH (kA l 2) i)) (rU (yH (kA l 2) i)) (iY (yH (kA l 2) i)) (tU (yH (kA l 2) i)) (rT (yH (kA l 2) i)))] : List Bx))))) zk ⟨rfl, rfl, rfl, zo, (by rfl), rfl⟩ (show 1 + kC l 2 - (i + 1) < 1 + kC l 2 - i from zo)
  · refine zr [.no, .b false] [0, 7, 8, 18] [0, 2] (¬ ((0 : Int) < ((1 + (kC l 2 : Int)) - (i : Int)))) [(0, rV 0 0), (7, oV 2 0 i 4), (8, iV ((1 + (kC l 2 : Int)) - ↑i)), (18, bV false)] [(0, some (78, (jO l i))), (2, some (53, .ds (kX bs)))] 3 zo ?_
    refine zf ?_
    refine AW.exit ?_
    refine kG [.no, .no] True [(6, oV 2 0 i 4)] [(0, some (78, (jO l i))), (2, some (53, .ds (kX bs)))] 3 trivial ?_
    obtain rfl : i = (1 + (kC l 2)) := (by omega)
    refine AW.freeze 2 (l' := [(6, .e (u2 bs (1 + (kC l 2))))]) (g' := [(0, some (78, .ds [db (yH (kA l 2) (1 + (kC l 2))) (ka1 (yH (kA l 2) (1 + (kC l 2))))]))]) rfl (FzS.cons rfl (.e (.c (@FzC.own 2 ((kX bs) : List D) 0 (1 + (kC l 2)) 4 true ((kX bs) : List D) (by rw [List.drop_zero, List.take_of_length_le (by (simp only [qA, k8, pbL_len, qP, qI, uF, ka4, kb3, kb6, kb4, kb9, kb8, kc4, kc8, kc6, Nat.mul_one] <;> omega))]) gT))) FzS.nil) (qF rfl rfl FzG.nil) ?_
    refine AW.ret ?_
    exact kB (.inr rfl) [] (P := (((kX (aY l)) : List D) = (kX bs)) ∧ (((ka1 (aY l)) : Nat) = (1 + (kC l 2))) ∧ (([db (bcD l) (ka1 (bcD l))] : List D) = [db (yH (kA l 2) (1 + (kC l 2))) (ka1 (yH (kA l 2) (1 + (kC l 2))))])) zk ⟨(by (unfold aY; rw [hB]; done)), zo, (by rfl)⟩
abbrev kF (l : List Int) := kA (kA (kA (kA l 256) 3) 4) 200
abbrev yC (l : List Int) := bcD (kA (kA (kF l) 4) 4)
theorem k0o (l : List Int) (g : Int) (hb : Byt l) : Fun 11 [.c (.ptr 0 0), iE g] (kD [(0, some (78, .ds [D.sl (dI .u8 l) (ka1 l)]))]) 1 (.e (.agg [.d (D.lit (.int .u64 (((kC l 256) : Nat) : Int))), .d (D.lit (.string (strOfNums (ka0 nA (kC (kA l 256) 3) ([] : List Int))))), iC g, iC (((kC (kA (kA l 256) 3) 4) : Nat) : Int), iC (((kC (kA (kA (kA l 256) 3) 4) 200) : Nat) : Int), iC (ka0 ([0, 66, 200, 7] : List Int) (kC (kA (kA (kA (kA l 256) 3) 4) 200) 4) 0), iC (((kC (kA (kA (kA (kA (kA l 256) 3) 4) 200) 4) 4) : Nat) : Int), .d (D.sl (kX (aY (kA (kA (kA (kA (kA (kA l 256) 3) 4) 200) 4) 4))) (ka1 (aY (kA (kA (kA (kA (kA (kA l 256) 3) 4) 200) 4) 4))))])) (kD [(0, some (78, .ds [D.sl (dI .u8 (bcD (kA (kA (kA (kA (kA (kA l 256) 3) 4) 200) 4) 4))) (ka1 (bcD (kA (kA (kA (kA (kA (kA l 256) 3) 4) 200) 4) 4)))]))]) 1 := by
  refine Fun.mk (n := 28) Tryz.func11 rfl rfl (ka3 rfl) ?_
  intro cx hcx
  refine kG [.no] True [(0, rV 0 0), (1, iV g), (4, rV 1 0)] [(0, some (78, .ds [db l (ka1 l)])), (1, some (31, .ds [D.lit (.int .u64 0), D.lit (.string { data := #[] }), iD 0, iD 0, iD 0, iD 0, iD 0, k9]))] 2 trivial ?_
  by_cases hx5 : ((((kC (kA l 256) 3) : Nat) : Int) = 0)
  · have hx6 : ((((((kC l 256) : Nat) : Int) < 256) ∨ ((kC l 256) = 0)) ∧ ((kC l 256) ≤ 255)) := kZ l (256 : Int) (kL : Byt l)
    have hx7 : (Byt (kA l 256)) := kH (256 : Int) (kL : Byt l)
    have hx8 : ((((((kC (kA l 256) 3) : Nat) : Int) < 3) ∨ ((kC (kA l 256) 3) = 0)) ∧ ((kC (kA l 256) 3) ≤ 255)) := kZ (kA l 256) (3 : Int) (kL : Byt (kA l 256))
    have hx9 : (Byt (kA (kA l 256) 3)) := kH (3 : Int) (kL : Byt (kA l 256))
    have hx10 : ((((((kC (kA (kA l 256) 3) 4) : Nat) : Int) < 4) ∨ ((kC (kA (kA l 256) 3) 4) = 0)) ∧ ((kC (kA (kA l 256) 3) 4) ≤ 255)) := kZ (kA (kA l 256) 3) (4 : Int) (kL : Byt (kA (kA l 256) 3))
    have hx11 : (Byt (kA (kA (kA l 256) 3) 4)) := kH (4 : Int) (kL : Byt (kA (kA l 256) 3))
    have hx12 : ((((((kC (kA (kA (kA l 256) 3) 4) 200) : Nat) : Int) < 200) ∨ ((kC (kA (kA (kA l 256) 3) 4) 200) = 0)) ∧ ((kC (kA (kA (kA l 256) 3) 4) 200) ≤ 255)) := kZ (kA (kA (kA l 256) 3) 4) (200 : Int) (kL : Byt (kA (kA (kA l 256) 3) 4))
    have hx13 : (Byt (kF l)) := kH (200 : Int) (kL : Byt (kA (kA (kA l 256) 3) 4))
    have hx14 : ((((((kC (kF l) 4) : Nat) : Int) < 4) ∨ ((kC (kF l) 4) = 0)) ∧ ((kC (kF l) 4) ≤ 255)) := kZ (kF l) (4 : Int) (kL : Byt (kF l))
    have hx15 : (Byt (kA (kF l) 4)) := kH (4 : Int) (kL : Byt (kF l))
    have hx16 : 0 ≤ (ka0 ([0, 66, 200, 7] : List Int) (kC (kF l) 4) 0) ∧ (ka0 ([0, 66, 200, 7] : List Int) (kC (kF l) 4) 0) ≤ 200 := o8 (l := ([0, 66, 200, 7] : List Int)) (a := 0) (b := 200) (by decide) _ (show _ < 4 by omega)
    have hx17 : ((((((kC (kA (kF l) 4) 4) : Nat) : Int) < 4) ∨ ((kC (kA (kF l) 4) 4) = 0)) ∧ ((kC (kA (kF l) 4) 4) ≤ 255)) := kZ (kA (kF l) 4) (4 : Int) (kL : Byt (kA (kF l) 4))
    have hx18 : (Byt (kA (kA (kF l) 4) 4)) := kH (4 : Int) (kL : Byt (kA (kF l) 4))
    have hx19 : (((1 : Nat) ≤ (ka1 (aY (kA (kA (kF l) 4) 4)))) ∧ ((ka1 (aY (kA (kA (kF l) 4) 4))) ≤ 2)) := (gC (kL : Byt (kA (kA (kF l) 4) 4)))
    have hx20 : (BsW (aY (kA (kA (kF l) 4) 4))) := (k0j _ _)
    have hx21 : (Byt (yC l)) := (jA (kL : Byt (kA (kA (kF l) 4) 4)))
    refine kG [.no, .call [0] (uV (kC l 256)) [(0, some (78, .ds [db (kA l 256) (ka1 (kA l 256))]))] 1 [] none, .w, .no, .no, .call [0] (uV (kC (kA l 256) 3)) [(0, some (78, .ds [db (kA (kA l 256) 3) (ka1 (kA (kA l 256) 3))]))] 1 [] none, .n2 0 0, .no, .no, .no, .call [0] (uV (kC (kA (kA l 256) 3) 4)) [(0, some (78, .ds [db (kA (kA (kA l 256) 3) 4) (ka1 (kA (kA (kA l 256) 3) 4))]))] 1 [] none, .no, .call [0] (iV (kC (kA (kA (kA l 256) 3) 4) 200 : Int)) [(0, some (78, .ds [db (kF l) (ka1 (kF l))]))] 1 [] none, .no, .no, .call [0] (uV (kC (kF l) 4)) [(0, some (78, .ds [db (kA (kF l) 4) (ka1 (kA (kF l) 4))]))] 1 [] none, .n2 (kC (kF l) 4) (kC (kF l) 4), .d (D.lit (.int .i64 (ka0 ([0, 66, 200, 7] : List Int) (kC (kF l) 4) 0))), .no, .call [0] (uV (kC (kA (kF l) 4) 4)) [(0, some (78, .ds [db (kA (kA (kF l) 4) 4) (ka1 (kA (kA (kF l) 4) 4))]))] 1 [] none, .no, .call [0] (.e (q1M (aY (kA (kA (kF l) 4) 4)))) [(0, some (78, .ds [db (yC l) (ka1 (yC l))]))] 1 [] none, .no, .no] ((_) ∧ (0 ≤ (kC l 256 : Int) ∧ (kC l 256 : Int) ≤ 18446744073709551615) ∧ (_) ∧ (((kC (kA l 256) 3 : Int) : Int) = 0) ∧ ((0 : Nat) < 3) ∧ ((0 : Nat) + 0 * 1 = 0) ∧ (_) ∧ (_) ∧ (_) ∧ (kM (kC (kF l) 4 : Int)) ∧ ((kC (kF l) 4) < 4) ∧ ((0 : Nat) + (kC (kF l) 4) * 1 = (kC (kF l) 4)) ∧ ([iD 0, iD 66, iD 200, iD 7][(kC (kF l) 4)]? = some (D.lit (.int .i64 (ka0 ([0, 66, 200, 7] : List Int) (kC (kF l) 4) 0)))) ∧ (_) ∧ (_)) [(4, rV 1 0)] [(0, some (78, .ds [db (yC l) (ka1 (yC l))])), (1, some (31, .ds [D.lit (.int .u64 (kC l 256 : Int)), D.lit ((.string (ByteArray.mk #[100, 97, 99]))), iD g, uD (kC (kA (kA l 256) 3) 4), iD (kC (kA (kA (kA l 256) 3) 4) 200 : Int), iD (ka0 ([0, 66, 200, 7] : List Int) (kC (kF l) 4) 0), uD (kC (kA (kF l) 4) 4), D.sl (kX (aY (kA (kA (kF l) 4) 4))) (ka1 (aY (kA (kA (kF l) 4) 4)))]))] 4 ⟨(uL l 256 (kL : Byt l)), ⟨by omega, by omega⟩, (uL (kA l 256) 3 (kL : Byt (kA l 256))), zo, zo, zo, (uL (kA (kA l 256) 3) 4 (kL : Byt (kA (kA l 256) 3))), (uL (kA (kA (kA l 256) 3) 4) 200 (kL : Byt (kA (kA (kA l 256) 3) 4))), (uL (kF l) 4 (kL : Byt (kF l))), rfl, zo, zo, (fD .i64 ([0, 66, 200, 7] : List Int) _ gT), (uL (kA (kF l) 4) 4 (kL : Byt (kA (kF l) 4))), (lV (kA (kA (kF l) 4) 4) (kL : Byt (kA (kA (kF l) 4) 4)))⟩ ?_
    refine AW.ret ?_
    exact kB (.inr rfl) [] (P := (kM (kC l 256 : Int)) ∧ ((.string (strOfNums (ka0 nA (kC (kA l 256) 3) ([] : List Int))) : Value) = .string (ByteArray.mk #[100, 97, 99])) ∧ (kM g) ∧ (kM (kC (kA (kA l 256) 3) 4 : Int)) ∧ (kM (kC (kA (kA (kA l 256) 3) 4) 200 : Int)) ∧ (kM (ka0 ([0, 66, 200, 7] : List Int) (kC (kF l) 4) 0)) ∧ (kM (kC (kA (kF l) 4) 4 : Int)) ∧ (kY (kX (aY (kA (kA (kF l) 4) 4)))) ∧ (kQ (ka1 (aY (kA (kA (kF l) 4) 4)))) ∧ (kY [db (yC l) (ka1 (yC l))])) zk ⟨rfl, (congrArg (fun x9 => Value.string (strOfNums x9)) (show (ka0 nA (kC (kA l 256) 3) ([] : List Int)) = ([100, 97, 99] : List Int) from (by (rw [show kC (kA l 256) 3 = 0 by omega]; rfl)))), rfl, rfl, rfl, rfl, rfl, rfl, rfl, rfl⟩
  · by_cases hx26 : ((((kC (kA l 256) 3) : Nat) : Int) = 1)
    · have hx27 : ((((((kC l 256) : Nat) : Int) < 256) ∨ ((kC l 256) = 0)) ∧ ((kC l 256) ≤ 255)) := kZ l (256 : Int) (kL : Byt l)
      have hx28 : (Byt (kA l 256)) := kH (256 : Int) (kL : Byt l)
      have hx29 : ((((((kC (kA l 256) 3) : Nat) : Int) < 3) ∨ ((kC (kA l 256) 3) = 0)) ∧ ((kC (kA l 256) 3) ≤ 255)) := kZ (kA l 256) (3 : Int) (kL : Byt (kA l 256))
      have hx30 : (Byt (kA (kA l 256) 3)) := kH (3 : Int) (kL : Byt (kA l 256))
      have hx31 : ((((((kC (kA (kA l 256) 3) 4) : Nat) : Int) < 4) ∨ ((kC (kA (kA l 256) 3) 4) = 0)) ∧ ((kC (kA (kA l 256) 3) 4) ≤ 255)) := kZ (kA (kA l 256) 3) (4 : Int) (kL : Byt (kA (kA l 256) 3))
      have hx32 : (Byt (kA (kA (kA l 256) 3) 4)) := kH (4 : Int) (kL : Byt (kA (kA l 256) 3))
      have hx33 : ((((((kC (kA (kA (kA l 256) 3) 4) 200) : Nat) : Int) < 200) ∨ ((kC (kA (kA (kA l 256) 3) 4) 200) = 0)) ∧ ((kC (kA (kA (kA l 256) 3) 4) 200) ≤ 255)) := kZ (kA (kA (kA l 256) 3) 4) (200 : Int) (kL : Byt (kA (kA (kA l 256) 3) 4))
      have hx34 : (Byt (kF l)) := kH (200 : Int) (kL : Byt (kA (kA (kA l 256) 3) 4))
      have hx35 : ((((((kC (kF l) 4) : Nat) : Int) < 4) ∨ ((kC (kF l) 4) = 0)) ∧ ((kC (kF l) 4) ≤ 255)) := kZ (kF l) (4 : Int) (kL : Byt (kF l))
      have hx36 : (Byt (kA (kF l) 4)) := kH (4 : Int) (kL : Byt (kF l))
      have hx37 : 0 ≤ (ka0 ([0, 66, 200, 7] : List Int) (kC (kF l) 4) 0) ∧ (ka0 ([0, 66, 200, 7] : List Int) (kC (kF l) 4) 0) ≤ 200 := o8 (l := ([0, 66, 200, 7] : List Int)) (a := 0) (b := 200) (by decide) _ (show _ < 4 by omega)
      have hx38 : ((((((kC (kA (kF l) 4) 4) : Nat) : Int) < 4) ∨ ((kC (kA (kF l) 4) 4) = 0)) ∧ ((kC (kA (kF l) 4) 4) ≤ 255)) := kZ (kA (kF l) 4) (4 : Int) (kL : Byt (kA (kF l) 4))
      have hx39 : (Byt (kA (kA (kF l) 4) 4)) := kH (4 : Int) (kL : Byt (kA (kF l) 4))
      have hx40 : (((1 : Nat) ≤ (ka1 (aY (kA (kA (kF l) 4) 4)))) ∧ ((ka1 (aY (kA (kA (kF l) 4) 4))) ≤ 2)) := (gC (kL : Byt (kA (kA (kF l) 4) 4)))
      have hx41 : (BsW (aY (kA (kA (kF l) 4) 4))) := (k0j _ _)
      have hx42 : (Byt (yC l)) := (jA (kL : Byt (kA (kA (kF l) 4) 4)))
      refine kG [.no, .call [0] (uV (kC l 256)) [(0, some (78, .ds [db (kA l 256) (ka1 (kA l 256))]))] 1 [] none, .w, .no, .no, .call [0] (uV (kC (kA l 256) 3)) [(0, some (78, .ds [db (kA (kA l 256) 3) (ka1 (kA (kA l 256) 3))]))] 1 [] none, .n2 1 1, .no, .no, .no, .call [0] (uV (kC (kA (kA l 256) 3) 4)) [(0, some (78, .ds [db (kA (kA (kA l 256) 3) 4) (ka1 (kA (kA (kA l 256) 3) 4))]))] 1 [] none, .no, .call [0] (iV (kC (kA (kA (kA l 256) 3) 4) 200 : Int)) [(0, some (78, .ds [db (kF l) (ka1 (kF l))]))] 1 [] none, .no, .no, .call [0] (uV (kC (kF l) 4)) [(0, some (78, .ds [db (kA (kF l) 4) (ka1 (kA (kF l) 4))]))] 1 [] none, .n2 (kC (kF l) 4) (kC (kF l) 4), .d (D.lit (.int .i64 (ka0 ([0, 66, 200, 7] : List Int) (kC (kF l) 4) 0))), .no, .call [0] (uV (kC (kA (kF l) 4) 4)) [(0, some (78, .ds [db (kA (kA (kF l) 4) 4) (ka1 (kA (kA (kF l) 4) 4))]))] 1 [] none, .no, .call [0] (.e (q1M (aY (kA (kA (kF l) 4) 4)))) [(0, some (78, .ds [db (yC l) (ka1 (yC l))]))] 1 [] none, .no, .no] ((_) ∧ (0 ≤ (kC l 256 : Int) ∧ (kC l 256 : Int) ≤ 18446744073709551615) ∧ (_) ∧ (((kC (kA l 256) 3 : Int) : Int) = 1) ∧ ((1 : Nat) < 3) ∧ ((0 : Nat) + 1 * 1 = 1) ∧ (_) ∧ (_) ∧ (_) ∧ (kM (kC (kF l) 4 : Int)) ∧ ((kC (kF l) 4) < 4) ∧ ((0 : Nat) + (kC (kF l) 4) * 1 = (kC (kF l) 4)) ∧ ([iD 0, iD 66, iD 200, iD 7][(kC (kF l) 4)]? = some (D.lit (.int .i64 (ka0 ([0, 66, 200, 7] : List Int) (kC (kF l) 4) 0)))) ∧ (_) ∧ (_)) [(4, rV 1 0)] [(0, some (78, .ds [db (yC l) (ka1 (yC l))])), (1, some (31, .ds [D.lit (.int .u64 (kC l 256 : Int)), D.lit ((.string (ByteArray.mk #[104, 100, 109, 105, 45, 49]))), iD g, uD (kC (kA (kA l 256) 3) 4), iD (kC (kA (kA (kA l 256) 3) 4) 200 : Int), iD (ka0 ([0, 66, 200, 7] : List Int) (kC (kF l) 4) 0), uD (kC (kA (kF l) 4) 4), D.sl (kX (aY (kA (kA (kF l) 4) 4))) (ka1 (aY (kA (kA (kF l) 4) 4)))]))] 4 ⟨(uL l 256 (kL : Byt l)), ⟨by omega, by omega⟩, (uL (kA l 256) 3 (kL : Byt (kA l 256))), zo, zo, zo, (uL (kA (kA l 256) 3) 4 (kL : Byt (kA (kA l 256) 3))), (uL (kA (kA (kA l 256) 3) 4) 200 (kL : Byt (kA (kA (kA l 256) 3) 4))), (uL (kF l) 4 (kL : Byt (kF l))), rfl, zo, zo, (fD .i64 ([0, 66, 200, 7] : List Int) _ gT), (uL (kA (kF l) 4) 4 (kL : Byt (kA (kF l) 4))), (lV (kA (kA (kF l) 4) 4) (kL : Byt (kA (kA (kF l) 4) 4)))⟩ ?_
      refine AW.ret ?_
      exact kB (.inr rfl) [] (P := (kM (kC l 256 : Int)) ∧ ((.string (strOfNums (ka0 nA (kC (kA l 256) 3) ([] : List Int))) : Value) = .string (ByteArray.mk #[104, 100, 109, 105, 45, 49])) ∧ (kM g) ∧ (kM (kC (kA (kA l 256) 3) 4 : Int)) ∧ (kM (kC (kA (kA (kA l 256) 3) 4) 200 : Int)) ∧ (kM (ka0 ([0, 66, 200, 7] : List Int) (kC (kF l) 4) 0)) ∧ (kM (kC (kA (kF l) 4) 4 : Int)) ∧ (kY (kX (aY (kA (kA (kF l) 4) 4)))) ∧ (kQ (ka1 (aY (kA (kA (kF l) 4) 4)))) ∧ (kY [db (yC l) (ka1 (yC l))])) zk ⟨rfl, (congrArg (fun x9 => Value.string (strOfNums x9)) (show (ka0 nA (kC (kA l 256) 3) ([] : List Int)) = ([104, 100, 109, 105, 45, 49] : List Int) from (by (rw [show kC (kA l 256) 3 = 1 by omega]; rfl)))), rfl, rfl, rfl, rfl, rfl, rfl, rfl, rfl⟩
    · have hx43 : ((((((kC l 256) : Nat) : Int) < 256) ∨ ((kC l 256) = 0)) ∧ ((kC l 256) ≤ 255)) := kZ l (256 : Int) (kL : Byt l)
      have hx44 : (Byt (kA l 256)) := kH (256 : Int) (kL : Byt l)
      have hx45 : ((((((kC (kA l 256) 3) : Nat) : Int) < 3) ∨ ((kC (kA l 256) 3) = 0)) ∧ ((kC (kA l 256) 3) ≤ 255)) := kZ (kA l 256) (3 : Int) (kL : Byt (kA l 256))
      have hx46 : (Byt (kA (kA l 256) 3)) := kH (3 : Int) (kL : Byt (kA l 256))
      have hx47 : ((((((kC (kA (kA l 256) 3) 4) : Nat) : Int) < 4) ∨ ((kC (kA (kA l 256) 3) 4) = 0)) ∧ ((kC (kA (kA l 256) 3) 4) ≤ 255)) := kZ (kA (kA l 256) 3) (4 : Int) (kL : Byt (kA (kA l 256) 3))
      have hx48 : (Byt (kA (kA (kA l 256) 3) 4)) := kH (4 : Int) (kL : Byt (kA (kA l 256) 3))
      have hx49 : ((((((kC (kA (kA (kA l 256) 3) 4) 200) : Nat) : Int) < 200) ∨ ((kC (kA (kA (kA l 256) 3) 4) 200) = 0)) ∧ ((kC (kA (kA (kA l 256) 3) 4) 200) ≤ 255)) := kZ (kA (kA (kA l 256) 3) 4) (200 : Int) (kL : Byt (kA (kA (kA l 256) 3) 4))
      have hx50 : (Byt (kF l)) := kH (200 : Int) (kL : Byt (kA (kA (kA l 256) 3) 4))
      have hx51 : ((((((kC (kF l) 4) : Nat) : Int) < 4) ∨ ((kC (kF l) 4) = 0)) ∧ ((kC (kF l) 4) ≤ 255)) := kZ (kF l) (4 : Int) (kL : Byt (kF l))
      have hx52 : (Byt (kA (kF l) 4)) := kH (4 : Int) (kL : Byt (kF l))
      have hx53 : 0 ≤ (ka0 ([0, 66, 200, 7] : List Int) (kC (kF l) 4) 0) ∧ (ka0 ([0, 66, 200, 7] : List Int) (kC (kF l) 4) 0) ≤ 200 := o8 (l := ([0, 66, 200, 7] : List Int)) (a := 0) (b := 200) (by decide) _ (show _ < 4 by omega)
      have hx54 : ((((((kC (kA (kF l) 4) 4) : Nat) : Int) < 4) ∨ ((kC (kA (kF l) 4) 4) = 0)) ∧ ((kC (kA (kF l) 4) 4) ≤ 255)) := kZ (kA (kF l) 4) (4 : Int) (kL : Byt (kA (kF l) 4))
      have hx55 : (Byt (kA (kA (kF l) 4) 4)) := kH (4 : Int) (kL : Byt (kA (kF l) 4))
      have hx56 : (((1 : Nat) ≤ (ka1 (aY (kA (kA (kF l) 4) 4)))) ∧ ((ka1 (aY (kA (kA (kF l) 4) 4))) ≤ 2)) := (gC (kL : Byt (kA (kA (kF l) 4) 4)))
      have hx57 : (BsW (aY (kA (kA (kF l) 4) 4))) := (k0j _ _)
      have hx58 : (Byt (yC l)) := (jA (kL : Byt (kA (kA (kF l) 4) 4)))
      refine kG [.no, .call [0] (uV (kC l 256)) [(0, some (78, .ds [db (kA l 256) (ka1 (kA l 256))]))] 1 [] none, .w, .no, .no, .call [0] (uV (kC (kA l 256) 3)) [(0, some (78, .ds [db (kA (kA l 256) 3) (ka1 (kA (kA l 256) 3))]))] 1 [] none, .n2 2 2, .no, .no, .no, .call [0] (uV (kC (kA (kA l 256) 3) 4)) [(0, some (78, .ds [db (kA (kA (kA l 256) 3) 4) (ka1 (kA (kA (kA l 256) 3) 4))]))] 1 [] none, .no, .call [0] (iV (kC (kA (kA (kA l 256) 3) 4) 200 : Int)) [(0, some (78, .ds [db (kF l) (ka1 (kF l))]))] 1 [] none, .no, .no, .call [0] (uV (kC (kF l) 4)) [(0, some (78, .ds [db (kA (kF l) 4) (ka1 (kA (kF l) 4))]))] 1 [] none, .n2 (kC (kF l) 4) (kC (kF l) 4), .d (D.lit (.int .i64 (ka0 ([0, 66, 200, 7] : List Int) (kC (kF l) 4) 0))), .no, .call [0] (uV (kC (kA (kF l) 4) 4)) [(0, some (78, .ds [db (kA (kA (kF l) 4) 4) (ka1 (kA (kA (kF l) 4) 4))]))] 1 [] none, .no, .call [0] (.e (q1M (aY (kA (kA (kF l) 4) 4)))) [(0, some (78, .ds [db (yC l) (ka1 (yC l))]))] 1 [] none, .no, .no] ((_) ∧ (0 ≤ (kC l 256 : Int) ∧ (kC l 256 : Int) ≤ 18446744073709551615) ∧ (_) ∧ (((kC (kA l 256) 3 : Int) : Int) = 2) ∧ ((2 : Nat) < 3) ∧ ((0 : Nat) + 2 * 1 = 2) ∧ (_) ∧ (_) ∧ (_) ∧ (kM (kC (kF l) 4 : Int)) ∧ ((kC (kF l) 4) < 4) ∧ ((0 : Nat) + (kC (kF l) 4) * 1 = (kC (kF l) 4)) ∧ ([iD 0, iD 66, iD 200, iD 7][(kC (kF l) 4)]? = some (D.lit (.int .i64 (ka0 ([0, 66, 200, 7] : List Int) (kC (kF l) 4) 0)))) ∧ (_) ∧ (_)) [(4, rV 1 0)] [(0, some (78, .ds [db (yC l) (ka1 (yC l))])), (1, some (31, .ds [D.lit (.int .u64 (kC l 256 : Int)), D.lit ((.string (ByteArray.mk #[77, 105, 99, 46, 50]))), iD g, uD (kC (kA (kA l 256) 3) 4), iD (kC (kA (kA (kA l 256) 3) 4) 200 : Int), iD (ka0 ([0, 66, 200, 7] : List Int) (kC (kF l) 4) 0), uD (kC (kA (kF l) 4) 4), D.sl (kX (aY (kA (kA (kF l) 4) 4))) (ka1 (aY (kA (kA (kF l) 4) 4)))]))] 4 ⟨(uL l 256 (kL : Byt l)), ⟨by omega, by omega⟩, (uL (kA l 256) 3 (kL : Byt (kA l 256))), zo, zo, zo, (uL (kA (kA l 256) 3) 4 (kL : Byt (kA (kA l 256) 3))), (uL (kA (kA (kA l 256) 3) 4) 200 (kL : Byt (kA (kA (kA l 256) 3) 4))), (uL (kF l) 4 (kL : Byt (kF l))), rfl, zo, zo, (fD .i64 ([0, 66, 200, 7] : List Int) _ gT), (uL (kA (kF l) 4) 4 (kL : Byt (kA (kF l) 4))), (lV (kA (kA (kF l) 4) 4) (kL : Byt (kA (kA (kF l) 4) 4)))⟩ ?_
      refine AW.ret ?_
      exact kB (.inr rfl) [] (P := (kM (kC l 256 : Int)) ∧ ((.string (strOfNums (ka0 nA (kC (kA l 256) 3) ([] : List Int))) : Value) = .string (ByteArray.mk #[77, 105, 99, 46, 50])) ∧ (kM g) ∧ (kM (kC (kA (kA l 256) 3) 4 : Int)) ∧ (kM (kC (kA (kA (kA l 256) 3) 4) 200 : Int)) ∧ (kM (ka0 ([0, 66, 200, 7] : List Int) (kC (kF l) 4) 0)) ∧ (kM (kC (kA (kF l) 4) 4 : Int)) ∧ (kY (kX (aY (kA (kA (kF l) 4) 4)))) ∧ (kQ (ka1 (aY (kA (kA (kF l) 4) 4)))) ∧ (kY [db (yC l) (ka1 (yC l))])) zk ⟨rfl, (congrArg (fun x9 => Value.string (strOfNums x9)) (show (ka0 nA (kC (kA l 256) 3) ([] : List Int)) = ([77, 105, 99, 46, 50] : List Int) from (by (rw [show kC (kA l 256) 3 = 2 by omega]; rfl)))), rfl, rfl, rfl, rfl, rfl, rfl, rfl, rfl⟩
theorem u67 (l : List Int) (g : Int) (hb : Byt l) (hg : g = 1 ∨ g = 2) : DeW (((kC (l) 256 : Nat) : Int)) (ka0 nA (kC (kA l 256) 3) []) (g) (((kC (kA (kA l 256) 3) 4 : Nat) : Int)) (((kC (kA (kA (kA l 256) 3) 4) 200 : Nat) : Int)) (ka0 ([0, 66, 200, 7] : List Int) (kC (kA (kA (kA (kA l 256) 3) 4) 200) 4) 0) (((kC (kA (kA (kA (kA (kA l 256) 3) 4) 200) 4) 4 : Nat) : Int)) (aY (kA (kA (kA (kA (kA (kA l 256) 3) 4) 200) 4) 4)) (ka1 (aY (kA (kA (kA (kA (kA (kA l 256) 3) 4) 200) 4) 4))) := ⟨(k3d (by have h9 := kZ (kA l 256) 3 (kH 256 hb); omega)).2, (k3i (k3d (by have h9 := kZ (kA l 256) 3 (kH 256 hb); omega)).1), ⟨rfl, (gC (kH 4 (kH 4 (kH 200 (kH 4 (kH 3 (kH 256 hb))))))).1, Nat.le_trans (gC (kH 4 (kH 4 (kH 200 (kH 4 (kH 3 (kH 256 hb))))))).2 (by omega)⟩, u75 (kH 4 (kH 4 (kH 200 (kH 4 (kH 3 (kH 256 hb)))))), (by have h9 := kZ (l) 256 hb; omega), ⟨hg, (by have h9 := kZ (kA (kA l 256) 3) 4 (kH 3 (kH 256 hb)); omega), (by have h9 := kZ (kA (kA (kA l 256) 3) 4) 200 (kH 4 (kH 3 (kH 256 hb))); omega), u6n (by have h9 := kZ (kA (kA (kA (kA l 256) 3) 4) 200) 4 (kH 200 (kH 4 (kH 3 (kH 256 hb)))); omega), (by have h9 := kZ (kA (kA (kA (kA (kA l 256) 3) 4) 200) 4) 4 (kH 4 (kH 200 (kH 4 (kH 3 (kH 256 hb))))); omega)⟩, (k3d (by have h9 := kZ (kA l 256) 3 (kH 256 hb); omega)).1⟩
theorem k9e (l : List Int) (g : Int) (hb : Byt l) (hg : g = 1 ∨ g = 2) : ∃ (id : Int) (nm : List Int) (d2 : Int) (d3 : Int) (d4 : Int) (d5 : Int) (bs : List Bx) (n : Nat) (q : List Int), (DeW id nm g d2 d3 d4 d5 bs n) ∧ (Byt q) ∧ (Fun 11 [.c (.ptr 0 0), iE g] (kD [(0, some (78, .ds [D.sl (dI .u8 l) (ka1 l)]))]) 1 (.e (.agg [.d (D.lit (.int .u64 id)), .d (D.lit (.string (strOfNums nm))), iC g, iC d2, iC d3, iC d4, iC d5, .d (D.sl (kX bs) n)])) (kD [(0, some (78, .ds [D.sl (dI .u8 q) (ka1 q)]))]) 1) := ⟨(((kC l 256) : Nat) : Int), (ka0 nA (kC (kA l 256) 3) ([] : List Int)), (((kC (kA (kA l 256) 3) 4) : Nat) : Int), (((kC (kA (kA (kA l 256) 3) 4) 200) : Nat) : Int), (ka0 ([0, 66, 200, 7] : List Int) (kC (kA (kA (kA (kA l 256) 3) 4) 200) 4) 0), (((kC (kA (kA (kA (kA (kA l 256) 3) 4) 200) 4) 4) : Nat) : Int), (aY (kA (kA (kA (kA (kA (kA l 256) 3) 4) 200) 4) 4)), (ka1 (aY (kA (kA (kA (kA (kA (kA l 256) 3) 4) 200) 4) 4))), (bcD (kA (kA (kA (kA (kA (kA l 256) 3) 4) 200) 4) 4)), u67 l g hb hg, jA (kH 4 (kH 4 (kH 200 (kH 4 (kH 3 (kH 256 hb)))))), k0o l g hb⟩
end Go.Proofs.YtdbjebdomdnbkaaGreat
