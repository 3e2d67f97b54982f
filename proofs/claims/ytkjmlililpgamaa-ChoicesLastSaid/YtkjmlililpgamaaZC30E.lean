/- Choices out of a deck. No statement is proved here. -/
import Derived.Test.YtkjmlililpgamaaZC30D
namespace Go.Proofs.Ytkjmlililpgamaa
open Go.ChangeShapes Go.WideShapes Go.ChangeAt Go.RowKit
open List renaming drop_zero → kf5, getD → ka2, getD_eq_getElem?_getD → ka9, getElem?_eq_getElem → kb3, length → ka0, length_append → ka4, length_cons → kb5, length_drop → kc0, length_map → kc8, length_nil → kb6, length_replicate → kc4, length_reverse → kd6, length_set → ka8, length_take → kb8, pairwise_append → kj2, pairwise_singleton → ki5, take_of_length_le → kc5
open Nat renaming le_of_ble_eq_true → ka3, le_refl → kc1, mul_one → ke3
set_option linter.unusedVariables false
set_option linter.unusedSimpArgs false
/-! choices out of a deck -/
set_option maxHeartbeats 4000000
set_option maxRecDepth 100000
def roT : List (List Int) := [[109, 117, 115, 105, 99], [118, 111, 105, 99, 101], [97, 108, 97, 114, 109], [103, 97, 109, 101]]
def yP (j : Nat) : List Int := ka2 roT j []
theorem t8 : ∀ j, j < 4 → qK (yP j) = true := by decide
theorem cV : ∀ j, j < 4 → Byt (yP j) := by
  intro j hj
  match j, hj with
  | 0, _ => exact fun x hx => by revert x; decide
  | 1, _ => exact fun x hx => by revert x; decide
  | 2, _ => exact fun x hx => by revert x; decide
  | 3, _ => exact fun x hx => by revert x; decide
theorem cU : ∀ j, j < 4 → (yP j).length ≤ 5 := by decide
def uG (l : List Int) (a : Nat) : Nat → Nat
  | 0 => a
  | k + 1 => kU l (uG l a k)
def gR (l : List Int) (a : Nat) : Nat → List Int
  | 0 => []
  | k + 1 => if kW l (uG l a k) 2 = 0 then gR l a k ++ [((k : Nat) : Int) + 1] else gR l a k
theorem fH {l : List Int} {a m : Nat} (hm : l.length = m) (h : a ≤ m) : ∀ k, uG l a k ≤ m
  | 0 => h
  | k + 1 => qY hm (fH hm h k)
theorem x8 (l : List Int) (a : Nat) : ∀ k, (gR l a k).Pairwise (· < ·) ∧ (∀ x ∈ gR l a k, 1 ≤ x ∧ x ≤ (k : Int)) ∧ (gR l a k).length ≤ k
  | 0 => ⟨List.Pairwise.nil, fun x h => (List.not_mem_nil h).elim, kc1 _⟩
  | k + 1 => by
    obtain ⟨h1, h2, h3⟩ := x8 l a k
    unfold gR
    split
    · refine ⟨?_, ?_, ?_⟩
      · rw [kj2]
        refine ⟨h1, ki5 .., fun x hx y hy => ?_⟩
        rw [List.mem_singleton.1 hy]; have := h2 x hx; omega
      · intro x hx
        rcases List.mem_append.1 hx with hx | hx
        · have := h2 x hx; omega
        · rw [List.mem_singleton.1 hx]; omega
      · rw [ka4]; show _ + 1 ≤ k + 1; omega
    · exact ⟨h1, fun x hx => by have := h2 x hx; omega, by omega⟩
def qN (l : List Int) (a : Nat) : List Int := if (gR l a 6).length = 0 then [7] else gR l a 6
theorem cN (l : List Int) (a : Nat) : v3 (qN l a) = true ∧ 1 ≤ (qN l a).length ∧ (qN l a).length ≤ 6 := by
  obtain ⟨h1, h2, h3⟩ := x8 l a 6
  unfold qN
  split
  · exact ⟨by decide, by decide, by decide⟩
  · exact ⟨k2a h1 fun x hx => (h2 x hx).1, by omega, h3⟩
theorem k3n {l : List Int} {a : Nat} (h : (gR l a 6).length = 0) : qN l a = [7] := if_pos h
theorem k3o {l : List Int} {a : Nat} (h : ¬ (gR l a 6).length = 0) : qN l a = gR l a 6 := if_neg h
theorem k1r {l : List Int} {a k : Nat} {o : List Int} (ho : gR l a k = o) (h : kW l (uG l a k) 2 = 0) : gR l a (k + 1) = o ++ [((k : Nat) : Int) + 1] := by rw [← ho]; exact if_pos h
theorem k1s {l : List Int} {a k : Nat} {o : List Int} (ho : gR l a k = o) (h : ¬ kW l (uG l a k) 2 = 0) : gR l a (k + 1) = o := by rw [← ho]; exact if_neg h
def dJ (l : List Int) (a : Nat) : Int := ka2 (qN l (kU l a)) (kW l (uG l (kU l a) 6) ((qN l (kU l a)).length : Int)) 0
def nY (l : List Int) (a : Nat) : Nat := kU l (uG l (kU l a) 6)
theorem lP {l : List Int} {a m : Nat} (hm : l.length = m) (h : a ≤ m) : nY l a ≤ m := qY hm (fH hm (qY hm h) 6)
theorem tF (l : List Int) (a : Nat) : kW l a 4 < 4 := by have := yC l a (n := 4) (by omega); omega
theorem tH (l : List Int) (a : Nat) : uS (yP (kW l a 4)) (qN l (kU l a)) (dJ l a) = true := by
  obtain ⟨h1, h2, h3⟩ := cN l (kU l a)
  have h4 := yC l (uG l (kU l a) 6) (n := ((qN l (kU l a)).length : Int)) (by omega)
  exact k2b (t8 _ (tF l a)) (by omega) h1 (wR (k := kW l (uG l (kU l a) 6) ((qN l (kU l a)).length : Int)) (by omega) rfl)
/-! valid memories stay valid -/
theorem n9 {xs ys : List Ch} {k : Nat} (h : k < xs.length) : yG (xs ++ ys) k = yG xs k := by
  unfold yG; rw [ka9, ka9, List.getElem?_append_left h]
theorem n8 (xs : List Ch) (c : Ch) : yG (xs ++ [c]) xs.length = c := by
  unfold yG; rw [ka9, List.getElem?_append_right (kc1 _), Nat.sub_self]; rfl
def VM (xs : List Ch) : Prop := (∀ c ∈ xs, uS c.r c.s c.d = true) ∧ xs.Pairwise fun a b => uM a.r a.s b.r b.s = false
theorem gM {xs : List Ch} {k : Nat} (h : k < xs.length) : yG xs k ∈ xs := by
  unfold yG; rw [ka9, kb3 h]; exact List.getElem_mem h
theorem a6 {xs : List Ch} {k : Nat} (h : k < xs.length) : yG xs k = xs[k] := by
  unfold yG; rw [ka9, kb3 h]; rfl
theorem oJ {xs : List Ch} (h : yF xs = true) : xs.length ≤ 32 ∧ VM xs := by
  obtain ⟨h1, h2⟩ := oL h
  refine ⟨h1, fun c hc => ?_, ?_⟩
  · obtain ⟨j, hj, e⟩ := List.mem_iff_getElem.1 hc
    have h3 := gX (h2 j hj)
    unfold kF kD kM at h3; rw [a6 hj, e] at h3; exact h3
  · rw [List.pairwise_iff_getElem]
    intro i j hi hj hij
    have h3 := k31 (k1q (h2 j hj)) i (by rw [kb8]; omega)
    rw [wF hij, wE hij] at h3
    unfold kF kD at h3; rw [a6 hi, a6 hj] at h3; exact h3
theorem k1n {xs : List Ch} (h1 : xs.length ≤ 32) (h : VM xs) : yF xs = true := by
  refine fD h1 fun j hj => oM ?_ (zU fun k hk => ?_)
  · have h3 := h.1 _ (gM hj); exact h3
  · rw [kb8] at hk
    have hkj : k < j := by omega
    rw [wF hkj, wE hkj]
    have h3 := (List.pairwise_iff_getElem.1 h.2) k j (by omega) hj hkj
    rw [← a6 (by omega), ← a6 hj] at h3; exact h3
theorem oK {xs : List Ch} (h : VM xs) (p : Ch → Bool) : VM (gT p xs) := ⟨fun c hc => h.1 c (List.mem_filter.1 hc).1, h.2.filter _⟩
theorem lV {xs : List Ch} (h : VM xs) (n : Nat) : VM (List.drop n xs) := ⟨fun c hc => h.1 c (List.mem_of_mem_drop hc), h.2.drop⟩
theorem k1o {xs : List Ch} {r s : List Int} {d : Int} (h : VM xs) (hp : uS r s d = true) : VM (oT xs r s d) := by
  refine lV ⟨fun c hc => ?_, ?_⟩ _
  · rcases List.mem_append.1 hc with hc | hc
    · exact (oK h _).1 c hc
    · rw [List.mem_singleton.1 hc]; exact hp
  · rw [kj2]
    refine ⟨(oK h _).2, ki5 .., fun a ha b hb => ?_⟩
    rw [List.mem_singleton.1 hb]
    have : (!uM a.r a.s r s) = true := (List.mem_filter.1 ha).2
    show uM a.r a.s r s = false
    cases e : uM a.r a.s r s with
    | false => rfl
    | true => rw [e] at this; cases this
theorem bS {xs : List Ch} {r s : List Int} {d : Int} (h : yF xs = true) (hp : uS r s d = true) : yF (kE xs r s d) = true := by
  rw [(jT h hp).1]; exact k1n (l3 xs r s d) (k1o (oJ h).2 hp)
def mmP (l : List Int) (a : Nat) : Nat → List Ch × Nat
  | 0 => ([], a)
  | k + 1 => (kE (mmP l a k).1 (yP (kW l (mmP l a k).2 4)) (qN l (kU l (mmP l a k).2)) (dJ l (mmP l a k).2), nY l (mmP l a k).2)
def j5 (l : List Int) (a k : Nat) : List Ch := (mmP l a k).1
def nG (l : List Int) (a k : Nat) : Nat := (mmP l a k).2
theorem k0e {l : List Int} {a k : Nat} {o : List Ch} {b : Nat} (h : j5 l a k = o) (h2 : nG l a k = b) : j5 l a (k + 1) = kE o (yP (kW l b 4)) (qN l (kU l b)) (dJ l b) ∧ nG l a (k + 1) = nY l b := by
  subst h h2; exact ⟨rfl, rfl⟩
theorem mD (l : List Int) (a : Nat) : ∀ k, yF (j5 l a k) = true ∧ CsW (j5 l a k) ∧ (k ≤ 31 → (j5 l a k).length ≤ k)
  | 0 => ⟨rfl, CsW.nil, fun _ => kc1 _⟩
  | k + 1 => by
    obtain ⟨h1, h2, h3⟩ := mD l a k
    have e := (k0e (l := l) (a := a) (k := k) rfl rfl).1
    have hp := tH l (nG l a k)
    have hs := cN l (kU l (nG l a k))
    have hr := cU _ (tF l (nG l a k))
    rw [e]
    refine ⟨bS h1 hp, q9 h2 (cV _ (tF _ _)) zo zo, fun hk => ?_⟩
    have h4 := h3 (by omega)
    have h5 := f9 (j5 l a k) (yP (kW l (nG l a k) 4)) (qN l (kU l (nG l a k)))
    rw [(jT h1 hp).1, oS (by omega), ka4]; show _ + 1 ≤ _; omega
abbrev vE (l : List Int) (m : Nat) (a : Nat) : BC := .ds [D.sl (dI .i64 l) m, iD (((kU l a) : Nat) : Int)]
theorem t2 (l : List Int) (m a : Nat) (hm : ka0 l = m) (hb : m ≤ 9223372036854775807) (ha : a ≤ m) : Fun 17 [.c (.ptr 0 0)] (kC [(0, some (51, .ds [D.sl (dI .i64 l) m, iD ((a : Nat) : Int)]))]) 1 (kL (D.lit (.string (strOfNums (yP (kW l a 4)))))) (kC [(0, some (51, .ds [D.sl (dI .i64 l) m, iD (((kU l a) : Nat) : Int)]))]) 1 := by
  refine Fun.mk (n := 8) Try.func17 rfl rfl (ka3 rfl) ?_
  intro cx hcx
  refine kI [.no] True [(0, rV 0 0)] [(0, some (51, .ds [dl l m, uD a]))] 1 trivial ?_
  by_cases hx3 : ((((kW l a 4) : Nat) : Int) = 0)
  · have hx4 : ((((kW l a 4) : Nat) : Int) < 4) := yC l a zo
    have hx5 : ((kU l a) ≤ m) := qY zo zo
    refine kI [.no, .no, .call [0] (uV (kW l a 4)) [(0, some (51, (vE l m a)))] 1 [] none, .n2 0 0, .no, .no] ((_) ∧ (((kW l a 4 : Int) : Int) = 0) ∧ ((0 : Nat) < 4) ∧ ((0 : Nat) + 0 * 1 = 0)) [(2, kL (D.lit ((.string (ByteArray.mk #[109, 117, 115, 105, 99])))))] [(0, some (51, (vE l m a)))] 2 ⟨(vR l m a 4 zo zo zo zo), (by first | rfl | omega), zo, zo⟩ ?_
    refine AW.ret ?_
    exact kA (.inr rfl) [] (P := ((.string (strOfNums (yP (kW l a 4))) : Value) = .string (ByteArray.mk #[109, 117, 115, 105, 99])) ∧ (kR [dl l m, uD (kU l a)])) zk ⟨(congrArg (fun x9 => Value.string (strOfNums x9)) (show (yP (kW l a 4)) = ([109, 117, 115, 105, 99] : List Int) from (by first | (rw [show kW l a 4 = 0 by omega]; rfl) | (rw [show kW l a 4 = 1 by omega]; rfl) | (rw [show kW l a 4 = 2 by omega]; rfl) | (rw [show kW l a 4 = 3 by omega]; rfl)))), rfl⟩
  · by_cases hx8 : ((((kW l a 4) : Nat) : Int) = 1)
    · have hx9 : ((((kW l a 4) : Nat) : Int) < 4) := yC l a zo
      have hx10 : ((kU l a) ≤ m) := qY zo zo
      refine kI [.no, .no, .call [0] (uV (kW l a 4)) [(0, some (51, (vE l m a)))] 1 [] none, .n2 1 1, .no, .no] ((_) ∧ (((kW l a 4 : Int) : Int) = 1) ∧ ((1 : Nat) < 4) ∧ ((0 : Nat) + 1 * 1 = 1)) [(2, kL (D.lit ((.string (ByteArray.mk #[118, 111, 105, 99, 101])))))] [(0, some (51, (vE l m a)))] 2 ⟨(vR l m a 4 zo zo zo zo), (by first | rfl | omega), zo, zo⟩ ?_
      refine AW.ret ?_
      exact kA (.inr rfl) [] (P := ((.string (strOfNums (yP (kW l a 4))) : Value) = .string (ByteArray.mk #[118, 111, 105, 99, 101])) ∧ (kR [dl l m, uD (kU l a)])) zk ⟨(congrArg (fun x9 => Value.string (strOfNums x9)) (show (yP (kW l a 4)) = ([118, 111, 105, 99, 101] : List Int) from (by first | (rw [show kW l a 4 = 0 by omega]; rfl) | (rw [show kW l a 4 = 1 by omega]; rfl) | (rw [show kW l a 4 = 2 by omega]; rfl) | (rw [show kW l a 4 = 3 by omega]; rfl)))), rfl⟩
    · by_cases hx13 : ((((kW l a 4) : Nat) : Int) = 2)
      · have hx14 : ((((kW l a 4) : Nat) : Int) < 4) := yC l a zo
        have hx15 : ((kU l a) ≤ m) := qY zo zo
        refine kI [.no, .no, .call [0] (uV (kW l a 4)) [(0, some (51, (vE l m a)))] 1 [] none, .n2 2 2, .no, .no] ((_) ∧ (((kW l a 4 : Int) : Int) = 2) ∧ ((2 : Nat) < 4) ∧ ((0 : Nat) + 2 * 1 = 2)) [(2, kL (D.lit ((.string (ByteArray.mk #[97, 108, 97, 114, 109])))))] [(0, some (51, (vE l m a)))] 2 ⟨(vR l m a 4 zo zo zo zo), (by first | rfl | omega), zo, zo⟩ ?_
        refine AW.ret ?_
        exact kA (.inr rfl) [] (P := ((.string (strOfNums (yP (kW l a 4))) : Value) = .string (ByteArray.mk #[97, 108, 97, 114, 109])) ∧ (kR [dl l m, uD (kU l a)])) zk ⟨(congrArg (fun x9 => Value.string (strOfNums x9)) (show (yP (kW l a 4)) = ([97, 108, 97, 114, 109] : List Int) from (by first | (rw [show kW l a 4 = 0 by omega]; rfl) | (rw [show kW l a 4 = 1 by omega]; rfl) | (rw [show kW l a 4 = 2 by omega]; rfl) | (rw [show kW l a 4 = 3 by omega]; rfl)))), rfl⟩
      · have hx16 : ((((kW l a 4) : Nat) : Int) < 4) := yC l a zo
        have hx17 : ((kU l a) ≤ m) := qY zo zo
        refine kI [.no, .no, .call [0] (uV (kW l a 4)) [(0, some (51, (vE l m a)))] 1 [] none, .n2 3 3, .no, .no] ((_) ∧ (((kW l a 4 : Int) : Int) = 3) ∧ ((3 : Nat) < 4) ∧ ((0 : Nat) + 3 * 1 = 3)) [(2, kL (D.lit ((.string (ByteArray.mk #[103, 97, 109, 101])))))] [(0, some (51, (vE l m a)))] 2 ⟨(vR l m a 4 zo zo zo zo), (by first | rfl | omega), zo, zo⟩ ?_
        refine AW.ret ?_
        exact kA (.inr rfl) [] (P := ((.string (strOfNums (yP (kW l a 4))) : Value) = .string (ByteArray.mk #[103, 97, 109, 101])) ∧ (kR [dl l m, uD (kU l a)])) zk ⟨(congrArg (fun x9 => Value.string (strOfNums x9)) (show (yP (kW l a 4)) = ([103, 97, 109, 101] : List Int) from (by first | (rw [show kW l a 4 = 0 by omega]; rfl) | (rw [show kW l a 4 = 1 by omega]; rfl) | (rw [show kW l a 4 = 2 by omega]; rfl) | (rw [show kW l a 4 = 3 by omega]; rfl)))), rfl⟩
theorem cD {p : Prop} (h : p := by first | omega | assumption | simp) : p := h
theorem vC {p : Prop} (h : p := by first | omega | with_reducible assumption | (simp only [kK, kH, kO, ka8, ka4, kb5, kb6, kb8, kc0, kc4, ka8] <;> omega) | rfl | assumption) : p := h
theorem cE {p : Prop} (h : p := by first | omega | (simp only [kK, kH, kO, ka8, uL, ka4, kb5, kb6, kb8, kc0, kc4, ka8, kc8, kd6, ke3] <;> omega) | rfl) : p := h
theorem eV {p : Prop} (h : p := by first | rfl | omega | assumption | (simp; done) | (simp; omega)) : p := h
abbrev yN (l : List Int) (m : Nat) (a : Nat) (k : Nat) : BC := .ds [D.sl (dI .i64 l) m, iD (((uG l a k) : Nat) : Int)]
abbrev cL (l : List Int) (m : Nat) (a : Nat) (k : Nat) : BC := .ds [D.sl (dI .i64 l) m, iD (((kU l (uG l a k)) : Nat) : Int)]
theorem z7 (l : List Int) (m a : Nat) (hm : ka0 l = m) (hb : m ≤ 9223372036854775807) (ha : a ≤ m) : Fun 18 [.c (.ptr 0 0)] (kC [(0, some (51, .ds [D.sl (dI .i64 l) m, iD ((a : Nat) : Int)]))]) 1 (sV .u64 (qN l a) (ka0 (qN l a))) (kC [(0, some (51, .ds [D.sl (dI .i64 l) m, iD (((uG l a 6) : Nat) : Int)]))]) 1 := by
  refine Fun.mk (n := 22) Try.func18 rfl rfl (ka3 rfl) ?_
  intro cx hcx
  refine kI [.no] True [(0, rV 0 0)] [(0, some (51, .ds [dl l m, uD a]))] 1 trivial ?_
  refine yT [.no] True [(0, rV 0 0), (3, nV)] trivial ?_
  refine AW.seq ?_
  refine yT [.no] True [(0, rV 0 0), (3, nV), (4, iV 1)] trivial ?_
  refine AW.block ?_
  refine AW.adoptS 3 1 27 rfl ?_
  refine kV 1 hcx (fun (x : {x : Nat × Nat × List Int // match x with | (k, q, o) => (k ≤ 6 ∧ q ≤ k) ∧ (gR l a k = o) ∧ (ka0 o = q) ∧ (uG l a k ≤ m)}) => match x with | ⟨(k, q, o), _⟩ => (⟨[(0, rV 0 0), (3, oV 2 0 q 1), (4, iV ((k : Int) + 1))], [(0, some (51, (yN l m a k))), (2, some (27, .ds (dI .u64 o)))], 3⟩ : ES)) (fun x => match x with | ⟨(k, q, o), _⟩ => 6 - k) ⟨((0 : Nat), (0 : Nat), (([] : List Int) : List Int)), ⟨cD, rfl, rfl, ha⟩⟩ [(2, 1)] (P := (kT 0) ∧ (kT 0) ∧ (kT 0) ∧ (k8 1) ∧ (([dl l m, uD (uG l a 0)] : List D) = [dl l m, uD a]) ∧ (((dI .u64 ([] : List Int)) : List D) = ([] : List D))) zk ⟨rfl, rfl, rfl, rfl, (by first | rfl | with_reducible assumption), (by first | rfl | with_reducible assumption)⟩ ?_
  rintro ⟨⟨k, q, o⟩, hinv0⟩
  obtain ⟨hk, hO, hL, hA⟩ : (k ≤ 6 ∧ q ≤ k) ∧ (gR l a k = o) ∧ (ka0 o = q) ∧ (uG l a k ≤ m) := hinv0
  refine qW (l := [(0, rV 0 0), (3, oV 2 0 q 1), (4, iV ((k : Int) + 1))]) (g := [(0, some (51, (yN l m a k))), (2, some (27, .ds (dI .u64 o)))]) (nx := 3) rfl rfl rfl ?_
  refine AW.seq ?_
  by_cases hx1 : ((((k : Nat) : Int) + 1) ≤ 6)
  · refine zr [.no, .b true] [0, 3, 4, 6] [0, 2] ((((k : Int) + 1) ≤ 6)) [(0, rV 0 0), (3, oV 2 0 q 1), (4, iV (↑k + 1)), (6, bV true)] [(0, some (51, (yN l m a k))), (2, some (27, .ds (dI .u64 o)))] 3 zo ?_
    refine cB ?_
    refine AW.seq ?_
    refine AW.block ?_
    by_cases hx4 : ((((kW l (uG l a k) 2) : Nat) : Int) = 0)
    · have hx5 : ((((kW l (uG l a k) 2) : Nat) : Int) < 2) := yC l (uG l a k) zo
      have hx6 : ((kU l (uG l a k)) ≤ m) := qY zo zo
      refine kI [.no, .call [0] (uV (kW l (uG l a k) 2)) [(0, some (51, (cL l m a k)))] 1 [] none, .b true] ((_) ∧ (((kW l (uG l a k) 2 : Int) = 0))) [(0, rV 0 0), (3, oV 2 0 q 1), (4, iV (↑k + 1)), (11, bV true)] [(0, some (51, (cL l m a k))), (2, some (27, .ds (dI .u64 o)))] 3 ⟨(vR l m (uG l a k) 2 zo zo vC zo), zo⟩ ?_
      refine zt ?_
      refine bQ [.no, .no, .w, .no, .ap none (q + 1) (dI .u64 (o ++ ([((k : Int) + 1)] : List Int))), .no] ((0 ≤ ((k : Int) + 1) ∧ ((k : Int) + 1) ≤ 18446744073709551615) ∧ ([D.lit (.int .u64 ((k : Int) + 1))].length = 1 * 1) ∧ (((dI .u64 o) : List D).length = q * 1) ∧ ((q + 1) * 8 ≤ 140737488355328) ∧ (q + 1 = (q + 1)) ∧ (((dI .u64 o) : List D) ++ [D.lit (.int .u64 ((k : Int) + 1))] = (dI .u64 (o ++ ([((k : Int) + 1)] : List Int))))) [(0, rV 0 0), (3, oV 4 0 (q + 1) 1), (4, iV (↑k + 1))] [(0, some (51, (cL l m a k))), (4, some (27, .ds (dI .u64 (o ++ ([(↑k + 1)] : List Int)))))] 5 ⟨⟨by omega, by omega⟩, cE, cE, zo, zo, (tG .u64 o ([((k : Int) + 1)] : List Int))⟩ ?_
      refine cG [.no, .w, .no] (uU (((k : Int) + 1) + 1)) [(0, rV 0 0), (3, oV 4 0 (q + 1) 1), (4, iV ((↑k + 1) + 1))] ⟨by omega, by omega⟩ ?_
      exact kY ⟨(((k + 1) : Nat), ((q + 1) : Nat), ((o ++ ([((k : Int) + 1)] : List Int)) : List Int)), ⟨cD, (by first | exact k1r hO zo | exact k1s hO zo), (by first | assumption | omega | (simp only [kK, kH, kO, ka8, ka4, kb5, kb6] <;> omega)), (qY hm hA)⟩⟩ [(2, 4)] (P := (kT 0) ∧ (kT 0) ∧ (kT (q + 1)) ∧ ((((((k + 1) : Nat) : Int) + 1) : Int) = (((k : Int) + 1) + 1)) ∧ (([dl l m, uD (uG l a (k + 1))] : List D) = [dl l m, uD (kU l (uG l a k))]) ∧ (kR (dI .u64 (o ++ ([((k : Int) + 1)] : List Int))))) zk ⟨rfl, rfl, rfl, eV, (by first | rfl | with_reducible assumption), rfl⟩ (show 6 - (k + 1) < 6 - k from (by first | omega | (show _ < _; simp; omega)))
    · have hx7 : ((((kW l (uG l a k) 2) : Nat) : Int) < 2) := yC l (uG l a k) zo
      have hx8 : ((kU l (uG l a k)) ≤ m) := qY zo zo
      refine kI [.no, .call [0] (uV (kW l (uG l a k) 2)) [(0, some (51, (cL l m a k)))] 1 [] none, .b false] ((_) ∧ (¬ ((kW l (uG l a k) 2 : Int) = 0))) [(0, rV 0 0), (3, oV 2 0 q 1), (4, iV (↑k + 1)), (11, bV false)] [(0, some (51, (cL l m a k))), (2, some (27, .ds (dI .u64 o)))] 3 ⟨(vR l m (uG l a k) 2 zo zo vC zo), zo⟩ ?_
      refine uF ?_
      refine cG [.no, .w, .no] (uU (((k : Int) + 1) + 1)) [(0, rV 0 0), (3, oV 2 0 q 1), (4, iV ((↑k + 1) + 1))] ⟨by omega, by omega⟩ ?_
      exact kY ⟨(((k + 1) : Nat), (q : Nat), (o : List Int)), ⟨cD, (by first | exact k1r hO zo | exact k1s hO zo), (by first | assumption | omega | (simp only [kK, kH, kO, ka8, ka4, kb5, kb6] <;> omega)), (qY hm hA)⟩⟩ [] (P := (kT 0) ∧ (kT 0) ∧ (kT q) ∧ ((((((k + 1) : Nat) : Int) + 1) : Int) = (((k : Int) + 1) + 1)) ∧ (([dl l m, uD (uG l a (k + 1))] : List D) = [dl l m, uD (kU l (uG l a k))]) ∧ (kR (dI .u64 o))) zk ⟨rfl, rfl, rfl, eV, (by first | rfl | with_reducible assumption), rfl⟩ (show 6 - (k + 1) < 6 - k from (by first | omega | (show _ < _; simp; omega)))
  · refine zr [.no, .b false] [0, 3, 4, 6] [0, 2] (¬ (((k : Int) + 1) ≤ 6)) [(0, rV 0 0), (3, oV 2 0 q 1), (4, iV (↑k + 1)), (6, bV false)] [(0, some (51, (yN l m a k))), (2, some (27, .ds (dI .u64 o)))] 3 zo ?_
    refine zf ?_
    refine AW.exit ?_
    refine AW.seq ?_
    by_cases hx9 : (((q : Nat) : Int) = 0)
    · refine zr [.no, .no, .b true] [3, 19] [0, 2] (((q : Int) = 0)) [(3, oV 2 0 q 1), (19, bV true)] [(0, some (51, (yN l m a k))), (2, some (27, .ds (dI .u64 o)))] 3 zo ?_
      refine zt ?_
      refine kI [.no, .no] True [(2, oV 3 0 1 1)] [(0, some (51, (yN l m a k))), (3, some (27, .ds [D.lit (.int .u64 7)]))] 4 trivial ?_
      refine AW.freeze 3 (l' := [(2, uT [D.lit (.int .u64 7)] 1)]) (g' := [(0, some (51, (yN l m a k)))]) rfl (FzS.cons rfl (.e (.c (@FzC.own 3 ([D.lit (.int .u64 7)] : List D) 0 (1 : Nat) 1 true ([D.lit (.int .u64 7)] : List D) (by rw [kf5, ke3, kc5 (by first | omega | (simp only [kK, kH, kO, ka8, uL, ka4, kb5, kb6, kb8, kc0, kc4, ka8, kc8, kd6, ke3] <;> omega))]) cE))) FzS.nil) (vS rfl rfl FzG.nil) ?_
      obtain rfl : k = 6 := (by omega)
      have hz1 : qN l a = [7] := k3n (by rw [hO]; omega)
      refine AW.ret ?_
      exact kA (.inr rfl) [] (P := (((dI .u64 (qN l a)) : List D) = [D.lit (.int .u64 7)]) ∧ (((ka0 (qN l a)) : Nat) = 1) ∧ (kR [dl l m, uD (uG l a 6)])) zk ⟨(by first | rfl | (rw [hz1]; done) | (rw [hz1]; rfl) | (rw [hz1, hO]; done) | (rw [hz1, hO]; rfl) | (rw [hz1, hO]; omega) | omega), (by first | rfl | (rw [hz1]; done) | (rw [hz1]; rfl) | (rw [hz1, hO]; done) | (rw [hz1, hO]; rfl) | (rw [hz1, hO]; omega) | omega), rfl⟩
    · refine zr [.no, .no, .b false] [3, 19] [0, 2] (¬ ((q : Int) = 0)) [(3, oV 2 0 q 1), (19, bV false)] [(0, some (51, (yN l m a k))), (2, some (27, .ds (dI .u64 o)))] 3 zo ?_
      refine uF ?_
      refine kI [.no, .no] True [(2, oV 2 0 q 1)] [(0, some (51, (yN l m a k))), (2, some (27, .ds (dI .u64 o)))] 3 trivial ?_
      refine AW.freeze 2 (l' := [(2, sV .u64 o q)]) (g' := [(0, some (51, (yN l m a k)))]) rfl (FzS.cons rfl (.e (.c (@FzC.own 2 ((dI .u64 o) : List D) 0 q 1 true ((dI .u64 o) : List D) (by rw [kf5, ke3, kc5 (by first | omega | (simp only [kK, kH, kO, ka8, uL, ka4, kb5, kb6, kb8, kc0, kc4, ka8, kc8, kd6, ke3] <;> omega))]) cE))) FzS.nil) (vS rfl rfl FzG.nil) ?_
      obtain rfl : k = 6 := (by omega)
      have hz1 : qN l a = gR l a 6 := k3o (by rw [hO]; omega)
      refine AW.ret ?_
      exact kA (.inr rfl) [] (P := (((dI .u64 (qN l a)) : List D) = (dI .u64 o)) ∧ (((ka0 (qN l a)) : Nat) = q) ∧ (kR [dl l m, uD (uG l a 6)])) zk ⟨(by first | rfl | (rw [hz1]; done) | (rw [hz1]; rfl) | (rw [hz1, hO]; done) | (rw [hz1, hO]; rfl) | (rw [hz1, hO]; omega) | omega), (by first | rfl | (rw [hz1]; done) | (rw [hz1]; rfl) | (rw [hz1, hO]; done) | (rw [hz1, hO]; rfl) | (rw [hz1, hO]; omega) | omega), rfl⟩
theorem jH (l : List Int) (m a : Nat) (hm : ka0 l = m) (hb : m ≤ 9223372036854775807) (ha : a ≤ m) : Fun 9 [.c (.ptr 0 0)] (kC [(0, some (51, .ds [D.sl (dI .i64 l) m, iD ((a : Nat) : Int)]))]) 1 (.e (.agg [.d (D.lit (.string (strOfNums (yP (kW l a 4))))), .d (D.sl (dI .u64 (qN l (kU l a))) (ka0 (qN l (kU l a)))), .d (D.lit (.int .u64 (dJ l a)))])) (kC [(0, some (51, .ds [D.sl (dI .i64 l) m, iD (((nY l a) : Nat) : Int)]))]) 1 := by
  refine Fun.mk (n := 20) Try.func9 rfl rfl (ka3 rfl) ?_
  intro cx hcx
  refine kI [.no] True [(0, rV 0 0), (2, rV 1 0)] [(0, some (51, .ds [dl l m, uD a])), (1, some (29, .ds [D.lit (.string { data := #[] }), uC, D.lit (.int .u64 0)]))] 2 trivial ?_
  have hx1 : ((kW l a 4) < 4) := tF _ _
  have hx2 : ((kU l a) ≤ m) := qY (zo) (zo)
  have hx3 : ((ka0 (yP (kW l a 4))) ≤ 5) := (cU _ (tF _ _))
  have hx4 : (((1 : Nat) ≤ (ka0 (qN l (kU l a)))) ∧ ((ka0 (qN l (kU l a))) ≤ 6)) := (cN l (kU l a)).2
  have hx5 : ((uG l (kU l a) 6) ≤ m) := fH (zo) (vC) 6
  refine kI [.no, .call [0] (kL (D.lit (.string (strOfNums (yP (kW l a 4)))))) [(0, some (51, .ds [dl l m, uD (kU l a)]))] 1 [] none, .no, .call [0] (sV .u64 (qN l (kU l a)) (ka0 (qN l (kU l a)))) [(0, some (51, .ds [dl l m, uD (uG l (kU l a) 6)]))] 1 [] none, .no, .no, .no] ((_) ∧ (_)) [(0, rV 0 0), (2, rV 1 0), (3, rV 2 0)] [(0, some (51, .ds [dl l m, uD (uG l (kU l a) 6)])), (1, some (29, .ds [D.lit (.string { data := #[] }), uC, D.lit (.int .u64 0)])), (2, some (29, .ds [D.lit (.string (strOfNums (yP (kW l a 4)))), D.sl (dI .u64 (qN l (kU l a))) (ka0 (qN l (kU l a))), D.lit (.int .u64 0)]))] 3 ⟨(t2 l m a zo zo zo), (z7 l m (kU l a) zo zo vC)⟩ ?_
  have hx6 : ((((kW l (uG l (kU l a) 6) (((ka0 (qN l (kU l a))) : Nat) : Int)) : Nat) : Int) < (((ka0 (qN l (kU l a))) : Nat) : Int)) := yC l (uG l (kU l a) 6) zo
  have hx7 : ((kU l (uG l (kU l a) 6)) ≤ m) := qY zo zo
  refine kI (qA 6 [.call [0] (iV (((kW l (uG l (kU l a) 6) (ka0 (qN l (kU l a)) : Int)) : Nat) : Int)) [(0, some (51, .ds [dl l m, uD (kU l (uG l (kU l a) 6))]))] 1 [] none, .n (kW l (uG l (kU l a) 6) (ka0 (qN l (kU l a)) : Int)), .d (D.lit (.int .u64 (ka2 (qN l (kU l a)) (kW l (uG l (kU l a) 6) (ka0 (qN l (kU l a)) : Int)) 0))), .no, .no]) ((_) ∧ (k8 (((kW l (uG l (kU l a) 6) (ka0 (qN l (kU l a)) : Int)) : Nat) : Int)) ∧ ((kW l (uG l (kU l a) 6) (ka0 (qN l (kU l a)) : Int)) < (ka0 (qN l (kU l a)))) ∧ ((List.drop (kW l (uG l (kU l a) 6) (ka0 (qN l (kU l a)) : Int)) (dI .u64 (qN l (kU l a))))[0]? = some (D.lit (.int .u64 (ka2 (qN l (kU l a)) (kW l (uG l (kU l a) 6) (ka0 (qN l (kU l a)) : Int)) 0))))) [(2, rV 1 0), (3, rV 2 0)] [(0, some (51, .ds [dl l m, uD (kU l (uG l (kU l a) 6))])), (1, some (29, .ds [D.lit (.string { data := #[] }), uC, D.lit (.int .u64 0)])), (2, some (29, .ds [D.lit (.string (strOfNums (yP (kW l a 4)))), D.sl (dI .u64 (qN l (kU l a))) (ka0 (qN l (kU l a))), D.lit (.int .u64 (ka2 (qN l (kU l a)) (kW l (uG l (kU l a) 6) (ka0 (qN l (kU l a)) : Int)) 0))]))] 3 ⟨(vR l m (uG l (kU l a) 6) (ka0 (qN l (kU l a)) : Int) zo zo vC vC), rfl, zo, (qV _ _ _ cE)⟩ ?_
  refine kI [.no, .no] True [(2, rV 1 0)] [(0, some (51, .ds [dl l m, uD (kU l (uG l (kU l a) 6))])), (1, some (29, .ds [D.lit (.string (strOfNums (yP (kW l a 4)))), D.sl (dI .u64 (qN l (kU l a))) (ka0 (qN l (kU l a))), D.lit (.int .u64 (ka2 (qN l (kU l a)) (kW l (uG l (kU l a) 6) (ka0 (qN l (kU l a)) : Int)) 0))]))] 3 trivial ?_
  refine AW.ret ?_
  exact kA (.inr rfl) [] (P := ((.string (strOfNums (yP (kW l a 4))) : Value) = .string (strOfNums (yP (kW l a 4)))) ∧ (kR (dI .u64 (qN l (kU l a)))) ∧ (kT (ka0 (qN l (kU l a)))) ∧ (((dJ l a) : Int) = (ka2 (qN l (kU l a)) (kW l (uG l (kU l a) 6) (ka0 (qN l (kU l a)) : Int)) 0)) ∧ (([dl l m, uD (nY l a)] : List D) = [dl l m, uD (kU l (uG l (kU l a) 6))])) zk ⟨rfl, rfl, rfl, (by first | rfl | omega | (unfold dJ; rfl) | (unfold nY; rfl)), (by first | rfl | (unfold nY; rfl))⟩
theorem t3 (l : List Int) (m a : Nat) (hm : ka0 l = m) (hb : m ≤ 9223372036854775807) (ha : a ≤ m) : Fun 8 [.c (.ptr 0 0)] (kC [(0, some (51, .ds [D.sl (dI .i64 l) m, iD ((a : Nat) : Int)]))]) 1 (.e (.agg [.d (D.sl (kB (j5 l (kU l a) (kW l a 7))) (ka0 (j5 l (kU l a) (kW l a 7))))])) (kC [(0, some (51, .ds [D.sl (dI .i64 l) m, iD (((nG l (kU l a) (kW l a 7)) : Nat) : Int)]))]) 1 := by
  refine Fun.mk (n := 19) Try.func8 rfl rfl (ka3 rfl) ?_
  intro cx hcx
  refine kI [.no] True [(0, rV 0 0), (2, rV 1 0)] [(0, some (51, .ds [dl l m, uD a])), (1, some (25, .ds [uC]))] 2 trivial ?_
  refine kI [.no] True [(0, rV 0 0), (2, rV 1 0), (3, rV 2 0)] [(0, some (51, .ds [dl l m, uD a])), (1, some (25, .ds [uC])), (2, some (25, .ds [uC]))] 3 trivial ?_
  refine AW.seq ?_
  refine dN (l' := [(0, rV 0 0), (2, rV 1 0), (3, rV 2 0)]) (g' := [(0, some (51, .ds [dl l m, uD a])), (1, some (25, .ds [D.sl ([] : List D) 0])), (2, some (25, .ds [D.sl ([] : List D) 0]))]) (NlS.cons rfl (.same _) (NlS.cons rfl (.same _) (NlS.cons rfl (.same _) NlS.nil))) (tW rfl (NlG.to (bc := .ds [uC]) rfl (NlL.cons (.nil) NlL.nil) (NlG.to (bc := .ds [uC]) rfl (NlL.cons (.nil) NlL.nil) NlG.nil))) ?_
  have hx1 : ((((kW l a 7) : Nat) : Int) < 7) := yC l a zo
  have hx2 : ((kU l a) ≤ m) := qY zo zo
  refine kI [.no, .call [0] (uV (kW l a 7)) [(0, some (51, .ds [dl l m, uD (kU l a)]))] 1 [] none, .no] _ [(0, rV 0 0), (2, rV 1 0), (3, rV 2 0), (4, uV (kW l a 7))] [(0, some (51, .ds [dl l m, uD (kU l a)])), (1, some (25, .ds [D.sl ([] : List D) 0])), (2, some (25, .ds [D.sl ([] : List D) 0]))] 3 (vR l m a 7 zo zo zo zo) ?_
  refine AW.block ?_
  refine kV 1 hcx (fun (x : {x : Nat × Nat × List Ch × Nat // match x with | (k, c, o, b) => (k ≤ kW l a 7 ∧ c ≤ 32) ∧ (j5 l (kU l a) k = o) ∧ (nG l (kU l a) k = b) ∧ (ka0 o = c) ∧ (CsW o) ∧ (b ≤ m)}) => match x with | ⟨(k, c, o, b), _⟩ => (⟨[(0, rV 0 0), (2, rV 1 0), (3, rV 2 0), (4, iV ((kW l a 7 : Int) - (k : Int)))], [(0, some (51, .ds [dl l m, uD b])), (1, some (25, .ds [D.sl ([] : List D) 0])), (2, some (25, .ds [D.sl (kB o) c]))], 3⟩ : ES)) (fun x => match x with | ⟨(k, c, o, b), _⟩ => kW l a 7 - k) ⟨((0 : Nat), (0 : Nat), (([] : List Ch) : List Ch), ((kU l a) : Nat)), ⟨cD, rfl, rfl, rfl, CsW.nil, zo⟩⟩ [] (P := (kT 0) ∧ (kT 0) ∧ (kT 0) ∧ ((((kW l a 7 : Int) - 0) : Int) = (kW l a 7 : Int)) ∧ (kR [dl l m, uD (kU l a)]) ∧ (kR [D.sl ([] : List D) 0]) ∧ (([D.sl (kB ([] : List Ch)) 0] : List D) = [D.sl ([] : List D) 0])) zk ⟨rfl, rfl, rfl, eV, rfl, rfl, (by first | rfl | with_reducible assumption | (simp only [xY, xZ, tG]; rfl) | (congr 1; first | assumption | (simp; done) | omega))⟩ ?_
  rintro ⟨⟨k, c, o, b⟩, hinv0⟩
  obtain ⟨hk, hO, hB, hL, hW, hA⟩ : (k ≤ kW l a 7 ∧ c ≤ 32) ∧ (j5 l (kU l a) k = o) ∧ (nG l (kU l a) k = b) ∧ (ka0 o = c) ∧ (CsW o) ∧ (b ≤ m) := hinv0
  refine qW (l := [(0, rV 0 0), (2, rV 1 0), (3, rV 2 0), (4, iV ((kW l a 7 : Int) - (k : Int)))]) (g := [(0, some (51, .ds [dl l m, uD b])), (1, some (25, .ds [D.sl ([] : List D) 0])), (2, some (25, .ds [D.sl (kB o) c]))]) (nx := 3) rfl rfl rfl ?_
  refine AW.seq ?_
  by_cases hx3 : ((0 : Int) < ((((kW l a 7) : Nat) : Int) - ((k : Nat) : Int)))
  · refine zr [.no, .b true] [0, 2, 3, 4, 8] [0, 1, 2] (((0 : Int) < ((kW l a 7 : Int) - (k : Int)))) [(0, rV 0 0), (2, rV 1 0), (3, rV 2 0), (4, iV ((kW l a 7 : Int) - ↑k)), (8, bV true)] [(0, some (51, .ds [dl l m, uD b])), (1, some (25, .ds [D.sl ([] : List D) 0])), (2, some (25, .ds [D.sl (kB o) c]))] 3 zo ?_
    refine cB ?_
    refine AW.seq ?_
    refine AW.block ?_
    have hx4 : (((1 : Nat) ≤ (ka0 (qN l (kU l b)))) ∧ ((ka0 (qN l (kU l b))) ≤ 6)) := (cN l _).2
    have hx5 : ((nY l b) ≤ m) := lP (zo) (zo)
    have hx6 : ((kW l b 4) < 4) := tF _ _
    have hx7 : ((ka0 (yP (kW l b 4))) ≤ 5) := (cU _ (tF _ _))
    have hx8 : ((ka0 (kE o (yP (kW l b 4)) (qN l (kU l b)) (dJ l b))) ≤ 32) := (fK o (yP (kW l b 4)) (qN l (kU l b)) (dJ l b))
    have hx9 : (((0 : Int) ≤ (aA o (yP (kW l b 4)) (qN l (kU l b)) (dJ l b))) ∧ ((aA o (yP (kW l b 4)) (qN l (kU l b)) (dJ l b)) ≤ 2)) := (fL o (yP (kW l b 4)) (qN l (kU l b)) (dJ l b))
    refine bQ (.no :: .no :: .call [0] (.e (.agg [.d (D.lit (.string (strOfNums (yP (kW l b 4))))), .d (D.sl (dI .u64 (qN l (kU l b))) (ka0 (qN l (kU l b)))), .d (D.lit (.int .u64 (dJ l b)))])) [(0, some (51, .ds [dl l m, uD (nY l b)]))] 1 [] none :: .call [] (.tup [.agg [.d (D.sl (kB (kE o (yP (kW l b 4)) (qN l (kU l b)) (dJ l b))) (ka0 (kE o (yP (kW l b 4)) (qN l (kU l b)) (dJ l b))))], iE (aA o (yP (kW l b 4)) (qN l (kU l b)) (dJ l b))]) [] 0 [] none :: qA 4 []) ((_) ∧ (_)) [(0, rV 0 0), (2, rV 1 0), (3, rV 2 0), (4, iV ((kW l a 7 : Int) - ↑k))] [(0, some (51, .ds [dl l m, uD (nY l b)])), (1, some (25, .ds [D.sl ([] : List D) 0])), (2, some (25, .ds [D.sl (kB (kE o (yP (kW l b 4)) (qN l (kU l b)) (dJ l b))) (ka0 (kE o (yP (kW l b 4)) (qN l (kU l b)) (dJ l b)))]))] 3 ⟨(jH l m b zo zo zo), (k1h o c (yP (kW l b 4)) (qN l (kU l b)) (ka0 (qN l (kU l b))) (dJ l b) zo zo (kQ : CsW o) (cV _ zo) vC rfl vC)⟩ ?_
    refine cG [.no, .w, .no] (uU (((kW l a 7 : Int) - (k : Int)) - 1)) [(0, rV 0 0), (2, rV 1 0), (3, rV 2 0), (4, iV (((kW l a 7 : Int) - ↑k) - 1))] ⟨by omega, by omega⟩ ?_
    exact kY ⟨(((k + 1) : Nat), ((ka0 (kE o (yP (kW l b 4)) (qN l (kU l b)) (dJ l b))) : Nat), ((kE o (yP (kW l b 4)) (qN l (kU l b)) (dJ l b)) : List Ch), ((nY l b) : Nat)), ⟨cD, (k0e hO hB).1, (k0e hO hB).2, (by first | assumption | rfl | omega), (by first | assumption | exact q9 hW (cV _ zo) zo zo), zo⟩⟩ [] (P := (kT 0) ∧ (kT 0) ∧ (kT 0) ∧ ((((kW l a 7 : Int) - (((k + 1) : Nat) : Int)) : Int) = (((kW l a 7 : Int) - (k : Int)) - 1)) ∧ (kR [dl l m, uD (nY l b)]) ∧ (kR [D.sl ([] : List D) 0]) ∧ (kR [D.sl (kB (kE o (yP (kW l b 4)) (qN l (kU l b)) (dJ l b))) (ka0 (kE o (yP (kW l b 4)) (qN l (kU l b)) (dJ l b)))])) zk ⟨rfl, rfl, rfl, eV, rfl, rfl, rfl⟩ (show kW l a 7 - (k + 1) < kW l a 7 - k from (by first | omega | (show _ < _; simp; omega)))
  · refine zr [.no, .b false] [0, 2, 3, 4, 8] [0, 1, 2] (¬ ((0 : Int) < ((kW l a 7 : Int) - (k : Int)))) [(0, rV 0 0), (2, rV 1 0), (3, rV 2 0), (4, iV ((kW l a 7 : Int) - ↑k)), (8, bV false)] [(0, some (51, .ds [dl l m, uD b])), (1, some (25, .ds [D.sl ([] : List D) 0])), (2, some (25, .ds [D.sl (kB o) c]))] 3 zo ?_
    refine zf ?_
    refine AW.exit ?_
    refine kI [.no, .no] True [(2, rV 1 0)] [(0, some (51, .ds [dl l m, uD b])), (1, some (25, .ds [D.sl (kB o) c]))] 3 trivial ?_
    obtain rfl : k = (kW l a 7) := (by omega)
    refine AW.ret ?_
    exact kA (.inr rfl) [] (P := (((kB (j5 l (kU l a) (kW l a 7))) : List D) = (kB o)) ∧ (((ka0 (j5 l (kU l a) (kW l a 7))) : Nat) = c) ∧ (([dl l m, uD (nG l (kU l a) (kW l a 7))] : List D) = [dl l m, uD b])) zk ⟨(by first | rfl | (rw [hO]; done) | (rw [hB]; done) | (rw [hO]; rfl) | (rw [hB]; rfl) | (rw [hO]; omega) | omega), (by first | rfl | (rw [hO]; done) | (rw [hB]; done) | (rw [hO]; rfl) | (rw [hB]; rfl) | (rw [hO]; omega) | omega), (by first | rfl | (rw [hO]; done) | (rw [hB]; done) | (rw [hO]; rfl) | (rw [hB]; rfl) | (rw [hO]; omega) | omega)⟩
end Go.Proofs.Ytkjmlililpgamaa
