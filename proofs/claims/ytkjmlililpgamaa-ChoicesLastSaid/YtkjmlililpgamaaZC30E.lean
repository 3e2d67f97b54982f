/- Choices out of a deck. No statement is proved here. -/
import Derived.Test.YtkjmlililpgamaaZC30D
namespace Go.Proofs.Ytkjmlililpgamaa
open Go.ChangeShapes Go.WideShapes Go.ChangeAt Go.RowKit
open List renaming drop_zero → kf7, getD → ka2, getD_eq_getElem?_getD → kb0, getElem?_eq_getElem → kb5, length → ka0, length_append → ka5, length_cons → kb7, length_drop → kc0, length_map → kd1, length_nil → kb8, length_replicate → kc5, length_reverse → kd8, length_set → ka8, length_take → kb9, pairwise_append → kj4, pairwise_singleton → ki7, take_of_length_le → kc7
open Nat renaming le_of_ble_eq_true → ka3, le_refl → kc2, mul_one → ke5
set_option linter.unusedVariables false
set_option linter.unusedSimpArgs false
/-! choices out of a deck -/
set_option maxHeartbeats 4000000
set_option maxRecDepth 100000
def roT : List (List Int) := [[109, 117, 115, 105, 99], [118, 111, 105, 99, 101], [97, 108, 97, 114, 109], [103, 97, 109, 101]]
def yV (j : Nat) : List Int := ka2 roT j []
theorem xK : ∀ j, j < 4 → qM (yV j) = true := by decide
theorem dE : ∀ j, j < 4 → Byt (yV j) := by
  intro j hj
  match j, hj with
  | 0, _ => exact fun x hx => by revert x; decide
  | 1, _ => exact fun x hx => by revert x; decide
  | 2, _ => exact fun x hx => by revert x; decide
  | 3, _ => exact fun x hx => by revert x; decide
theorem dD : ∀ j, j < 4 → (yV j).length ≤ 5 := by decide
def uJ (l : List Int) (a : Nat) : Nat → Nat
  | 0 => a
  | k + 1 => kV l (uJ l a k)
def iK (l : List Int) (a : Nat) : Nat → List Int
  | 0 => []
  | k + 1 => if kZ l (uJ l a k) 2 = 0 then iK l a k ++ [((k : Nat) : Int) + 1] else iK l a k
theorem f8 {l : List Int} {a m : Nat} (hm : l.length = m) (h : a ≤ m) : ∀ k, uJ l a k ≤ m
  | 0 => h
  | k + 1 => qZ hm (f8 hm h k)
theorem k08 (l : List Int) (a : Nat) : ∀ k, (iK l a k).Pairwise (· < ·) ∧ (∀ x ∈ iK l a k, 1 ≤ x ∧ x ≤ (k : Int)) ∧ (iK l a k).length ≤ k
  | 0 => ⟨List.Pairwise.nil, fun x h => (List.not_mem_nil h).elim, kc2 _⟩
  | k + 1 => by
    obtain ⟨h1, h2, h3⟩ := k08 l a k
    unfold iK
    split
    · refine ⟨?_, ?_, ?_⟩
      · rw [kj4]
        refine ⟨h1, ki7 .., fun x hx y hy => ?_⟩
        rw [List.mem_singleton.1 hy]; have := h2 x hx; omega
      · intro x hx
        rcases List.mem_append.1 hx with hx | hx
        · have := h2 x hx; omega
        · rw [List.mem_singleton.1 hx]; omega
      · rw [ka5]; show _ + 1 ≤ k + 1; omega
    · exact ⟨h1, fun x hx => by have := h2 x hx; omega, by omega⟩
def qO (l : List Int) (a : Nat) : List Int := if (iK l a 6).length = 0 then [7] else iK l a 6
theorem c7 (l : List Int) (a : Nat) : v8 (qO l a) = true ∧ 1 ≤ (qO l a).length ∧ (qO l a).length ≤ 6 := by
  obtain ⟨h1, h2, h3⟩ := k08 l a 6
  unfold qO
  split
  · exact ⟨by decide, by decide, by decide⟩
  · exact ⟨k3e h1 fun x hx => (h2 x hx).1, by omega, h3⟩
theorem k4q {l : List Int} {a : Nat} (h : (iK l a 6).length = 0) : qO l a = [7] := if_pos h
theorem k4r {l : List Int} {a : Nat} (h : ¬ (iK l a 6).length = 0) : qO l a = iK l a 6 := if_neg h
theorem k2u {l : List Int} {a k : Nat} {o : List Int} (ho : iK l a k = o) (h : kZ l (uJ l a k) 2 = 0) : iK l a (k + 1) = o ++ [((k : Nat) : Int) + 1] := by rw [← ho]; exact if_pos h
theorem k2v {l : List Int} {a k : Nat} {o : List Int} (ho : iK l a k = o) (h : ¬ kZ l (uJ l a k) 2 = 0) : iK l a (k + 1) = o := by rw [← ho]; exact if_neg h
def d1 (l : List Int) (a : Nat) : Int := ka2 (qO l (kV l a)) (kZ l (uJ l (kV l a) 6) ((qO l (kV l a)).length : Int)) 0
def o5 (l : List Int) (a : Nat) : Nat := kV l (uJ l (kV l a) 6)
theorem mL {l : List Int} {a m : Nat} (hm : l.length = m) (h : a ≤ m) : o5 l a ≤ m := qZ hm (f8 hm (qZ hm h) 6)
theorem wO (l : List Int) (a : Nat) : kZ l a 4 < 4 := by have := yJ l a (n := 4) (by omega); omega
theorem wQ (l : List Int) (a : Nat) : uW (yV (kZ l a 4)) (qO l (kV l a)) (d1 l a) = true := by
  obtain ⟨h1, h2, h3⟩ := c7 l (kV l a)
  have h4 := yJ l (uJ l (kV l a) 6) (n := ((qO l (kV l a)).length : Int)) (by omega)
  exact k3f (xK _ (wO l a)) (by omega) h1 (x5 (k := kZ l (uJ l (kV l a) 6) ((qO l (kV l a)).length : Int)) (by omega) rfl)
/-! valid memories stay valid -/
theorem pD {xs ys : List Ch} {k : Nat} (h : k < xs.length) : yN (xs ++ ys) k = yN xs k := by
  unfold yN; rw [kb0, kb0, List.getElem?_append_left h]
theorem pC (xs : List Ch) (c : Ch) : yN (xs ++ [c]) xs.length = c := by
  unfold yN; rw [kb0, List.getElem?_append_right (kc2 _), Nat.sub_self]; rfl
def VM (xs : List Ch) : Prop := (∀ c ∈ xs, uW c.r c.s c.d = true) ∧ xs.Pairwise fun a b => uQ a.r a.s b.r b.s = false
theorem iF {xs : List Ch} {k : Nat} (h : k < xs.length) : yN xs k ∈ xs := by
  unfold yN; rw [kb0, kb5 h]; exact List.getElem_mem h
theorem bK {xs : List Ch} {k : Nat} (h : k < xs.length) : yN xs k = xs[k] := by
  unfold yN; rw [kb0, kb5 h]; rfl
theorem pM {xs : List Ch} (h : yM xs = true) : xs.length ≤ 32 ∧ VM xs := by
  obtain ⟨h1, h2⟩ := pO h
  refine ⟨h1, fun c hc => ?_, ?_⟩
  · obtain ⟨j, hj, e⟩ := List.mem_iff_getElem.1 hc
    have h3 := iQ (h2 j hj)
    unfold kH kD kN at h3; rw [bK hj, e] at h3; exact h3
  · rw [List.pairwise_iff_getElem]
    intro i j hi hj hij
    have h3 := k44 (k2t (h2 j hj)) i (by rw [kb9]; omega)
    rw [xS hij, xR hij] at h3
    unfold kH kD at h3; rw [bK hi, bK hj] at h3; exact h3
theorem k2q {xs : List Ch} (h1 : xs.length ≤ 32) (h : VM xs) : yM xs = true := by
  refine f3 h1 fun j hj => pP ?_ (k0k fun k hk => ?_)
  · have h3 := h.1 _ (iF hj); exact h3
  · rw [kb9] at hk
    have hkj : k < j := by omega
    rw [xS hkj, xR hkj]
    have h3 := (List.pairwise_iff_getElem.1 h.2) k j (by omega) hj hkj
    rw [← bK (by omega), ← bK hj] at h3; exact h3
theorem pN {xs : List Ch} (h : VM xs) (p : Ch → Bool) : VM (iM p xs) := ⟨fun c hc => h.1 c (List.mem_filter.1 hc).1, h.2.filter _⟩
theorem mR {xs : List Ch} (h : VM xs) (n : Nat) : VM (List.drop n xs) := ⟨fun c hc => h.1 c (List.mem_of_mem_drop hc), h.2.drop⟩
theorem k2r {xs : List Ch} {r s : List Int} {d : Int} (h : VM xs) (hp : uW r s d = true) : VM (pY xs r s d) := by
  refine mR ⟨fun c hc => ?_, ?_⟩ _
  · rcases List.mem_append.1 hc with hc | hc
    · exact (pN h _).1 c hc
    · rw [List.mem_singleton.1 hc]; exact hp
  · rw [kj4]
    refine ⟨(pN h _).2, ki7 .., fun a ha b hb => ?_⟩
    rw [List.mem_singleton.1 hb]
    have : (!uQ a.r a.s r s) = true := (List.mem_filter.1 ha).2
    show uQ a.r a.s r s = false
    cases e : uQ a.r a.s r s with
    | false => rfl
    | true => rw [e] at this; cases this
theorem cA {xs : List Ch} {r s : List Int} {d : Int} (h : yM xs = true) (hp : uW r s d = true) : yM (kF xs r s d) = true := by
  rw [(lN h hp).1]; exact k2q (mY xs r s d) (k2r (pM h).2 hp)
def mmP (l : List Int) (a : Nat) : Nat → List Ch × Nat
  | 0 => ([], a)
  | k + 1 => (kF (mmP l a k).1 (yV (kZ l (mmP l a k).2 4)) (qO l (kV l (mmP l a k).2)) (d1 l (mmP l a k).2), o5 l (mmP l a k).2)
def lY (l : List Int) (a k : Nat) : List Ch := (mmP l a k).1
def oJ (l : List Int) (a k : Nat) : Nat := (mmP l a k).2
theorem k1e {l : List Int} {a k : Nat} {o : List Ch} {b : Nat} (h : lY l a k = o) (h2 : oJ l a k = b) : lY l a (k + 1) = kF o (yV (kZ l b 4)) (qO l (kV l b)) (d1 l b) ∧ oJ l a (k + 1) = o5 l b := by
  subst h h2; exact ⟨rfl, rfl⟩
theorem nF (l : List Int) (a : Nat) : ∀ k, yM (lY l a k) = true ∧ CsW (lY l a k) ∧ (k ≤ 31 → (lY l a k).length ≤ k)
  | 0 => ⟨rfl, CsW.nil, fun _ => kc2 _⟩
  | k + 1 => by
    obtain ⟨h1, h2, h3⟩ := nF l a k
    have e := (k1e (l := l) (a := a) (k := k) rfl rfl).1
    have hp := wQ l (oJ l a k)
    have hs := c7 l (kV l (oJ l a k))
    have hr := dD _ (wO l (oJ l a k))
    rw [e]
    refine ⟨cA h1 hp, uB h2 (dE _ (wO _ _)) zo zo, fun hk => ?_⟩
    have h4 := h3 (by omega)
    have h5 := g7 (lY l a k) (yV (kZ l (oJ l a k) 4)) (qO l (kV l (oJ l a k)))
    rw [(lN h1 hp).1, pX (by omega), ka5]; show _ + 1 ≤ _; omega
abbrev vM (l : List Int) (m : Nat) (a : Nat) : BC := .ds [D.sl (dI .i64 l) m, iD (((kV l a) : Nat) : Int)]
theorem xE (l : List Int) (m a : Nat) (hm : ka0 l = m) (hb : m ≤ 9223372036854775807) (ha : a ≤ m) : Fun 17 [.c (.ptr 0 0)] (kC [(0, some (51, .ds [D.sl (dI .i64 l) m, iD ((a : Nat) : Int)]))]) 1 (kM (D.lit (.string (strOfNums (yV (kZ l a 4)))))) (kC [(0, some (51, .ds [D.sl (dI .i64 l) m, iD (((kV l a) : Nat) : Int)]))]) 1 := by
  refine Fun.mk (n := 8) Try.func17 rfl rfl (ka3 rfl) ?_
  intro cx hcx
  refine kK [.no] True [(0, rV 0 0)] [(0, some (51, .ds [dl l m, uD a]))] 1 trivial ?_
  by_cases hx3 : ((((kZ l a 4) : Nat) : Int) = 0)
  · have hx4 : ((((kZ l a 4) : Nat) : Int) < 4) := yJ l a zo
    have hx5 : ((kV l a) ≤ m) := qZ zo zo
    refine kK [.no, .no, .call [0] (uV (kZ l a 4)) [(0, some (51, (vM l m a)))] 1 [] none, .n2 0 0, .no, .no] ((_) ∧ (((kZ l a 4 : Int) : Int) = 0) ∧ ((0 : Nat) < 4) ∧ ((0 : Nat) + 0 * 1 = 0)) [(2, kM (D.lit ((.string (ByteArray.mk #[109, 117, 115, 105, 99])))))] [(0, some (51, (vM l m a)))] 2 ⟨(vX l m a 4 zo zo zo zo), (by first | rfl | omega), zo, zo⟩ ?_
    refine AW.ret ?_
    exact kA (.inr rfl) [] (P := ((.string (strOfNums (yV (kZ l a 4))) : Value) = .string (ByteArray.mk #[109, 117, 115, 105, 99])) ∧ (kS [dl l m, uD (kV l a)])) zk ⟨(congrArg (fun x9 => Value.string (strOfNums x9)) (show (yV (kZ l a 4)) = ([109, 117, 115, 105, 99] : List Int) from (by first | (rw [show kZ l a 4 = 0 by omega]; rfl) | (rw [show kZ l a 4 = 1 by omega]; rfl) | (rw [show kZ l a 4 = 2 by omega]; rfl) | (rw [show kZ l a 4 = 3 by omega]; rfl)))), rfl⟩
  · by_cases hx8 : ((((kZ l a 4) : Nat) : Int) = 1)
    · have hx9 : ((((kZ l a 4) : Nat) : Int) < 4) := yJ l a zo
      have hx10 : ((kV l a) ≤ m) := qZ zo zo
      refine kK [.no, .no, .call [0] (uV (kZ l a 4)) [(0, some (51, (vM l m a)))] 1 [] none, .n2 1 1, .no, .no] ((_) ∧ (((kZ l a 4 : Int) : Int) = 1) ∧ ((1 : Nat) < 4) ∧ ((0 : Nat) + 1 * 1 = 1)) [(2, kM (D.lit ((.string (ByteArray.mk #[118, 111, 105, 99, 101])))))] [(0, some (51, (vM l m a)))] 2 ⟨(vX l m a 4 zo zo zo zo), (by first | rfl | omega), zo, zo⟩ ?_
      refine AW.ret ?_
      exact kA (.inr rfl) [] (P := ((.string (strOfNums (yV (kZ l a 4))) : Value) = .string (ByteArray.mk #[118, 111, 105, 99, 101])) ∧ (kS [dl l m, uD (kV l a)])) zk ⟨(congrArg (fun x9 => Value.string (strOfNums x9)) (show (yV (kZ l a 4)) = ([118, 111, 105, 99, 101] : List Int) from (by first | (rw [show kZ l a 4 = 0 by omega]; rfl) | (rw [show kZ l a 4 = 1 by omega]; rfl) | (rw [show kZ l a 4 = 2 by omega]; rfl) | (rw [show kZ l a 4 = 3 by omega]; rfl)))), rfl⟩
    · by_cases hx13 : ((((kZ l a 4) : Nat) : Int) = 2)
      · have hx14 : ((((kZ l a 4) : Nat) : Int) < 4) := yJ l a zo
        have hx15 : ((kV l a) ≤ m) := qZ zo zo
        refine kK [.no, .no, .call [0] (uV (kZ l a 4)) [(0, some (51, (vM l m a)))] 1 [] none, .n2 2 2, .no, .no] ((_) ∧ (((kZ l a 4 : Int) : Int) = 2) ∧ ((2 : Nat) < 4) ∧ ((0 : Nat) + 2 * 1 = 2)) [(2, kM (D.lit ((.string (ByteArray.mk #[97, 108, 97, 114, 109])))))] [(0, some (51, (vM l m a)))] 2 ⟨(vX l m a 4 zo zo zo zo), (by first | rfl | omega), zo, zo⟩ ?_
        refine AW.ret ?_
        exact kA (.inr rfl) [] (P := ((.string (strOfNums (yV (kZ l a 4))) : Value) = .string (ByteArray.mk #[97, 108, 97, 114, 109])) ∧ (kS [dl l m, uD (kV l a)])) zk ⟨(congrArg (fun x9 => Value.string (strOfNums x9)) (show (yV (kZ l a 4)) = ([97, 108, 97, 114, 109] : List Int) from (by first | (rw [show kZ l a 4 = 0 by omega]; rfl) | (rw [show kZ l a 4 = 1 by omega]; rfl) | (rw [show kZ l a 4 = 2 by omega]; rfl) | (rw [show kZ l a 4 = 3 by omega]; rfl)))), rfl⟩
      · have hx16 : ((((kZ l a 4) : Nat) : Int) < 4) := yJ l a zo
        have hx17 : ((kV l a) ≤ m) := qZ zo zo
        refine kK [.no, .no, .call [0] (uV (kZ l a 4)) [(0, some (51, (vM l m a)))] 1 [] none, .n2 3 3, .no, .no] ((_) ∧ (((kZ l a 4 : Int) : Int) = 3) ∧ ((3 : Nat) < 4) ∧ ((0 : Nat) + 3 * 1 = 3)) [(2, kM (D.lit ((.string (ByteArray.mk #[103, 97, 109, 101])))))] [(0, some (51, (vM l m a)))] 2 ⟨(vX l m a 4 zo zo zo zo), (by first | rfl | omega), zo, zo⟩ ?_
        refine AW.ret ?_
        exact kA (.inr rfl) [] (P := ((.string (strOfNums (yV (kZ l a 4))) : Value) = .string (ByteArray.mk #[103, 97, 109, 101])) ∧ (kS [dl l m, uD (kV l a)])) zk ⟨(congrArg (fun x9 => Value.string (strOfNums x9)) (show (yV (kZ l a 4)) = ([103, 97, 109, 101] : List Int) from (by first | (rw [show kZ l a 4 = 0 by omega]; rfl) | (rw [show kZ l a 4 = 1 by omega]; rfl) | (rw [show kZ l a 4 = 2 by omega]; rfl) | (rw [show kZ l a 4 = 3 by omega]; rfl)))), rfl⟩
theorem cT {p : Prop} (h : p := by first | omega | assumption | simp) : p := h
theorem vK {p : Prop} (h : p := by first | omega | with_reducible assumption | (simp only [kL, kJ, kO, ka8, ka5, kb7, kb8, kb9, kc0, kc5, ka8] <;> omega) | rfl | assumption) : p := h
theorem cU {p : Prop} (h : p := by first | omega | (simp only [kL, kJ, kO, ka8, uO, ka5, kb7, kb8, kb9, kc0, kc5, ka8, kd1, kd8, ke5] <;> omega) | rfl) : p := h
theorem fQ {p : Prop} (h : p := by first | rfl | omega | assumption | (simp; done) | (simp; omega)) : p := h
abbrev yT (l : List Int) (m : Nat) (a : Nat) (k : Nat) : BC := .ds [D.sl (dI .i64 l) m, iD (((uJ l a k) : Nat) : Int)]
abbrev c5 (l : List Int) (m : Nat) (a : Nat) (k : Nat) : BC := .ds [D.sl (dI .i64 l) m, iD (((kV l (uJ l a k)) : Nat) : Int)]
theorem k0w (l : List Int) (m a : Nat) (hm : ka0 l = m) (hb : m ≤ 9223372036854775807) (ha : a ≤ m) : Fun 18 [.c (.ptr 0 0)] (kC [(0, some (51, .ds [D.sl (dI .i64 l) m, iD ((a : Nat) : Int)]))]) 1 (sV .u64 (qO l a) (ka0 (qO l a))) (kC [(0, some (51, .ds [D.sl (dI .i64 l) m, iD (((uJ l a 6) : Nat) : Int)]))]) 1 := by
  refine Fun.mk (n := 22) Try.func18 rfl rfl (ka3 rfl) ?_
  intro cx hcx
  refine kK [.no] True [(0, rV 0 0)] [(0, some (51, .ds [dl l m, uD a]))] 1 trivial ?_
  refine yZ [.no] True [(0, rV 0 0), (3, nV)] trivial ?_
  refine AW.seq ?_
  refine yZ [.no] True [(0, rV 0 0), (3, nV), (4, iV 1)] trivial ?_
  refine AW.block ?_
  refine AW.adoptS 3 1 27 rfl ?_
  refine kW 1 hcx (fun (x : {x : Nat × Nat × List Int // match x with | (k, q, o) => (k ≤ 6 ∧ q ≤ k) ∧ (iK l a k = o) ∧ (ka0 o = q) ∧ (uJ l a k ≤ m)}) => match x with | ⟨(k, q, o), _⟩ => (⟨[(0, rV 0 0), (3, oV 2 0 q 1), (4, iV ((k : Int) + 1))], [(0, some (51, (yT l m a k))), (2, some (27, .ds (dI .u64 o)))], 3⟩ : ES)) (fun x => match x with | ⟨(k, q, o), _⟩ => 6 - k) ⟨((0 : Nat), (0 : Nat), (([] : List Int) : List Int)), ⟨cT, rfl, rfl, ha⟩⟩ [(2, 1)] (P := (kU 0) ∧ (kU 0) ∧ (kU 0) ∧ (qA 1) ∧ (([dl l m, uD (uJ l a 0)] : List D) = [dl l m, uD a]) ∧ (((dI .u64 ([] : List Int)) : List D) = ([] : List D))) zk ⟨rfl, rfl, rfl, rfl, (by first | rfl | with_reducible assumption), (by first | rfl | with_reducible assumption)⟩ ?_
  rintro ⟨⟨k, q, o⟩, hinv0⟩
  obtain ⟨hk, hO, hL, hA⟩ : (k ≤ 6 ∧ q ≤ k) ∧ (iK l a k = o) ∧ (ka0 o = q) ∧ (uJ l a k ≤ m) := hinv0
  refine qX (l := [(0, rV 0 0), (3, oV 2 0 q 1), (4, iV ((k : Int) + 1))]) (g := [(0, some (51, (yT l m a k))), (2, some (27, .ds (dI .u64 o)))]) (nx := 3) rfl rfl rfl ?_
  refine AW.seq ?_
  by_cases hx1 : ((((k : Nat) : Int) + 1) ≤ 6)
  · refine zr [.no, .b true] [0, 3, 4, 6] [0, 2] ((((k : Int) + 1) ≤ 6)) [(0, rV 0 0), (3, oV 2 0 q 1), (4, iV (↑k + 1)), (6, bV true)] [(0, some (51, (yT l m a k))), (2, some (27, .ds (dI .u64 o)))] 3 zo ?_
    refine cQ ?_
    refine AW.seq ?_
    refine AW.block ?_
    by_cases hx4 : ((((kZ l (uJ l a k) 2) : Nat) : Int) = 0)
    · have hx5 : ((((kZ l (uJ l a k) 2) : Nat) : Int) < 2) := yJ l (uJ l a k) zo
      have hx6 : ((kV l (uJ l a k)) ≤ m) := qZ zo zo
      refine kK [.no, .call [0] (uV (kZ l (uJ l a k) 2)) [(0, some (51, (c5 l m a k)))] 1 [] none, .b true] ((_) ∧ (((kZ l (uJ l a k) 2 : Int) = 0))) [(0, rV 0 0), (3, oV 2 0 q 1), (4, iV (↑k + 1)), (11, bV true)] [(0, some (51, (c5 l m a k))), (2, some (27, .ds (dI .u64 o)))] 3 ⟨(vX l m (uJ l a k) 2 zo zo vK zo), zo⟩ ?_
      refine zt ?_
      refine b9 [.no, .no, .w, .no, .ap none (q + 1) (dI .u64 (o ++ ([((k : Int) + 1)] : List Int))), .no] ((0 ≤ ((k : Int) + 1) ∧ ((k : Int) + 1) ≤ 18446744073709551615) ∧ ([D.lit (.int .u64 ((k : Int) + 1))].length = 1 * 1) ∧ (((dI .u64 o) : List D).length = q * 1) ∧ ((q + 1) * 8 ≤ 140737488355328) ∧ (q + 1 = (q + 1)) ∧ (((dI .u64 o) : List D) ++ [D.lit (.int .u64 ((k : Int) + 1))] = (dI .u64 (o ++ ([((k : Int) + 1)] : List Int))))) [(0, rV 0 0), (3, oV 4 0 (q + 1) 1), (4, iV (↑k + 1))] [(0, some (51, (c5 l m a k))), (4, some (27, .ds (dI .u64 (o ++ ([(↑k + 1)] : List Int)))))] 5 ⟨⟨by omega, by omega⟩, cU, cU, zo, zo, (wP .u64 o ([((k : Int) + 1)] : List Int))⟩ ?_
      refine cW [.no, .w, .no] (uY (((k : Int) + 1) + 1)) [(0, rV 0 0), (3, oV 4 0 (q + 1) 1), (4, iV ((↑k + 1) + 1))] ⟨by omega, by omega⟩ ?_
      exact k8 ⟨(((k + 1) : Nat), ((q + 1) : Nat), ((o ++ ([((k : Int) + 1)] : List Int)) : List Int)), ⟨cT, (by first | exact k2u hO zo | exact k2v hO zo), (by first | assumption | omega | (simp only [kL, kJ, kO, ka8, ka5, kb7, kb8] <;> omega)), (qZ hm hA)⟩⟩ [(2, 4)] (P := (kU 0) ∧ (kU 0) ∧ (kU (q + 1)) ∧ ((((((k + 1) : Nat) : Int) + 1) : Int) = (((k : Int) + 1) + 1)) ∧ (([dl l m, uD (uJ l a (k + 1))] : List D) = [dl l m, uD (kV l (uJ l a k))]) ∧ (kS (dI .u64 (o ++ ([((k : Int) + 1)] : List Int))))) zk ⟨rfl, rfl, rfl, fQ, (by first | rfl | with_reducible assumption), rfl⟩ (show 6 - (k + 1) < 6 - k from (by first | omega | (show _ < _; simp; omega)))
    · have hx7 : ((((kZ l (uJ l a k) 2) : Nat) : Int) < 2) := yJ l (uJ l a k) zo
      have hx8 : ((kV l (uJ l a k)) ≤ m) := qZ zo zo
      refine kK [.no, .call [0] (uV (kZ l (uJ l a k) 2)) [(0, some (51, (c5 l m a k)))] 1 [] none, .b false] ((_) ∧ (¬ ((kZ l (uJ l a k) 2 : Int) = 0))) [(0, rV 0 0), (3, oV 2 0 q 1), (4, iV (↑k + 1)), (11, bV false)] [(0, some (51, (c5 l m a k))), (2, some (27, .ds (dI .u64 o)))] 3 ⟨(vX l m (uJ l a k) 2 zo zo vK zo), zo⟩ ?_
      refine uI ?_
      refine cW [.no, .w, .no] (uY (((k : Int) + 1) + 1)) [(0, rV 0 0), (3, oV 2 0 q 1), (4, iV ((↑k + 1) + 1))] ⟨by omega, by omega⟩ ?_
      exact k8 ⟨(((k + 1) : Nat), (q : Nat), (o : List Int)), ⟨cT, (by first | exact k2u hO zo | exact k2v hO zo), (by first | assumption | omega | (simp only [kL, kJ, kO, ka8, ka5, kb7, kb8] <;> omega)), (qZ hm hA)⟩⟩ [] (P := (kU 0) ∧ (kU 0) ∧ (kU q) ∧ ((((((k + 1) : Nat) : Int) + 1) : Int) = (((k : Int) + 1) + 1)) ∧ (([dl l m, uD (uJ l a (k + 1))] : List D) = [dl l m, uD (kV l (uJ l a k))]) ∧ (kS (dI .u64 o))) zk ⟨rfl, rfl, rfl, fQ, (by first | rfl | with_reducible assumption), rfl⟩ (show 6 - (k + 1) < 6 - k from (by first | omega | (show _ < _; simp; omega)))
  · refine zr [.no, .b false] [0, 3, 4, 6] [0, 2] (¬ (((k : Int) + 1) ≤ 6)) [(0, rV 0 0), (3, oV 2 0 q 1), (4, iV (↑k + 1)), (6, bV false)] [(0, some (51, (yT l m a k))), (2, some (27, .ds (dI .u64 o)))] 3 zo ?_
    refine zf ?_
    refine AW.exit ?_
    refine AW.seq ?_
    by_cases hx9 : (((q : Nat) : Int) = 0)
    · refine zr [.no, .no, .b true] [3, 19] [0, 2] (((q : Int) = 0)) [(3, oV 2 0 q 1), (19, bV true)] [(0, some (51, (yT l m a k))), (2, some (27, .ds (dI .u64 o)))] 3 zo ?_
      refine zt ?_
      refine kK [.no, .no] True [(2, oV 3 0 1 1)] [(0, some (51, (yT l m a k))), (3, some (27, .ds [D.lit (.int .u64 7)]))] 4 trivial ?_
      refine AW.freeze 3 (l' := [(2, uX [D.lit (.int .u64 7)] 1)]) (g' := [(0, some (51, (yT l m a k)))]) rfl (FzS.cons rfl (.e (.c (@FzC.own 3 ([D.lit (.int .u64 7)] : List D) 0 (1 : Nat) 1 true ([D.lit (.int .u64 7)] : List D) (by rw [kf7, ke5, kc7 (by first | omega | (simp only [kL, kJ, kO, ka8, uO, ka5, kb7, kb8, kb9, kc0, kc5, ka8, kd1, kd8, ke5] <;> omega))]) cU))) FzS.nil) (vY rfl rfl FzG.nil) ?_
      obtain rfl : k = 6 := (by omega)
      have hz1 : qO l a = [7] := k4q (by rw [hO]; omega)
      refine AW.ret ?_
      exact kA (.inr rfl) [] (P := (((dI .u64 (qO l a)) : List D) = [D.lit (.int .u64 7)]) ∧ (((ka0 (qO l a)) : Nat) = 1) ∧ (kS [dl l m, uD (uJ l a 6)])) zk ⟨(by first | rfl | (rw [hz1]; done) | (rw [hz1]; rfl) | (rw [hz1, hO]; done) | (rw [hz1, hO]; rfl) | (rw [hz1, hO]; omega) | omega), (by first | rfl | (rw [hz1]; done) | (rw [hz1]; rfl) | (rw [hz1, hO]; done) | (rw [hz1, hO]; rfl) | (rw [hz1, hO]; omega) | omega), rfl⟩
    · refine zr [.no, .no, .b false] [3, 19] [0, 2] (¬ ((q : Int) = 0)) [(3, oV 2 0 q 1), (19, bV false)] [(0, some (51, (yT l m a k))), (2, some (27, .ds (dI .u64 o)))] 3 zo ?_
      refine uI ?_
      refine kK [.no, .no] True [(2, oV 2 0 q 1)] [(0, some (51, (yT l m a k))), (2, some (27, .ds (dI .u64 o)))] 3 trivial ?_
      refine AW.freeze 2 (l' := [(2, sV .u64 o q)]) (g' := [(0, some (51, (yT l m a k)))]) rfl (FzS.cons rfl (.e (.c (@FzC.own 2 ((dI .u64 o) : List D) 0 q 1 true ((dI .u64 o) : List D) (by rw [kf7, ke5, kc7 (by first | omega | (simp only [kL, kJ, kO, ka8, uO, ka5, kb7, kb8, kb9, kc0, kc5, ka8, kd1, kd8, ke5] <;> omega))]) cU))) FzS.nil) (vY rfl rfl FzG.nil) ?_
      obtain rfl : k = 6 := (by omega)
      have hz1 : qO l a = iK l a 6 := k4r (by rw [hO]; omega)
      refine AW.ret ?_
      exact kA (.inr rfl) [] (P := (((dI .u64 (qO l a)) : List D) = (dI .u64 o)) ∧ (((ka0 (qO l a)) : Nat) = q) ∧ (kS [dl l m, uD (uJ l a 6)])) zk ⟨(by first | rfl | (rw [hz1]; done) | (rw [hz1]; rfl) | (rw [hz1, hO]; done) | (rw [hz1, hO]; rfl) | (rw [hz1, hO]; omega) | omega), (by first | rfl | (rw [hz1]; done) | (rw [hz1]; rfl) | (rw [hz1, hO]; done) | (rw [hz1, hO]; rfl) | (rw [hz1, hO]; omega) | omega), rfl⟩
theorem lB (l : List Int) (m a : Nat) (hm : ka0 l = m) (hb : m ≤ 9223372036854775807) (ha : a ≤ m) : Fun 9 [.c (.ptr 0 0)] (kC [(0, some (51, .ds [D.sl (dI .i64 l) m, iD ((a : Nat) : Int)]))]) 1 (.e (.agg [.d (D.lit (.string (strOfNums (yV (kZ l a 4))))), .d (D.sl (dI .u64 (qO l (kV l a))) (ka0 (qO l (kV l a)))), .d (D.lit (.int .u64 (d1 l a)))])) (kC [(0, some (51, .ds [D.sl (dI .i64 l) m, iD (((o5 l a) : Nat) : Int)]))]) 1 := by
  refine Fun.mk (n := 20) Try.func9 rfl rfl (ka3 rfl) ?_
  intro cx hcx
  refine kK [.no] True [(0, rV 0 0), (2, rV 1 0)] [(0, some (51, .ds [dl l m, uD a])), (1, some (29, .ds [D.lit (.string { data := #[] }), uH, D.lit (.int .u64 0)]))] 2 trivial ?_
  have hx1 : ((kZ l a 4) < 4) := wO _ _
  have hx2 : ((kV l a) ≤ m) := qZ (zo) (zo)
  have hx3 : ((ka0 (yV (kZ l a 4))) ≤ 5) := (dD _ (wO _ _))
  have hx4 : (((1 : Nat) ≤ (ka0 (qO l (kV l a)))) ∧ ((ka0 (qO l (kV l a))) ≤ 6)) := (c7 l (kV l a)).2
  have hx5 : ((uJ l (kV l a) 6) ≤ m) := f8 (zo) (vK) 6
  refine kK [.no, .call [0] (kM (D.lit (.string (strOfNums (yV (kZ l a 4)))))) [(0, some (51, .ds [dl l m, uD (kV l a)]))] 1 [] none, .no, .call [0] (sV .u64 (qO l (kV l a)) (ka0 (qO l (kV l a)))) [(0, some (51, .ds [dl l m, uD (uJ l (kV l a) 6)]))] 1 [] none, .no, .no, .no] ((_) ∧ (_)) [(0, rV 0 0), (2, rV 1 0), (3, rV 2 0)] [(0, some (51, .ds [dl l m, uD (uJ l (kV l a) 6)])), (1, some (29, .ds [D.lit (.string { data := #[] }), uH, D.lit (.int .u64 0)])), (2, some (29, .ds [D.lit (.string (strOfNums (yV (kZ l a 4)))), D.sl (dI .u64 (qO l (kV l a))) (ka0 (qO l (kV l a))), D.lit (.int .u64 0)]))] 3 ⟨(xE l m a zo zo zo), (k0w l m (kV l a) zo zo vK)⟩ ?_
  have hx6 : ((((kZ l (uJ l (kV l a) 6) (((ka0 (qO l (kV l a))) : Nat) : Int)) : Nat) : Int) < (((ka0 (qO l (kV l a))) : Nat) : Int)) := yJ l (uJ l (kV l a) 6) zo
  have hx7 : ((kV l (uJ l (kV l a) 6)) ≤ m) := qZ zo zo
  refine kK (qC 6 [.call [0] (iV (((kZ l (uJ l (kV l a) 6) (ka0 (qO l (kV l a)) : Int)) : Nat) : Int)) [(0, some (51, .ds [dl l m, uD (kV l (uJ l (kV l a) 6))]))] 1 [] none, .n (kZ l (uJ l (kV l a) 6) (ka0 (qO l (kV l a)) : Int)), .d (D.lit (.int .u64 (ka2 (qO l (kV l a)) (kZ l (uJ l (kV l a) 6) (ka0 (qO l (kV l a)) : Int)) 0))), .no, .no]) ((_) ∧ (qA (((kZ l (uJ l (kV l a) 6) (ka0 (qO l (kV l a)) : Int)) : Nat) : Int)) ∧ ((kZ l (uJ l (kV l a) 6) (ka0 (qO l (kV l a)) : Int)) < (ka0 (qO l (kV l a)))) ∧ ((List.drop (kZ l (uJ l (kV l a) 6) (ka0 (qO l (kV l a)) : Int)) (dI .u64 (qO l (kV l a))))[0]? = some (D.lit (.int .u64 (ka2 (qO l (kV l a)) (kZ l (uJ l (kV l a) 6) (ka0 (qO l (kV l a)) : Int)) 0))))) [(2, rV 1 0), (3, rV 2 0)] [(0, some (51, .ds [dl l m, uD (kV l (uJ l (kV l a) 6))])), (1, some (29, .ds [D.lit (.string { data := #[] }), uH, D.lit (.int .u64 0)])), (2, some (29, .ds [D.lit (.string (strOfNums (yV (kZ l a 4)))), D.sl (dI .u64 (qO l (kV l a))) (ka0 (qO l (kV l a))), D.lit (.int .u64 (ka2 (qO l (kV l a)) (kZ l (uJ l (kV l a) 6) (ka0 (qO l (kV l a)) : Int)) 0))]))] 3 ⟨(vX l m (uJ l (kV l a) 6) (ka0 (qO l (kV l a)) : Int) zo zo vK vK), rfl, zo, (qW _ _ _ cU)⟩ ?_
  refine kK [.no, .no] True [(2, rV 1 0)] [(0, some (51, .ds [dl l m, uD (kV l (uJ l (kV l a) 6))])), (1, some (29, .ds [D.lit (.string (strOfNums (yV (kZ l a 4)))), D.sl (dI .u64 (qO l (kV l a))) (ka0 (qO l (kV l a))), D.lit (.int .u64 (ka2 (qO l (kV l a)) (kZ l (uJ l (kV l a) 6) (ka0 (qO l (kV l a)) : Int)) 0))]))] 3 trivial ?_
  refine AW.ret ?_
  exact kA (.inr rfl) [] (P := ((.string (strOfNums (yV (kZ l a 4))) : Value) = .string (strOfNums (yV (kZ l a 4)))) ∧ (kS (dI .u64 (qO l (kV l a)))) ∧ (kU (ka0 (qO l (kV l a)))) ∧ (((d1 l a) : Int) = (ka2 (qO l (kV l a)) (kZ l (uJ l (kV l a) 6) (ka0 (qO l (kV l a)) : Int)) 0)) ∧ (([dl l m, uD (o5 l a)] : List D) = [dl l m, uD (kV l (uJ l (kV l a) 6))])) zk ⟨rfl, rfl, rfl, (by first | rfl | omega | (unfold d1; rfl) | (unfold o5; rfl)), (by first | rfl | (unfold o5; rfl))⟩
theorem xF (l : List Int) (m a : Nat) (hm : ka0 l = m) (hb : m ≤ 9223372036854775807) (ha : a ≤ m) : Fun 8 [.c (.ptr 0 0)] (kC [(0, some (51, .ds [D.sl (dI .i64 l) m, iD ((a : Nat) : Int)]))]) 1 (.e (.agg [.d (D.sl (kB (lY l (kV l a) (kZ l a 7))) (ka0 (lY l (kV l a) (kZ l a 7))))])) (kC [(0, some (51, .ds [D.sl (dI .i64 l) m, iD (((oJ l (kV l a) (kZ l a 7)) : Nat) : Int)]))]) 1 := by
  refine Fun.mk (n := 19) Try.func8 rfl rfl (ka3 rfl) ?_
  intro cx hcx
  refine kK [.no] True [(0, rV 0 0), (2, rV 1 0)] [(0, some (51, .ds [dl l m, uD a])), (1, some (25, .ds [uH]))] 2 trivial ?_
  refine kK [.no] True [(0, rV 0 0), (2, rV 1 0), (3, rV 2 0)] [(0, some (51, .ds [dl l m, uD a])), (1, some (25, .ds [uH])), (2, some (25, .ds [uH]))] 3 trivial ?_
  refine AW.seq ?_
  refine d8 (l' := [(0, rV 0 0), (2, rV 1 0), (3, rV 2 0)]) (g' := [(0, some (51, .ds [dl l m, uD a])), (1, some (25, .ds [D.sl ([] : List D) 0])), (2, some (25, .ds [D.sl ([] : List D) 0]))]) (NlS.cons rfl (.same _) (NlS.cons rfl (.same _) (NlS.cons rfl (.same _) NlS.nil))) (w9 rfl (NlG.to (bc := .ds [uH]) rfl (NlL.cons (.nil) NlL.nil) (NlG.to (bc := .ds [uH]) rfl (NlL.cons (.nil) NlL.nil) NlG.nil))) ?_
  have hx1 : ((((kZ l a 7) : Nat) : Int) < 7) := yJ l a zo
  have hx2 : ((kV l a) ≤ m) := qZ zo zo
  refine kK [.no, .call [0] (uV (kZ l a 7)) [(0, some (51, .ds [dl l m, uD (kV l a)]))] 1 [] none, .no] _ [(0, rV 0 0), (2, rV 1 0), (3, rV 2 0), (4, uV (kZ l a 7))] [(0, some (51, .ds [dl l m, uD (kV l a)])), (1, some (25, .ds [D.sl ([] : List D) 0])), (2, some (25, .ds [D.sl ([] : List D) 0]))] 3 (vX l m a 7 zo zo zo zo) ?_
  refine AW.block ?_
  refine kW 1 hcx (fun (x : {x : Nat × Nat × List Ch × Nat // match x with | (k, c, o, b) => (k ≤ kZ l a 7 ∧ c ≤ 32) ∧ (lY l (kV l a) k = o) ∧ (oJ l (kV l a) k = b) ∧ (ka0 o = c) ∧ (CsW o) ∧ (b ≤ m)}) => match x with | ⟨(k, c, o, b), _⟩ => (⟨[(0, rV 0 0), (2, rV 1 0), (3, rV 2 0), (4, iV ((kZ l a 7 : Int) - (k : Int)))], [(0, some (51, .ds [dl l m, uD b])), (1, some (25, .ds [D.sl ([] : List D) 0])), (2, some (25, .ds [D.sl (kB o) c]))], 3⟩ : ES)) (fun x => match x with | ⟨(k, c, o, b), _⟩ => kZ l a 7 - k) ⟨((0 : Nat), (0 : Nat), (([] : List Ch) : List Ch), ((kV l a) : Nat)), ⟨cT, rfl, rfl, rfl, CsW.nil, zo⟩⟩ [] (P := (kU 0) ∧ (kU 0) ∧ (kU 0) ∧ ((((kZ l a 7 : Int) - 0) : Int) = (kZ l a 7 : Int)) ∧ (kS [dl l m, uD (kV l a)]) ∧ (kS [D.sl ([] : List D) 0]) ∧ (([D.sl (kB ([] : List Ch)) 0] : List D) = [D.sl ([] : List D) 0])) zk ⟨rfl, rfl, rfl, fQ, rfl, rfl, (by first | rfl | with_reducible assumption | (simp only [k00, k01, wP]; rfl) | (congr 1; first | assumption | (simp; done) | omega))⟩ ?_
  rintro ⟨⟨k, c, o, b⟩, hinv0⟩
  obtain ⟨hk, hO, hB, hL, hW, hA⟩ : (k ≤ kZ l a 7 ∧ c ≤ 32) ∧ (lY l (kV l a) k = o) ∧ (oJ l (kV l a) k = b) ∧ (ka0 o = c) ∧ (CsW o) ∧ (b ≤ m) := hinv0
  refine qX (l := [(0, rV 0 0), (2, rV 1 0), (3, rV 2 0), (4, iV ((kZ l a 7 : Int) - (k : Int)))]) (g := [(0, some (51, .ds [dl l m, uD b])), (1, some (25, .ds [D.sl ([] : List D) 0])), (2, some (25, .ds [D.sl (kB o) c]))]) (nx := 3) rfl rfl rfl ?_
  refine AW.seq ?_
  by_cases hx3 : ((0 : Int) < ((((kZ l a 7) : Nat) : Int) - ((k : Nat) : Int)))
  · refine zr [.no, .b true] [0, 2, 3, 4, 8] [0, 1, 2] (((0 : Int) < ((kZ l a 7 : Int) - (k : Int)))) [(0, rV 0 0), (2, rV 1 0), (3, rV 2 0), (4, iV ((kZ l a 7 : Int) - ↑k)), (8, bV true)] [(0, some (51, .ds [dl l m, uD b])), (1, some (25, .ds [D.sl ([] : List D) 0])), (2, some (25, .ds [D.sl (kB o) c]))] 3 zo ?_
    refine cQ ?_
    refine AW.seq ?_
    refine AW.block ?_
    have hx4 : (((1 : Nat) ≤ (ka0 (qO l (kV l b)))) ∧ ((ka0 (qO l (kV l b))) ≤ 6)) := (c7 l _).2
    have hx5 : ((o5 l b) ≤ m) := mL (zo) (zo)
    have hx6 : ((kZ l b 4) < 4) := wO _ _
    have hx7 : ((ka0 (yV (kZ l b 4))) ≤ 5) := (dD _ (wO _ _))
    have hx8 : ((ka0 (kF o (yV (kZ l b 4)) (qO l (kV l b)) (d1 l b))) ≤ 32) := (gC o (yV (kZ l b 4)) (qO l (kV l b)) (d1 l b))
    have hx9 : (((0 : Int) ≤ (aF o (yV (kZ l b 4)) (qO l (kV l b)) (d1 l b))) ∧ ((aF o (yV (kZ l b 4)) (qO l (kV l b)) (d1 l b)) ≤ 2)) := (gD o (yV (kZ l b 4)) (qO l (kV l b)) (d1 l b))
    refine b9 (.no :: .no :: .call [0] (.e (.agg [.d (D.lit (.string (strOfNums (yV (kZ l b 4))))), .d (D.sl (dI .u64 (qO l (kV l b))) (ka0 (qO l (kV l b)))), .d (D.lit (.int .u64 (d1 l b)))])) [(0, some (51, .ds [dl l m, uD (o5 l b)]))] 1 [] none :: .call [] (.tup [.agg [.d (D.sl (kB (kF o (yV (kZ l b 4)) (qO l (kV l b)) (d1 l b))) (ka0 (kF o (yV (kZ l b 4)) (qO l (kV l b)) (d1 l b))))], iE (aF o (yV (kZ l b 4)) (qO l (kV l b)) (d1 l b))]) [] 0 [] none :: qC 4 []) ((_) ∧ (_)) [(0, rV 0 0), (2, rV 1 0), (3, rV 2 0), (4, iV ((kZ l a 7 : Int) - ↑k))] [(0, some (51, .ds [dl l m, uD (o5 l b)])), (1, some (25, .ds [D.sl ([] : List D) 0])), (2, some (25, .ds [D.sl (kB (kF o (yV (kZ l b 4)) (qO l (kV l b)) (d1 l b))) (ka0 (kF o (yV (kZ l b 4)) (qO l (kV l b)) (d1 l b)))]))] 3 ⟨(lB l m b zo zo zo), (k2k o c (yV (kZ l b 4)) (qO l (kV l b)) (ka0 (qO l (kV l b))) (d1 l b) zo zo (kR : CsW o) (dE _ zo) vK rfl vK)⟩ ?_
    refine cW [.no, .w, .no] (uY (((kZ l a 7 : Int) - (k : Int)) - 1)) [(0, rV 0 0), (2, rV 1 0), (3, rV 2 0), (4, iV (((kZ l a 7 : Int) - ↑k) - 1))] ⟨by omega, by omega⟩ ?_
    exact k8 ⟨(((k + 1) : Nat), ((ka0 (kF o (yV (kZ l b 4)) (qO l (kV l b)) (d1 l b))) : Nat), ((kF o (yV (kZ l b 4)) (qO l (kV l b)) (d1 l b)) : List Ch), ((o5 l b) : Nat)), ⟨cT, (k1e hO hB).1, (k1e hO hB).2, (by first | assumption | rfl | omega), (by first | assumption | exact uB hW (dE _ zo) zo zo), zo⟩⟩ [] (P := (kU 0) ∧ (kU 0) ∧ (kU 0) ∧ ((((kZ l a 7 : Int) - (((k + 1) : Nat) : Int)) : Int) = (((kZ l a 7 : Int) - (k : Int)) - 1)) ∧ (kS [dl l m, uD (o5 l b)]) ∧ (kS [D.sl ([] : List D) 0]) ∧ (kS [D.sl (kB (kF o (yV (kZ l b 4)) (qO l (kV l b)) (d1 l b))) (ka0 (kF o (yV (kZ l b 4)) (qO l (kV l b)) (d1 l b)))])) zk ⟨rfl, rfl, rfl, fQ, rfl, rfl, rfl⟩ (show kZ l a 7 - (k + 1) < kZ l a 7 - k from (by first | omega | (show _ < _; simp; omega)))
  · refine zr [.no, .b false] [0, 2, 3, 4, 8] [0, 1, 2] (¬ ((0 : Int) < ((kZ l a 7 : Int) - (k : Int)))) [(0, rV 0 0), (2, rV 1 0), (3, rV 2 0), (4, iV ((kZ l a 7 : Int) - ↑k)), (8, bV false)] [(0, some (51, .ds [dl l m, uD b])), (1, some (25, .ds [D.sl ([] : List D) 0])), (2, some (25, .ds [D.sl (kB o) c]))] 3 zo ?_
    refine zf ?_
    refine AW.exit ?_
    refine kK [.no, .no] True [(2, rV 1 0)] [(0, some (51, .ds [dl l m, uD b])), (1, some (25, .ds [D.sl (kB o) c]))] 3 trivial ?_
    obtain rfl : k = (kZ l a 7) := (by omega)
    refine AW.ret ?_
    exact kA (.inr rfl) [] (P := (((kB (lY l (kV l a) (kZ l a 7))) : List D) = (kB o)) ∧ (((ka0 (lY l (kV l a) (kZ l a 7))) : Nat) = c) ∧ (([dl l m, uD (oJ l (kV l a) (kZ l a 7))] : List D) = [dl l m, uD b])) zk ⟨(by first | rfl | (rw [hO]; done) | (rw [hB]; done) | (rw [hO]; rfl) | (rw [hB]; rfl) | (rw [hO]; omega) | omega), (by first | rfl | (rw [hO]; done) | (rw [hB]; done) | (rw [hO]; rfl) | (rw [hB]; rfl) | (rw [hO]; omega) | omega), (by first | rfl | (rw [hO]; done) | (rw [hB]; done) | (rw [hO]; rfl) | (rw [hB]; rfl) | (rw [hO]; omega) | omega)⟩
end Go.Proofs.Ytkjmlililpgamaa
