/- Merged texts. -/
import Derived.Test.YtcfmjpnffembpaaGreatZL10M
import Derived.Test.YtcfmjpnffembpaaGreatZL10G
import Derived.Test.YtcfmjpnffembpaaGreatZL10Q
namespace Go.Proofs.YtcfmjpnffembpaaGreat
open Go.ChangeShapes Go.WideShapes Go.ChangeAt Go.RowKit
set_option linter.unusedVariables false
set_option linter.unusedSimpArgs false
def BxG (b : Bx) : Prop := BxW b ∧ 1 ≤ kQ b.r b.rn ∧ 1 ≤ kQ b.s b.sn ∧ 1 ≤ List.length b.m ∧ ∃ q, 1 ≤ q ∧ q ≤ 7 ∧ xR b.k q = true
def BsG (bs : List Bx) : Prop := ∀ b ∈ bs, BxG b
theorem mT {bs : List Bx} {i : Nat} (h : i < bs.length) : gO bs i ∈ bs := by
  unfold gO; rw [List.getD_eq_getElem?_getD, List.getElem?_eq_getElem h]; exact List.getElem_mem _
end Go.Proofs.YtcfmjpnffembpaaGreat
namespace Go.Proofs.YtcfmjpnffembpaaGreat
open Go.ChangeShapes Go.WideShapes Go.ChangeAt Go.RowKit
set_option linter.unusedVariables false
set_option linter.unusedSimpArgs false
def KG (k : Int) : Prop := 2 ≤ k ∧ k ≤ 254 ∧ k % 2 = 0
def orC : Bool := (List.range 127).all fun n => (List.range 7).all fun q => decide (2 ≤ orI (2 * (n : Int) + 2) ((2 ^ (q + 1) : Nat) : Int) ∧ orI (2 * (n : Int) + 2) ((2 ^ (q + 1) : Nat) : Int) ≤ 254 ∧ orI (2 * (n : Int) + 2) ((2 ^ (q + 1) : Nat) : Int) % 2 = 0)
theorem u4j : orC = true := by kernel_rfl
theorem KG.or {k : Int} (h : KG k) {q : Nat} (h1 : 1 ≤ q) (h2 : q ≤ 7) : KG (orI k ((2 ^ q : Nat) : Int)) := by
  unfold KG at h
  obtain ⟨n, rfl⟩ : ∃ n : Nat, k = 2 * (n : Int) + 2 := ⟨((k - 2) / 2).toNat, by omega⟩
  obtain ⟨r, rfl⟩ : ∃ r, q = r + 1 := ⟨q - 1, by omega⟩
  have h9 := List.all_eq_true.1 (List.all_eq_true.1 u4j n (List.mem_range.2 (by omega))) r (List.mem_range.2 (by omega))
  have h8 := of_decide_eq_true h9
  exact h8
theorem KG.one {q : Nat} (h1 : 1 ≤ q) (h2 : q ≤ 7) : KG ((2 ^ q : Nat) : Int) := by
  match q, h1, h2 with
  | 1, _, _ => exact ⟨by decide, by decide, by decide⟩
  | 2, _, _ => exact ⟨by decide, by decide, by decide⟩
  | 3, _, _ => exact ⟨by decide, by decide, by decide⟩
  | 4, _, _ => exact ⟨by decide, by decide, by decide⟩
  | 5, _, _ => exact ⟨by decide, by decide, by decide⟩
  | 6, _, _ => exact ⟨by decide, by decide, by decide⟩
  | 7, _, _ => exact ⟨by decide, by decide, by decide⟩
def kgC : Bool := (List.range 127).all fun n => decide (fN (2 * (n : Int) + 2) = 0) && (List.range 7).any fun q => decide (uG ((2 * (n : Int) + 2) / ((2 ^ (q + 1) : Nat) : Int)) = 1)
theorem u50 : kgC = true := by kernel_rfl
theorem KG.ok {k : Int} (h : KG k) : (¬ k = 0 ∧ fN k = 0) ∧ ∃ q, 1 ≤ q ∧ q ≤ 7 ∧ xR k q = true := by
  unfold KG at h
  obtain ⟨n, rfl⟩ : ∃ n : Nat, k = 2 * (n : Int) + 2 := ⟨((k - 2) / 2).toNat, by omega⟩
  have h1 := List.all_eq_true.1 u50 n (List.mem_range.2 (by omega))
  rw [Bool.and_eq_true, decide_eq_true_iff] at h1
  obtain ⟨q, hq, h2⟩ := List.any_eq_true.1 h1.2
  have hq := List.mem_range.1 hq
  exact ⟨⟨by omega, h1.1⟩, q + 1, by omega, by omega, decide_eq_true ⟨by omega, by omega, of_decide_eq_true h2⟩⟩
theorem k0i {l : List Int} {n : Nat} {lo hi : Int} (h : f9 l n lo hi = true) : gJ l n = true ∧ kB l n = l ∧ kQ l n = n ∧ 1 ≤ n := by
  unfold f9 at h
  rw [Bool.and_eq_true, decide_eq_true_iff] at h
  exact ⟨h.1, (k44 h.1).1, (k44 h.1).2, h.2.1⟩
theorem u08 {ms : List (List Int)} (h : xN ms = true) : 1 ≤ ms.length := (of_decide_eq_true h).1
attribute [local irreducible] aX yQ a6 fU vY kA kC yB rK d9 oK xP knK f9 xN
def BxV (b : Bx) : Prop := BxW b ∧ KG b.k ∧ eK b.k b.r b.rn b.m b.s b.sn = true
def BsV (bs : List Bx) : Prop := ∀ b ∈ bs, BxV b
theorem w6 {k : Int} {r : List Int} {rn : Nat} {m : List (List Int)} {s : List Int} {sn : Nat} (h : eK k r rn m s sn = true) : (¬ k = 0 ∧ fN k = 0) ∧ f9 r rn 1000 768000 = true ∧ xN m = true ∧ f9 s sn 1 65536 = true := by
  unfold eK at h
  rw [Bool.and_eq_true, Bool.and_eq_true, Bool.and_eq_true, decide_eq_true_iff] at h
  exact h
theorem BxV.g {b : Bx} (h : BxV b) : BxG b := by
  obtain ⟨h1, h2, h3⟩ := h
  obtain ⟨_, p2, p3, p4⟩ := w6 h3
  obtain ⟨_, _, r3, r4⟩ := k0i p2
  obtain ⟨_, _, s3, s4⟩ := k0i p4
  exact ⟨h1, by omega, by omega, u08 p3, h2.ok.2⟩
theorem BsV.g {bs : List Bx} (h : BsV bs) : BsG bs := fun b hb => (h b hb).g
theorem BsV.w {bs : List Bx} (h : BsV bs) : BsW bs := fun b hb => (h b hb).1
theorem BsV.vb {bs : List Bx} (h : BsV bs) (hn : bs.length ≤ 64) : hY bs = true := k3s hn fun i hi => (h _ (mT hi)).2.2
theorem BsV.eq {bs : List Bx} (h : BsV bs) (hn : bs.length ≤ 64) : kE bs = bs := w7 (h.vb hn)
theorem BsV.nil : BsV [] := fun b hb => by cases hb
theorem BsV.app {a b : List Bx} (h : BsV a) (h2 : BsV b) : BsV (a ++ b) := fun m hm => (List.mem_append.1 hm).elim (h m) (h2 m)
theorem BsV.one {b : Bx} (h : BxV b) : BsV [b] := fun m hm => by rw [List.mem_singleton.1 hm]; exact h
theorem BsV.box {xs : List Bx} (h : BsV xs) {i : Nat} (hi : i < xs.length) : BxV (y7 (qJ xs i) (qR xs i) (qM xs i) (kY xs i) (qS xs i) (qN xs i)) := h _ (mT hi)
end Go.Proofs.YtcfmjpnffembpaaGreat
namespace Go.Proofs.YtcfmjpnffembpaaGreat
open Go.ChangeShapes Go.WideShapes Go.ChangeAt Go.RowKit
set_option linter.unusedVariables false
set_option linter.unusedSimpArgs false
/-! chapter 10: boxes within boxes; reduced lists; intersections -/
def anW (a b : Int) : Int := qG .andNot .i64 a b
def avS (l : List Int) (v : Int) : Nat → List Int
 | 0 => []
 | k + 1 => if v < List.getD l (k * 2 + 1) 0 then avS l v k ++ [max (List.getD l (k * 2) 0) (v + 1), List.getD l (k * 2 + 1) 0] else avS l v k
def avN (l : List Int) (v : Int) (k : Nat) : Nat := (avS l v k).length / 2
def meB (r : List Int) (rn : Nat) (r2 : List Int) (rn2 : Nat) : Bool := decide (uR (kB r rn) (kB r2 rn2) < 64) || decide (uR (kB (avS r (List.getD (nT (kB r rn) (kB r2 rn2)) 127 0) rn) (avN r (List.getD (nT (kB r rn) (kB r2 rn2)) 127 0) rn)) (kB r2 rn2) = 0)
def xsB (r : List Int) (rn : Nat) (r2 : List Int) (rn2 : Nat) (s : List Int) (sn : Nat) (s2 : List Int) (sn2 : Nat) : Bool := meB r rn r2 rn2 && meB s sn s2 sn2
/-! the boxes made of each box of one list with each box of another one -/
def crB (xs ys : List Bx) (i j : Nat) : Bx := y7 (qH (qJ xs i) (qJ ys j)) (nT (kB (qR xs i) (qM xs i)) (kB (qR ys j) (qM ys j))) (uR (kB (qR xs i) (qM xs i)) (kB (qR ys j) (qM ys j))) (uP (kY xs i) (kY ys j) (List.length (kY xs i))) (nT (kB (qS xs i) (qN xs i)) (kB (qS ys j) (qN ys j))) (uR (kB (qS xs i) (qN xs i)) (kB (qS ys j) (qN ys j)))
def crV (xs ys : List Bx) (i j : Nat) : Bool := eK (qH (qJ xs i) (qJ ys j)) (nT (kB (qR xs i) (qM xs i)) (kB (qR ys j) (qM ys j))) (uR (kB (qR xs i) (qM xs i)) (kB (qR ys j) (qM ys j))) (uP (kY xs i) (kY ys j) (List.length (kY xs i))) (nT (kB (qS xs i) (qN xs i)) (kB (qS ys j) (qN ys j))) (uR (kB (qS xs i) (qN xs i)) (kB (qS ys j) (qN ys j)))
def crS (xs ys : List Bx) (i j : Nat) : Bool := xsB (qR xs i) (qM xs i) (qR ys j) (qM ys j) (qS xs i) (qN xs i) (qS ys j) (qN ys j)
def cjL (xs ys : List Bx) (i : Nat) (o : List Bx) : Nat → List Bx
 | 0 => o
 | j + 1 => if crV xs ys i j = true then cjL xs ys i o j ++ [crB xs ys i j] else cjL xs ys i o j
def ciL (xs ys : List Bx) : Nat → List Bx
 | 0 => []
 | i + 1 => cjL xs ys i (ciL xs ys i) (List.length ys)
def ljB (xs ys : List Bx) (i : Nat) (b : Bool) : Nat → Bool
 | 0 => b
 | j + 1 => ljB xs ys i b j && (!(crV xs ys i j) || (crS xs ys i j && decide (List.length (cjL xs ys i (ciL xs ys i) j) ≠ 64)))
def liB (xs ys : List Bx) : Nat → Bool
 | 0 => true
 | i + 1 => ljB xs ys i (liB xs ys i) (List.length ys)
def CI (xs ys : List Bx) (i : Nat) (o : List Bx) : Prop := ciL xs ys i = o ∧ liB xs ys i = true
def CJ2 (xs ys : List Bx) (i j : Nat) (o : List Bx) : Prop := cjL xs ys i (ciL xs ys i) j = o ∧ ljB xs ys i (liB xs ys i) j = true
theorem CI.zero (xs ys : List Bx) : CI xs ys 0 [] := ⟨rfl, rfl⟩
theorem CI.in {xs ys : List Bx} {i : Nat} {o : List Bx} (h : CI xs ys i o) : CJ2 xs ys i 0 o := h
theorem CJ2.out {xs ys : List Bx} {i j : Nat} {o : List Bx} (h : CJ2 xs ys i j o) (hj : j = List.length ys) : CI xs ys (i + 1) o := by subst hj; exact h
theorem CJ2.n {xs ys : List Bx} {i j : Nat} {o : List Bx} (h : CJ2 xs ys i j o) (h1 : crV xs ys i j = false) : CJ2 xs ys i (j + 1) o := by
 refine ⟨?_, ?_⟩
 ·show (if crV xs ys i j = true then _ else _) = o
  rw [if_neg (by rw [h1]; decide)]; exact h.1
 ·show (ljB xs ys i (liB xs ys i) j && _) = true
  rw [h.2, h1]; rfl
theorem CJ2.y {xs ys : List Bx} {i j : Nat} {o : List Bx} (h : CJ2 xs ys i j o) (h1 : crV xs ys i j = true) (h2 : crS xs ys i j = true) (h3 : ¬ List.length o = 64) : CJ2 xs ys i (j + 1) (o ++ [crB xs ys i j]) := by
 refine ⟨?_, ?_⟩
 ·show (if crV xs ys i j = true then _ else _) = _
  rw [if_pos h1, h.1]
 ·show (ljB xs ys i (liB xs ys i) j && (!(crV xs ys i j) || (crS xs ys i j && decide _))) = true
  rw [h.2, h1, h2, h.1, decide_eq_true h3]; rfl
end Go.Proofs.YtcfmjpnffembpaaGreat
namespace Go.Proofs.YtcfmjpnffembpaaGreat
open Go.ChangeShapes Go.WideShapes Go.ChangeAt Go.RowKit
set_option linter.unusedVariables false
set_option linter.unusedSimpArgs false
def NI (a b : Bx) : Prop := (∀ q, 1 ≤ q → q ≤ 7 → xR a.k q = true → xR b.k q = true) ∧ (∀ x, oE a.r x = true → oE b.r x = true) ∧ (∀ m ∈ a.m, m ∈ b.m) ∧ (∀ x, oE a.s x = true → oE b.s x = true)
theorem NI.refl (a : Bx) : NI a a := ⟨fun _ _ _ h => h, fun _ h => h, fun _ h => h, fun _ h => h⟩
theorem NI.trans {a b c : Bx} (h : NI a b) (h2 : NI b c) : NI a c := ⟨fun q h3 h4 h5 => h2.1 q h3 h4 (h.1 q h3 h4 h5), fun x h3 => h2.2.1 x (h.2.1 x h3), fun m h3 => h2.2.2.1 m (h.2.2.1 m h3), fun x h3 => h2.2.2.2 x (h.2.2.2 x h3)⟩
def HC (b : Bx) (c : Co) : Prop := (1 ≤ c.k ∧ c.k ≤ 7 ∧ xR b.k c.k.toNat = true) ∧ oE b.r c.r = true ∧ c.m ∈ b.m ∧ oE b.s c.s = true
theorem HC.mono {a b : Bx} (h : NI a b) {c : Co} (hc : HC a c) : HC b c := ⟨⟨hc.1.1, hc.1.2.1, h.1 _ (by have := hc.1.1; omega) (by have := hc.1.2.1; omega) hc.1.2.2⟩, h.2.1 _ hc.2.1, h.2.2.1 _ hc.2.2.1, h.2.2.2 _ hc.2.2.2⟩
def LCo (xs : List Bx) (c : Co) : Prop := ∃ b ∈ xs, HC b c
theorem LCo.app {xs ys : List Bx} {c : Co} : LCo (xs ++ ys) c ↔ LCo xs c ∨ LCo ys c := by
  constructor
  · rintro ⟨b, hb, h⟩; exact (List.mem_append.1 hb).imp (fun h1 => ⟨b, h1, h⟩) fun h1 => ⟨b, h1, h⟩
  · rintro (⟨b, hb, h⟩ | ⟨b, hb, h⟩)
    · exact ⟨b, List.mem_append_left _ hb, h⟩
    · exact ⟨b, List.mem_append_right _ hb, h⟩
/-! boxes that are reduced away -/
def GO (xs : List Bx) (i j : Nat) : Prop := j ≠ i ∧ NI (gO xs i) (gO xs j) ∧ (j < i ∨ ¬ NI (gO xs j) (gO xs i))
theorem GO.trans {xs : List Bx} {i j k : Nat} (h : GO xs i j) (h2 : GO xs j k) : GO xs i k := by
  obtain ⟨a1, a2, a3⟩ := h
  obtain ⟨b1, b2, b3⟩ := h2
  have key : NI (gO xs k) (gO xs i) → k < i := fun h => by
    have c1 : k < j := b3.elim id fun h9 => absurd (h.trans a2) h9
    have c2 : j < i := a3.elim id fun h9 => absurd (b2.trans h) h9
    omega
  refine ⟨fun e => ?_, a2.trans b2, ?_⟩
  · have := key (by rw [e]; exact NI.refl _); omega
  · by_cases e : NI (gO xs k) (gO xs i)
    · exact .inl (key e)
    · exact .inr e
end Go.Proofs.YtcfmjpnffembpaaGreat
namespace Go.Proofs.YtcfmjpnffembpaaGreat
open Go.ChangeShapes Go.WideShapes Go.ChangeAt Go.RowKit
set_option linter.unusedVariables false
set_option linter.unusedSimpArgs false
def BxF (b : Bx) : Prop := b.rn ≤ 5 ∧ b.sn ≤ 5
def BsF (xs : List Bx) : Prop := ∀ b ∈ xs, BxF b
theorem BsF.nil : BsF [] := fun b hb => by cases hb
theorem BsF.app {a b : List Bx} (h : BsF a) (h2 : BsF b) : BsF (a ++ b) := fun m hm => (List.mem_append.1 hm).elim (h m) (h2 m)
theorem BsF.one {b : Bx} (h : BxF b) : BsF [b] := fun m hm => by rw [List.mem_singleton.1 hm]; exact h
theorem BsF.box {xs : List Bx} (h : BsF xs) {i : Nat} (hi : i < xs.length) : BxF (y7 (qJ xs i) (qR xs i) (qM xs i) (kY xs i) (qS xs i) (qN xs i)) := h _ (mT hi)
end Go.Proofs.YtcfmjpnffembpaaGreat
namespace Go.Proofs.YtcfmjpnffembpaaGreat
open Go.ChangeShapes Go.WideShapes Go.ChangeAt Go.RowKit
set_option linter.unusedVariables false
set_option linter.unusedSimpArgs false
def o5 (k : Int) (c n m : Nat) : Nat := if ¬ k = 0 ∧ 1 ≤ c ∧ 1 ≤ n ∧ 1 ≤ m then 1 else 0
theorem u6j {k : Int} {c n m : Nat} (h : ¬ k = 0 ∧ 1 ≤ c ∧ 1 ≤ n ∧ 1 ≤ m) : o5 k c n m = 1 := if_pos h
theorem u6k {k : Int} {c n m : Nat} (h : ¬ (¬ k = 0 ∧ 1 ≤ c ∧ 1 ≤ n ∧ 1 ≤ m)) : o5 k c n m = 0 := if_neg h
/-! a box with the dimensions of another one -/
def zK (d k k2 : Int) : Int := if qH d 1 = 0 then k else k2
def zL (d b : Int) (r r2 : List Int) : List Int := if qH d b = 0 then r else r2
def zN (d b : Int) (n n2 : Nat) : Nat := if qH d b = 0 then n else n2
def zM (d b : Int) (m m2 : List (List Int)) : List (List Int) := if qH d b = 0 then m else m2
def shP (xs ys : List Bx) (i j : Nat) : Prop × Prop × Prop × Prop := (¬ qH (qJ xs i) (qJ ys j) = 0, 1 ≤ uR (kB (qR xs i) (qM xs i)) (kB (qR ys j) (qM ys j)), 1 ≤ List.length (uP (kY xs i) (kY ys j) (List.length (kY xs i))), 1 ≤ uR (kB (qS xs i) (qN xs i)) (kB (qS ys j) (qN ys j)))
theorem BsF.at {xs : List Bx} (h : BsF xs) {i : Nat} (hi : i < xs.length) : qM xs i ≤ 5 ∧ qN xs i ≤ 5 := h _ (mT hi)
theorem u3r {d k k2 : Int} (h : qH d 1 = 0) : zK d k k2 = k := if_pos h
theorem u3q {d k k2 : Int} (h : ¬ qH d 1 = 0) : zK d k k2 = k2 := if_neg h
theorem iH {d b : Int} {r r2 : List Int} (h : qH d b = 0) : zL d b r r2 = r := if_pos h
theorem iG {d b : Int} {r r2 : List Int} (h : ¬ qH d b = 0) : zL d b r r2 = r2 := if_neg h
theorem iF {d b : Int} {n n2 : Nat} (h : qH d b = 0) : zN d b n n2 = n := if_pos h
theorem iB {d b : Int} {n n2 : Nat} (h : ¬ qH d b = 0) : zN d b n n2 = n2 := if_neg h
theorem bK {d b : Int} {m m2 : List (List Int)} (h : qH d b = 0) : zM d b m m2 = m := if_pos h
theorem bJ {d b : Int} {m m2 : List (List Int)} (h : ¬ qH d b = 0) : zM d b m m2 = m2 := if_neg h
theorem u1k {xs : List Bx} (h : xs.length = 0) : hY xs = true := by
  obtain rfl : xs = [] := List.eq_nil_of_length_eq_zero h
  rfl
end Go.Proofs.YtcfmjpnffembpaaGreat
