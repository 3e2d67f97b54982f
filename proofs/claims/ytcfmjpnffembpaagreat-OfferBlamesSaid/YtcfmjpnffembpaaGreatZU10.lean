/- Merged texts. -/
import Derived.Test.YtcfmjpnffembpaaGreatZJ10
namespace Go.Proofs.YtcfmjpnffembpaaGreat
open Go.ChangeShapes Go.WideShapes Go.ChangeAt Go.RowKit
set_option linter.unusedVariables false
set_option linter.unusedSimpArgs false
/-! chapter 10: what the laws want of intersections -/
theorem k7k {a b : Nat} (ha : a ≤ 5) (hb : b ≤ 5) : a * b < 64 := by
  have h1 : a * b ≤ 5 * b := Nat.mul_le_mul_right _ ha
  omega
section
variable {xs bs : List Bx} (h : BsV xs) (h2 : BsV bs) (f : BsF xs) (f2 : BsF bs) (hn : xs.length ≤ 5 ∧ bs.length ≤ 5)
include h h2 f f2 hn
theorem v2j : mO xs bs = 0 := (u4b h h2 f f2 (k7k hn.1 hn.2) (by omega) (by omega)).2.1
end
section
variable {xs : List Bx} (h : BsV xs) (f : BsF xs) (hn : xs.length ≤ 5) {k r : Int} {m : List Int} {z : Int} (hm : m.length ≤ 1000000)
include h f hn hm
end
end Go.Proofs.YtcfmjpnffembpaaGreat
namespace Go.Proofs.YtcfmjpnffembpaaGreat
open Go.ChangeShapes Go.WideShapes Go.ChangeAt Go.RowKit
set_option linter.unusedVariables false
set_option linter.unusedSimpArgs false
def zP (k : Int) (c n m : Nat) : Nat := if ¬ k = 0 ∧ 1 ≤ c ∧ 1 ≤ n ∧ 1 ≤ m then 1 else 0
theorem v1w {k : Int} {c n m : Nat} (h : ¬ k = 0 ∧ 1 ≤ c ∧ 1 ≤ n ∧ 1 ≤ m) : zP k c n m = 1 := if_pos h
theorem v1x {k : Int} {c n m : Nat} (h : ¬ (¬ k = 0 ∧ 1 ≤ c ∧ 1 ≤ n ∧ 1 ≤ m)) : zP k c n m = 0 := if_neg h
def r9 (xs ys : List Bx) : Nat := zP (qK (kQ xs 0) (kQ ys 0)) (List.length (uJ (kL xs 0) (kL ys 0) (List.length (kL xs 0)))) (aW (kC (kZ xs 0) (kX xs 0)) (kC (kZ ys 0) (kX ys 0))) (aW (kC (qA xs 0) (k8 xs 0)) (kC (qA ys 0) (k8 ys 0)))
def dmX (xs ys : List Bx) : Bx := u7 (qK (kQ xs 0) (kQ ys 0)) (jR (kC (kZ xs 0) (kX xs 0)) (kC (kZ ys 0) (kX ys 0))) (aW (kC (kZ xs 0) (kX xs 0)) (kC (kZ ys 0) (kX ys 0))) (uJ (kL xs 0) (kL ys 0) (List.length (kL xs 0))) (jR (kC (qA xs 0) (k8 xs 0)) (kC (qA ys 0) (k8 ys 0))) (aW (kC (qA xs 0) (k8 xs 0)) (kC (qA ys 0) (k8 ys 0)))
theorem wR {a b : List Int} (h : aW a b ≤ 64) : uM a b = jR a b ∧ qM a b = aW a b := by
  obtain ⟨h1, h2⟩ := v0a (a := a) (b := b) rfl
  have h3 := jQ a b
  rw [Nat.min_eq_left h] at h1 h2
  exact ⟨by rw [h1]; exact List.take_of_length_le (by omega), h2⟩
theorem xL {a b : List Int} {n m : Nat} (ha : a.length = n * 2) (hb : b.length = m * 2) (h : n + m ≤ 64) : aW (kC a n) (kC b m) ≤ 64 := by
  have := k89 ha hb
  unfold aW; omega
theorem v0o {a b : Bx} (ha : BxV a) (hb : BxV b) (fa : BxF a) (fb : BxF b) : rD a b = u7 (qK a.k b.k) (jR (kC a.r a.rn) (kC b.r b.rn)) (aW (kC a.r a.rn) (kC b.r b.rn)) (uJ a.m b.m a.m.length) (jR (kC a.s a.sn) (kC b.s b.sn)) (aW (kC a.s a.sn) (kC b.s b.sn)) := by
  obtain ⟨f1, f2⟩ := fa
  obtain ⟨f3, f4⟩ := fb
  obtain ⟨r1, r2⟩ := wR (xL ha.1.1 hb.1.1 zo)
  obtain ⟨s1, s2⟩ := wR (xL ha.1.2.1 hb.1.2.1 zo)
  unfold rD; rw [r1, r2, s1, s2]
theorem pE {l : List Int} {n : Nat} (hl : l.length = n * 2) (hv : cY (uF l)) (h : 1 ≤ n) : ∃ x, dK l x = true := by
  have h1 := gE hv _ ((yF hl).2 ⟨0, by omega, rfl⟩)
  unfold fK at h1
  exact ⟨List.getD l (0 * 2) 0, k8d hl (k := 0) (by omega) ⟨Int.le_refl _, h1.2.1⟩⟩
theorem u04 {a b : Bx} (ha : BxV a) (hb : BxV b) (fa : BxF a) (fb : BxF b) : okX (rD a b) = true ↔ ¬ qK a.k b.k = 0 ∧ 1 ≤ (uJ a.m b.m a.m.length).length ∧ 1 ≤ qM (kC a.r a.rn) (kC b.r b.rn) ∧ 1 ≤ qM (kC a.s a.sn) (kC b.s b.sn) := by
  constructor
  · intro h
    obtain ⟨p1, p2, p3, p4⟩ := b6 h
    exact ⟨p1.1, k62 p3, (rZ p2).2.2.2, (rZ p4).2.2.2⟩
  · rintro ⟨h1, h2, h3, h4⟩
    obtain ⟨x, hx⟩ := pE (uR (kC a.r a.rn) (kC b.r b.rn)) (k0e ha.1.1 hb.1.1) h3
    obtain ⟨y, hy⟩ := pE (uR (kC a.s a.sn) (kC b.s b.sn)) (k0e ha.1.2.1 hb.1.2.1) h4
    obtain ⟨m, hm⟩ := List.exists_mem_of_length_pos h2
    have hg : KG (qK a.k b.k) := (xN ha.2.1 hb.2.1).1.elim (fun e => absurd e h1) id
    obtain ⟨q, q1, q2, q3⟩ := hg.ok.2
    have hc : HC (rD a b) ⟨(q : Int), x, m, y⟩ := ⟨⟨by show (1 : Int) ≤ q; omega, by show (q : Int) ≤ 7; omega, by rw [show (q : Int).toNat = q by omega]; exact q3⟩, hx, hm, hy⟩
    have h5 : HC a ⟨(q : Int), x, m, y⟩ ∧ HC b ⟨(q : Int), x, m, y⟩ := by
      obtain ⟨⟨a1, a2, _⟩, a3, a4, _⟩ := BxV.sets ha
      obtain ⟨⟨b1, b2, _⟩, b3, b4, _⟩ := BxV.sets hb
      obtain ⟨f1, f2⟩ := fa
      obtain ⟨f3, f4⟩ := fb
      have hr := (nC (x := x) ha.1.1 hb.1.1 (by omega)).1 hx
      have hs := (nC (x := y) ha.1.2.1 hb.1.2.1 (by omega)).1 hy
      rw [a2, b2] at hr; rw [a4, b4] at hs
      have hm2 := jM.1 hm
      have hk := ((xN ha.2.1 hb.2.1).2 q q1 q2).1 q3
      have e : (q : Int).toNat = q := by omega
      exact ⟨⟨⟨by show (1 : Int) ≤ q; omega, by show (q : Int) ≤ 7; omega, by rw [e]; exact hk.1⟩, hr.1, hm2.1, hs.1⟩, ⟨⟨by show (1 : Int) ≤ q; omega, by show (q : Int) ≤ 7; omega, by rw [e]; exact hk.2⟩, hr.2, hm2.2, hs.2⟩⟩
    exact ((pM ha hb fa fb _).2 h5).1
def j4 (xs ys : List Bx) : List Bx := if r9 xs ys = 1 then b7 [dmX xs ys] else []
theorem u42 {xs ys : List Bx} (hn : xs.length = 1) (hm : ys.length = 1) (h : BsV xs) (h2 : BsV ys) (f : BsF xs) (f2 : BsF ys) : r9 xs ys = 1 ↔ okX (rD (aB xs 0) (aB ys 0)) = true := by
  have m1 := qF (bs := xs) (i := 0) (by omega)
  have m2 := qF (bs := ys) (i := 0) (by omega)
  obtain ⟨f1, f3⟩ := f _ m1
  obtain ⟨f4, f5⟩ := f2 _ m2
  rw [u04 (h _ m1) (h2 _ m2) (f _ m1) (f2 _ m2), (wR (xL (h _ m1).1.1 (h2 _ m2).1.1 (by omega))).2, (wR (xL (h _ m1).1.2.1 (h2 _ m2).1.2.1 (by omega))).2]
  show zP _ _ _ _ = 1 ↔ _
  unfold zP
  constructor
  · intro e; split at e
    · assumption
    · cases e
  · intro e; exact if_pos e
theorem k6f (xs ys : List Bx) : r9 xs ys = 0 ∨ r9 xs ys = 1 := by
  unfold r9 zP; split
  · exact .inr rfl
  · exact .inl rfl
theorem u9b {xs ys : List Bx} (hn : xs.length = 1) (hm : ys.length = 1) (h : BsV xs) (h2 : BsV ys) (f : BsF xs) (f2 : BsF ys) (e : r9 xs ys = 1) : j4 xs ys = b7 [dmX xs ys] ∧ sB [dmX xs ys] = 0 ∧ List.length (j4 xs ys) = 1 ∧ BsW [dmX xs ys] ∧ cQ [dmX xs ys] = true := by
  have m1 := qF (bs := xs) (i := 0) (by omega)
  have m2 := qF (bs := ys) (i := 0) (by omega)
  have e1 := (u42 hn hm h h2 f f2).1 e
  have e2 : dmX xs ys = rD (aB xs 0) (aB ys 0) := (v0o (h _ m1) (h2 _ m2) (f _ m1) (f2 _ m2)).symm
  have hv : BsV [dmX xs ys] := by rw [e2]; exact BsV.one (u05 (h _ m1) (h2 _ m2) e1)
  obtain ⟨r1, r2, _⟩ := k6m hv (by show 1 ≤ 64; decide)
  have e3 : j4 xs ys = b7 [dmX xs ys] := if_pos e
  refine ⟨e3, r2, ?_, hv.w, hv.vb (by show 1 ≤ 64; decide)⟩
  rw [e3, r1]
  show List.length (if goB [dmX xs ys] 0 = true then [] else [bxP [dmX xs ys] 0]) = 1
  rw [if_neg (by rw [k8h fun j hj => k57 (show j = 0 by have : j < 1 := hj; omega)]; decide)]; rfl
theorem u9c {xs ys : List Bx} (e : r9 xs ys = 0) : j4 xs ys = [] := if_neg (by omega)
theorem k6o {xs ys : List Bx} (hn : xs.length = 1) (hm : ys.length = 1) (h : BsV xs) (h2 : BsV ys) (f : BsF xs) (f2 : BsF ys) : List.length (j4 xs ys) = r9 xs ys := by
  rcases k6f xs ys with e | e
  · rw [u9c e, e]; rfl
  · rw [(u9b hn hm h h2 f f2 e).2.2.1, e]
theorem xM {a b : List Int} {n m : Nat} (ha : a.length = n * 2) (hb : b.length = m * 2) : aW (kC a n) (kC b m) ≤ 1000000 := by
  have h1 := u0o (kU ha) (kU hb) (uG ha) (uG hb)
  have h2 := (aN (l := a) (n := n)).1
  have h3 := (aN (l := b) (n := m)).1
  omega
/-! a box with the dimensions of another one -/
def zK (d k k2 : Int) : Int := if qK d 1 = 0 then k else k2
def zL (d b : Int) (r r2 : List Int) : List Int := if qK d b = 0 then r else r2
def zN (d b : Int) (n n2 : Nat) : Nat := if qK d b = 0 then n else n2
def zM (d b : Int) (m m2 : List (List Int)) : List (List Int) := if qK d b = 0 then m else m2
def zX (d : Int) (xs ys : List Bx) (i j : Nat) : Bx := u7 (zK d (kQ xs i) (kQ ys j)) (zL d 2 (kZ xs i) (kZ ys j)) (zN d 2 (kX xs i) (kX ys j)) (zM d 4 (kL xs i) (kL ys j)) (zL d 8 (qA xs i) (qA ys j)) (zN d 8 (k8 xs i) (k8 ys j))
theorem z_V (d : Int) {xs ys : List Bx} (h : BsV xs) (h2 : BsV ys) (f : BsF xs) (f2 : BsF ys) {i j : Nat} (hi : i < xs.length) (hj : j < ys.length) : BxV (zX d xs ys i j) ∧ BxF (zX d xs ys i j) := by
  obtain ⟨⟨w1, w2, w3, w4, w5, w6⟩, k1, o1⟩ := h _ (qF hi)
  obtain ⟨⟨v1, v2, v3, v4, v5, v6⟩, k2, o2⟩ := h2 _ (qF hj)
  obtain ⟨a1, a2⟩ := f _ (qF hi)
  obtain ⟨b1, b2⟩ := f2 _ (qF hj)
  obtain ⟨p1, p2, p3, p4⟩ := b6 o1
  obtain ⟨q1, q2, q3, q4⟩ := b6 o2
  have e1 : (KG (zX d xs ys i j).k ∧ (¬ (zX d xs ys i j).k = 0 ∧ fO (zX d xs ys i j).k = 0)) := by
    show KG (zK d (kQ xs i) (kQ ys j)) ∧ (¬ zK d (kQ xs i) (kQ ys j) = 0 ∧ fO (zK d (kQ xs i) (kQ ys j)) = 0)
    unfold zK; split
    · exact ⟨k1, p1⟩
    · exact ⟨k2, q1⟩
  have e2 : (zX d xs ys i j).r.length = (zX d xs ys i j).rn * 2 ∧ (zX d xs ys i j).rn ≤ 1000000 ∧ (zX d xs ys i j).rn ≤ 5 ∧ d9 (zX d xs ys i j).r (zX d xs ys i j).rn 1000 768000 = true := by
    show (zL d 2 _ _).length = zN d 2 _ _ * 2 ∧ zN d 2 _ _ ≤ 1000000 ∧ zN d 2 _ _ ≤ 5 ∧ d9 (zL d 2 _ _) (zN d 2 _ _) 1000 768000 = true
    unfold zL zN; split
    · exact ⟨w1, w3, a1, p2⟩
    · exact ⟨v1, v3, b1, q2⟩
  have e3 : (zX d xs ys i j).m.length ≤ 1000000 ∧ MsW (zX d xs ys i j).m ∧ p8 (zX d xs ys i j).m = true := by
    show (zM d 4 _ _).length ≤ 1000000 ∧ MsW (zM d 4 _ _) ∧ p8 (zM d 4 _ _) = true
    unfold zM; split
    · exact ⟨w5, w6, p3⟩
    · exact ⟨v5, v6, q3⟩
  have e4 : (zX d xs ys i j).s.length = (zX d xs ys i j).sn * 2 ∧ (zX d xs ys i j).sn ≤ 1000000 ∧ (zX d xs ys i j).sn ≤ 5 ∧ d9 (zX d xs ys i j).s (zX d xs ys i j).sn 1 65536 = true := by
    show (zL d 8 _ _).length = zN d 8 _ _ * 2 ∧ zN d 8 _ _ ≤ 1000000 ∧ zN d 8 _ _ ≤ 5 ∧ d9 (zL d 8 _ _) (zN d 8 _ _) 1 65536 = true
    unfold zL zN; split
    · exact ⟨w2, w4, a2, p4⟩
    · exact ⟨v2, v4, b2, q4⟩
  exact ⟨⟨⟨e2.1, e4.1, e2.2.1, e4.2.1, e3.1, e3.2.1⟩, e1.1, mT e1.2 e2.2.2.2 e3.2.2 e4.2.2.2⟩, e2.2.2.1, e4.2.2.1⟩
def smZ (xs ys : List Bx) (d : Int) (i j : Nat) : Nat := r9 [u7 (kQ xs i) (kZ xs i) (kX xs i) (kL xs i) (qA xs i) (k8 xs i)] [u7 (zK d (kQ xs i) (kQ ys j)) (zL d 2 (kZ xs i) (kZ ys j)) (zN d 2 (kX xs i) (kX ys j)) (zM d 4 (kL xs i) (kL ys j)) (zL d 8 (qA xs i) (qA ys j)) (zN d 8 (k8 xs i) (k8 ys j))]
def apB (xs ys : List Bx) (d : Int) : Bool := decide (∀ i, i < xs.length → ∀ j, j < ys.length → smZ xs ys d i j = 0)
theorem v16 {xs ys : List Bx} {d : Int} {n m : Nat} (hn : xs.length = n) (hm : ys.length = m) (h : ∀ i, i < n → ∀ j, j < m → smZ xs ys d i j = 0) : apB xs ys d = true := by
  subst hn; subst hm; exact decide_eq_true h
theorem v17 {xs ys : List Bx} {d : Int} {n m i j : Nat} (hn : xs.length = n) (hm : ys.length = m) (hi : i < n) (hj : j < m) (h : smZ xs ys d i j = 1) : apB xs ys d = false := by
  subst hn; subst hm
  exact decide_eq_false fun e => by have := e i hi j hj; omega
/-! what is shared -/
theorem u3j {k : Int} (h : KG k) : ¬ qK k k = 0 := by
  obtain ⟨n, hn, _, _, rfl⟩ := h.nat2
  rw [k2q hn hn, Nat.and_self]
  have := h.1; omega
theorem u21 {a : Bx} (ha : BxV a) (fa : BxF a) : 1 ≤ qM (kC a.r a.rn) (kC a.r a.rn) ∧ 1 ≤ qM (kC a.s a.sn) (kC a.s a.sn) ∧ 1 ≤ (uJ a.m a.m a.m.length).length := by
  obtain ⟨f1, f2⟩ := fa
  obtain ⟨⟨a1, a2, a0⟩, a3, a4, a9⟩ := BxV.sets ha
  have p3 := (b6 ha.2.2).2.2.1
  obtain ⟨m, hm⟩ := List.exists_mem_of_length_pos (k62 p3)
  obtain ⟨x, hx⟩ := pE ha.1.1 ((cI ha.1.1).1 a1).2 a0
  obtain ⟨y, hy⟩ := pE ha.1.2.1 ((cI ha.1.2.1).1 a3).2 a9
  have hr := (nC (x := x) ha.1.1 ha.1.1 (by omega)).2 (by rw [a2]; exact ⟨hx, hx⟩)
  have hs := (nC (x := y) ha.1.2.1 ha.1.2.1 (by omega)).2 (by rw [a4]; exact ⟨hy, hy⟩)
  have ne : ∀ {l : List Int} {n : Nat} {x : Int}, l.length = n * 2 → dK l x = true → 1 ≤ n := fun {l n x} hl hx => by
    obtain ⟨p, hp, _⟩ := aV.1 hx
    have := List.length_pos_of_mem hp
    rw [qW hl] at this; omega
  exact ⟨ne (uR _ _) hr, ne (uR _ _) hs, List.length_pos_of_mem (jM.2 ⟨hm, hm⟩)⟩
def lR (xs ys : List Bx) (i j : Nat) : Prop × Prop × Prop × Prop := (¬ qK (kQ xs i) (kQ ys j) = 0, 1 ≤ qM (kC (kZ xs i) (kX xs i)) (kC (kZ ys j) (kX ys j)), 1 ≤ List.length (uJ (kL xs i) (kL ys j) (List.length (kL xs i))), 1 ≤ qM (kC (qA xs i) (k8 xs i)) (kC (qA ys j) (k8 ys j)))
theorem k33 {xs ys : List Bx} (d : Int) (h : BsV xs) (h2 : BsV ys) (f : BsF xs) (f2 : BsF ys) {i j : Nat} (hi : i < xs.length) (hj : j < ys.length) : smZ xs ys d i j = 1 ↔ (¬ qK d 1 = 0 → (lR xs ys i j).1) ∧ (¬ qK d 2 = 0 → (lR xs ys i j).2.1) ∧ (¬ qK d 4 = 0 → (lR xs ys i j).2.2.1) ∧ (¬ qK d 8 = 0 → (lR xs ys i j).2.2.2) := by
  have hx := h _ (qF hi); have fx := f _ (qF hi)
  obtain ⟨hz, fz⟩ := z_V d h h2 f f2 hi hj
  obtain ⟨n1, n2, n3⟩ := u21 hx fx
  have e : smZ xs ys d i j = 1 ↔ okX (rD (aB xs i) (zX d xs ys i j)) = true := u42 (xs := [aB xs i]) (ys := [zX d xs ys i j]) rfl rfl (BsV.one hx) (BsV.one hz) (BsF.one fx) (BsF.one fz)
  rw [e, u04 hx hz fx fz]
  have k0 := u3j hx.2.1
  have eK : ¬ qK (aB xs i).k (zX d xs ys i j).k = 0 ↔ (¬ qK d 1 = 0 → (lR xs ys i j).1) := by
    show ¬ qK (kQ xs i) (zK d (kQ xs i) (kQ ys j)) = 0 ↔ (¬ qK d 1 = 0 → ¬ qK (kQ xs i) (kQ ys j) = 0)
    unfold zK; by_cases hd : qK d 1 = 0
    · rw [if_pos hd]; exact ⟨fun _ e9 => absurd hd e9, fun _ => k0⟩
    · rw [if_neg hd]; exact ⟨fun a _ => a, fun a => a hd⟩
  have eR : 1 ≤ qM (kC (aB xs i).r (aB xs i).rn) (kC (zX d xs ys i j).r (zX d xs ys i j).rn) ↔ (¬ qK d 2 = 0 → (lR xs ys i j).2.1) := by
    show 1 ≤ qM (kC (kZ xs i) (kX xs i)) (kC (zL d 2 (kZ xs i) (kZ ys j)) (zN d 2 (kX xs i) (kX ys j))) ↔ (¬ qK d 2 = 0 → 1 ≤ qM (kC (kZ xs i) (kX xs i)) (kC (kZ ys j) (kX ys j)))
    unfold zL zN; by_cases hd : qK d 2 = 0
    · rw [if_pos hd, if_pos hd]; exact ⟨fun _ e9 => absurd hd e9, fun _ => n1⟩
    · rw [if_neg hd, if_neg hd]; exact ⟨fun a _ => a, fun a => a hd⟩
  have eM : 1 ≤ (uJ (aB xs i).m (zX d xs ys i j).m (aB xs i).m.length).length ↔ (¬ qK d 4 = 0 → (lR xs ys i j).2.2.1) := by
    show 1 ≤ (uJ (kL xs i) (zM d 4 (kL xs i) (kL ys j)) (kL xs i).length).length ↔ (¬ qK d 4 = 0 → 1 ≤ (uJ (kL xs i) (kL ys j) (kL xs i).length).length)
    unfold zM; by_cases hd : qK d 4 = 0
    · rw [if_pos hd]; exact ⟨fun _ e9 => absurd hd e9, fun _ => n3⟩
    · rw [if_neg hd]; exact ⟨fun a _ => a, fun a => a hd⟩
  have eS : 1 ≤ qM (kC (aB xs i).s (aB xs i).sn) (kC (zX d xs ys i j).s (zX d xs ys i j).sn) ↔ (¬ qK d 8 = 0 → (lR xs ys i j).2.2.2) := by
    show 1 ≤ qM (kC (qA xs i) (k8 xs i)) (kC (zL d 8 (qA xs i) (qA ys j)) (zN d 8 (k8 xs i) (k8 ys j))) ↔ (¬ qK d 8 = 0 → 1 ≤ qM (kC (qA xs i) (k8 xs i)) (kC (qA ys j) (k8 ys j)))
    unfold zL zN; by_cases hd : qK d 8 = 0
    · rw [if_pos hd, if_pos hd]; exact ⟨fun _ e9 => absurd hd e9, fun _ => n2⟩
    · rw [if_neg hd, if_neg hd]; exact ⟨fun a _ => a, fun a => a hd⟩
  rw [eK, eR, eM, eS]
  exact ⟨fun ⟨a, b, c, d⟩ => ⟨a, c, b, d⟩, fun ⟨a, c, b, d⟩ => ⟨a, b, c, d⟩⟩
theorem BsF.at {xs : List Bx} (h : BsF xs) {i : Nat} (hi : i < xs.length) : kX xs i ≤ 5 ∧ k8 xs i ≤ 5 := h _ (qF hi)
theorem u8g {d k k2 : Int} (h : qK d 1 = 0) : zK d k k2 = k := if_pos h
theorem u8f {d k k2 : Int} (h : ¬ qK d 1 = 0) : zK d k k2 = k2 := if_neg h
theorem u1g {d b : Int} {r r2 : List Int} (h : qK d b = 0) : zL d b r r2 = r := if_pos h
theorem u1f {d b : Int} {r r2 : List Int} (h : ¬ qK d b = 0) : zL d b r r2 = r2 := if_neg h
theorem u1e {d b : Int} {n n2 : Nat} (h : qK d b = 0) : zN d b n n2 = n := if_pos h
theorem u1d {d b : Int} {n n2 : Nat} (h : ¬ qK d b = 0) : zN d b n n2 = n2 := if_neg h
theorem u8e {d b : Int} {m m2 : List (List Int)} (h : qK d b = 0) : zM d b m m2 = m := if_pos h
theorem u8d {d b : Int} {m m2 : List (List Int)} (h : ¬ qK d b = 0) : zM d b m m2 = m2 := if_neg h
theorem u8z : b7 [] = [] ∧ sB [] = 0 := ⟨rfl, rfl⟩
theorem r8 (xs ys : List Bx) : r9 xs ys ≤ 1 := by rcases k6f xs ys with e | e <;> omega
theorem u5x {xs : List Bx} (h : xs.length = 1) (hv : cQ xs = true) : b7 xs = [u7 (kQ xs 0) (kZ xs 0) (kX xs 0) (kL xs 0) (qA xs 0) (k8 xs 0)] ∧ sB xs = 0 := by
  obtain ⟨r1, r2⟩ := k6l hv
  refine ⟨?_, r2⟩
  rw [r1, h]
  show (if goB xs 0 = true then [] else [bxP xs 0]) = _
  rw [if_neg (by rw [k8h fun j hj => k57 (show j = 0 by omega)]; decide)]; rfl
theorem u5y {xs : List Bx} (h : xs.length = 0) : b7 xs = [] ∧ sB xs = 0 := by
  obtain rfl : xs = [] := List.eq_nil_of_length_eq_zero h
  exact u8z
theorem u5k {xs : List Bx} (h : xs.length = 0) : cQ xs = true := by
  obtain rfl : xs = [] := List.eq_nil_of_length_eq_zero h
  rfl
end Go.Proofs.YtcfmjpnffembpaaGreat
