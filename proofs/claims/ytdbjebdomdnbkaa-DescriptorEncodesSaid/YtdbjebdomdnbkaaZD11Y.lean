/- Any descriptor. No statement is proved here. -/
import Derived.Test.YtdbjebdomdnbkaaZD11W
import Derived.Test.YtdbjebdomdnbkaaZOpenT
namespace Go.Proofs.Ytdbjebdomdnbkaa
open Go.ChangeShapes Go.WideShapes Go.ChangeAt Go.RowKit
open Int renaming toNat → kg0
open List renaming drop → ka7, flatten_cons → kf1, getD → ka0, getD_eq_getElem?_getD → ka8, getElem?_eq_getElem → ka9, length → ka1, length_append → ka3, length_cons → kb1, length_drop → kb2, length_map → kc3, length_nil → kb5, length_replicate → kb6, length_reverse → kc7, length_set → kc2, length_take → kb3, map_cons → kd8, mem_of_getElem? → kd6, replicate → ka5, take → ka2
open Nat renaming le_of_ble_eq_true → ka4, not_lt_zero → kd7, zero_le → kd5
set_option linter.unusedVariables false
set_option linter.unusedSimpArgs false
/-! chapter 11: any descriptor -/
set_option maxHeartbeats 4000000
set_option maxRecDepth 100000
theorem u6m {x : BitVec 64} (h : x &&& ~~~(254#64) = 0#64) : x = x &&& 254#64 := by
  ext i hi
  have h1 := congrArg (fun y : BitVec 64 => y.getLsbD i) h
  simp only [BitVec.getLsbD_and, BitVec.getLsbD_not, BitVec.getLsbD_zero] at h1
  have h2 : decide (i < 64) = true := decide_eq_true hi
  rw [h2] at h1
  rw [← BitVec.getLsbD_eq_getElem, ← BitVec.getLsbD_eq_getElem, BitVec.getLsbD_and]
  cases hx : x.getLsbD i <;> cases hc : (254#64).getLsbD i <;> simp_all
theorem u6l {k : Int} (hk : -9223372036854775808 ≤ k ∧ k ≤ 9223372036854775807) (h : dX k = 0) : 0 ≤ k ∧ k ≤ 254 ∧ k % 2 = 0 := by
  have e : dX k = IntKind.i64.wrap (((BitVec.ofInt 64 k &&& ~~~(BitVec.ofInt 64 254)).toNat : Nat) : Int) := rfl
  rw [e, IntKind.wrap_i64] at h
  have hlt := (BitVec.ofInt 64 k &&& ~~~(BitVec.ofInt 64 254)).isLt
  have h0 : (BitVec.ofInt 64 k &&& ~~~(BitVec.ofInt 64 254)).toNat = 0 := by omega
  have h1 : BitVec.ofInt 64 k &&& ~~~(254#64) = 0#64 := BitVec.eq_of_toNat_eq h0
  have h2 := congrArg BitVec.toNat (u6m h1)
  rw [BitVec.toNat_and] at h2
  have h3 : (BitVec.ofInt 64 k).toNat ≤ 254 := by rw [h2]; exact Nat.and_le_right
  have h4 : (BitVec.ofInt 64 k).toNat % 2 = 0 := by
    have h5 : (BitVec.ofInt 64 k).toNat.testBit 0 = false := by rw [h2, Nat.testBit_and]; simp
    rw [Nat.testBit_zero] at h5
    have := of_decide_eq_false h5; omega
  rw [BitVec.toNat_ofInt] at h3 h4
  omega
def KJ (bs : List Bx) : Prop := ∀ b ∈ bs, -9223372036854775808 ≤ b.k ∧ b.k ≤ 9223372036854775807
theorem KJ.nil : KJ [] := fun b hb => by cases hb
theorem KJ.app {a b : List Bx} (h : KJ a) (h2 : KJ b) : KJ (a ++ b) := fun m hm => (List.mem_append.1 hm).elim (h m) (h2 m)
theorem u5w {bs : List Bx} (hW : BsW bs) (hk : KJ bs) (hv : iI bs = true) : BsV bs := fun b hb => by
  obtain ⟨_, h2⟩ := of_decide_eq_true hv
  obtain ⟨i, hi, e⟩ := List.mem_iff_getElem.1 hb
  have e1 : vZ bs i = b := by unfold vZ; rw [ka8, ka9 hi, e]; rfl
  have h3 : dK (vZ bs i).k (vZ bs i).r (vZ bs i).rn (vZ bs i).m (vZ bs i).s (vZ bs i).sn = true := h2 i hi
  rw [e1] at h3
  obtain ⟨⟨k0, k1⟩, _⟩ := mK h3
  have h4 := u6l (hk b hb) k1
  exact ⟨hW b hb, ⟨by omega, by omega, h4.2.2⟩, h3⟩
structure DgW (id : Int) (nm : List Int) (bs : List Bx) (n : Nat) : Prop where
  y : Byt nm
  l : ka1 nm ≤ 200
  n : ka1 bs = n ∧ n ≤ 10
  w : BsW bs
  k : KJ bs
  i : 0 ≤ id ∧ id ≤ 18446744073709551615
theorem DgW.r {id : Int} {nm : List Int} {d1 d2 d3 d4 d5 : Int} {bs : List Bx} {n : Nat} (h : DgW id nm bs n) (hv : yK nm d1 d2 d3 d4 d5 bs = true) : ka1 nm ≤ 64 ∧ n ≤ 8 ∧ RbW bs ∧ ka1 (vV bs) ≤ 12000 ∧ (0 ≤ d1 ∧ d1 ≤ 65535 ∧ 0 ≤ d2 ∧ d2 ≤ 65535 ∧ 0 ≤ d3 ∧ d3 ≤ 4294967295 ∧ 0 ≤ d4 ∧ d4 ≤ 65535 ∧ 0 ≤ d5 ∧ d5 ≤ 65535) := by
  obtain ⟨h1, h2, h3⟩ := u77 hv
  have h4 := tP h1
  have h5 := h.n
  obtain ⟨r1, r2⟩ := u0m (u5w h.w h.k h3) zo
  exact ⟨h4.2, by omega, r1, r2, by omega⟩
def aD (id : Int) (nm : List Int) (d1 d2 d3 d4 d5 : Int) (bs : List Bx) : List Int := if yK nm d1 d2 d3 d4 d5 bs = true then jK id nm d1 d2 d3 d4 d5 bs ++ pbL (aR (jK id nm d1 d2 d3 d4 d5 bs)) 4 else []
def gU (nm : List Int) (d1 d2 d3 d4 d5 : Int) (bs : List Bx) : Int := if yK nm d1 d2 d3 d4 d5 bs = true then 0 else 1
theorem k24 {id : Int} {nm : List Int} {d1 d2 d3 d4 d5 : Int} {bs : List Bx} (h : yK nm d1 d2 d3 d4 d5 bs = true) : aD id nm d1 d2 d3 d4 d5 bs = jK id nm d1 d2 d3 d4 d5 bs ++ pbL (aR (jK id nm d1 d2 d3 d4 d5 bs)) 4 ∧ gU nm d1 d2 d3 d4 d5 bs = 0 := ⟨if_pos h, if_pos h⟩
theorem k90 {id : Int} {nm : List Int} {d1 d2 d3 d4 d5 : Int} {bs : List Bx} (h : yK nm d1 d2 d3 d4 d5 bs = false) : aD id nm d1 d2 d3 d4 d5 bs = [] ∧ gU nm d1 d2 d3 d4 d5 bs = 1 := ⟨if_neg (by rw [h]; decide), if_neg (by rw [h]; decide)⟩
def xpT : List (List Int) := [[], [49, 97], [97, 32, 98], [120]]
def yV (c x d : Int) : Int := if c = 0 then x % 4 else d
def yU (c x d : Int) : Int := if c = 1 then 65530 + x % 12 else d
def yT (c x d : Int) : Int := if c = 2 then 1048574 + x % 4 else d
def yS (c x d : Int) : Int := if c = 3 then 2046 + x % 4 else d
def yR (c x d : Int) : Int := if c = 4 then 4094 + x % 4 else d
def bP (c x : Int) (nm : List Int) : List Int := if c = 5 then ka0 xpT (kg0 (x % 4)) [] else nm
def aN (c x : Int) (bs : List Bx) : List Bx := if c = 6 then [] else if c = 7 then bs ++ ka5 (7 + kg0 (x % 3) - bs.length) (vZ bs 0) else bs
theorem u70 {c x : Int} {nm : List Int} (h : Byt nm) (hl : ka1 nm ≤ 200) : Byt (bP c x nm) ∧ ka1 (bP c x nm) ≤ 200 := by
  unfold bP; split
  · have : kg0 (x % 4) < 4 := by omega
    match kg0 (x % 4), this with
    | 0, _ => exact ⟨Byt.nil, by decide⟩
    | 1, _ => exact ⟨Byt.cons (by omega) (Byt.cons (by omega) Byt.nil), by decide⟩
    | 2, _ => exact ⟨Byt.cons (by omega) (Byt.cons (by omega) (Byt.cons (by omega) Byt.nil)), by decide⟩
    | 3, _ => exact ⟨Byt.cons (by omega) Byt.nil, by decide⟩
  · exact ⟨h, hl⟩
theorem u3i {c x : Int} {bs : List Bx} {p : Bx → Prop} (h : ∀ b ∈ bs, p b) (hn : 1 ≤ bs.length) : ∀ b ∈ aN c x bs, p b := by
  intro b hb
  unfold aN at hb
  split at hb
  · cases hb
  · split at hb
    · rcases List.mem_append.1 hb with hb | hb
      · exact h b hb
      · rw [(List.mem_replicate.1 hb).2]; exact h _ (fB (by omega))
    · exact h b hb
theorem k73 {c x : Int} {bs : List Bx} (h : bs.length ≤ 2) : ka1 (aN c x bs) ≤ 9 := by
  unfold aN; split
  · exact kd5 _
  · split
    · rw [ka3, kb6]; omega
    · omega
theorem u3h {id : Int} {nm : List Int} {d1 d2 d3 d4 d5 c x : Int} {bs : List Bx} {n : Nat} (h : DeW id nm d1 d2 d3 d4 d5 bs n) (h2 : n ≤ 2) : DgW id (bP c x nm) (aN c x bs) (ka1 (aN c x bs)) := by
  have hl := h.l; have hn := h.n; have hi := h.i
  have h3 := u70 (c := c) (x := x) h.y (by omega)
  refine ⟨h3.1, h3.2, ⟨rfl, by have := k73 (c := c) (x := x) (bs := bs) zo; omega⟩, u3i h.w zo, ?_, by omega⟩
  exact u3i (p := fun b => -9223372036854775808 ≤ b.k ∧ b.k ≤ 9223372036854775807) (fun b hb => by have := (h.v b hb).2.1; unfold KG at this; omega) (by omega)
theorem u7l (bs : List Bx) : bs ++ ka5 0 (vZ bs 0) = bs := List.append_nil _
theorem u7k {bs : List Bx} {j : Nat} (h : 1 ≤ bs.length) : vZ (bs ++ ka5 j (vZ bs 0)) 0 = vZ bs 0 := by
  unfold vZ
  rw [ka8, List.getElem?_append_left (by omega)]; rfl
theorem u7j {bs o : List Bx} {j : Nat} (hn : 1 ≤ bs.length) (h : bs ++ ka5 j (vZ bs 0) = o) : bs ++ ka5 (j + 1) (vZ bs 0) = o ++ [vX (vK o 0) (vH o 0) (uM o 0) (kW o 0) (aG o 0) (yW o 0)] := by
  subst h
  have e : vX (vK (bs ++ ka5 j (vZ bs 0)) 0) (vH (bs ++ ka5 j (vZ bs 0)) 0) (uM (bs ++ ka5 j (vZ bs 0)) 0) (kW (bs ++ ka5 j (vZ bs 0)) 0) (aG (bs ++ ka5 j (vZ bs 0)) 0) (yW (bs ++ ka5 j (vZ bs 0)) 0) = vZ (bs ++ ka5 j (vZ bs 0)) 0 := rfl
  rw [e, u7k hn, List.replicate_succ', List.append_assoc]
theorem jR {id : Int} {nm : List Int} {d1 d2 d3 d4 d5 : Int} {bs : List Bx} {n : Nat} (h : DgW id nm bs n) : ka1 (aD id nm d1 d2 d3 d4 d5 bs) ≤ 20000 := by
  unfold aD; split
  · rename_i hv
    have h1 := h.r hv
    rw [ka3, dL, pbL_len]; omega
  · exact kd5 _
theorem jS (nm : List Int) (d1 d2 d3 d4 d5 : Int) (bs : List Bx) : 0 ≤ gU nm d1 d2 d3 d4 d5 bs ∧ gU nm d1 d2 d3 d4 d5 bs ≤ 1 := by unfold gU; split <;> omega
/-! chapter 11: raw descriptors -/
def tyS : Ty := .st (.fcons (.sl (.st (.fcons (.i .i64) (.fcons (.i .i64) .fnil)))) .fnil)
def tyB : Ty := .sl (.st (.fcons (.i .i64) (.fcons tyS (.fcons (.sl (.sl (.i .i64))) (.fcons tyS .fnil)))))
def BxI (b : Bx) : Prop := ka1 b.r = b.rn * 2 ∧ ka1 b.s = b.sn * 2 ∧ b.rn ≤ 9223372036854775807 ∧ b.sn ≤ 9223372036854775807 ∧ ka1 b.m ≤ 9223372036854775807 ∧ ∀ l ∈ b.m, ka1 l ≤ 9223372036854775807
def BsI (xs : List Bx) : Prop := ∀ b ∈ xs, BxI b
def MsI (xs : List (List Int)) : Prop := ∀ l ∈ xs, ka1 l ≤ 9223372036854775807
theorem MsI.at {xs : List (List Int)} (h : MsI xs) (i : Nat) : ka1 (ka0 xs i []) ≤ 9223372036854775807 := by
  rw [ka8]
  cases e : xs[i]? with
  | none => exact kd5 _
  | some l => exact h l (kd6 e)
theorem BsI.get {xs : List Bx} (h : BsI xs) (i : Nat) : BxI (vZ xs i) := by
  unfold vZ
  rw [ka8]
  cases e : xs[i]? with
  | none => exact ⟨rfl, rfl, kd5 _, kd5 _, kd5 _, fun l h => by cases h⟩
  | some l => exact h l (kd6 e)
theorem BsI.at {xs : List Bx} (h : BsI xs) (i : Nat) : ka1 (vH xs i) = uM xs i * 2 ∧ ka1 (aG xs i) = yW xs i * 2 ∧ uM xs i ≤ 9223372036854775807 ∧ yW xs i ≤ 9223372036854775807 ∧ ka1 (kW xs i) ≤ 9223372036854775807 :=
  have h1 := h.get i
  ⟨h1.1, h1.2.1, h1.2.2.1, h1.2.2.2.1, h1.2.2.2.2.1⟩
theorem u3g {xs : List Bx} (h : BsI xs) (i : Nat) : MsI (kW xs i) := (h.get i).2.2.2.2.2
theorem z4 {ds : List D} (h : WfD tyS ds) : ∃ (r : List Int) (n : Nat), ds = [D.sl (dI .i64 r) n] ∧ ka1 r = n * 2 ∧ n ≤ 9223372036854775807 := by
  obtain ⟨x, y, e, ⟨xs, ex, hl, hx⟩, rfl⟩ := h
  subst e; subst ex
  obtain ⟨ys, ey, _⟩ := eK (f := fun p : Int × Int => [D.lit (.int .i64 p.1), D.lit (.int .i64 p.2)]) (Q := fun _ => True) xs fun x hm => by
    obtain ⟨x1, y1, rfl, ⟨z1, rfl, _⟩, x2, y2, rfl, ⟨z2, rfl, _⟩, rfl⟩ := hx x hm
    exact ⟨(z1, z2), rfl, trivial⟩
  subst ey
  refine ⟨ys.flatMap fun p => [p.1, p.2], ys.length, ?_, ?_, by rw [kc3] at hl; exact hl⟩
  · have e : ∀ ys : List (Int × Int), (ys.map fun p : Int × Int => [D.lit (.int .i64 p.1), D.lit (.int .i64 p.2)]).flatten = dI .i64 (ys.flatMap fun p => [p.1, p.2]) := fun ys => by
      induction ys with
      | nil => rfl
      | cons y ys ih => rw [kd8, kf1, ih]; rfl
    rw [e, kc3]; rfl
  · have e : ∀ ys : List (Int × Int), ka1 (ys.flatMap fun p => [p.1, p.2]) = ys.length * 2 := fun ys => by
      induction ys with
      | nil => rfl
      | cons y ys ih => rw [List.flatMap_cons, ka3, ih]; show 2 + _ = (_ + 1) * 2; omega
    exact e ys
theorem k7z {ds : List D} (h : WfD (.sl (.i .i64)) ds) : ∃ l : List Int, ds = [D.sl (dI .i64 l) (ka1 l)] ∧ ka1 l ≤ 9223372036854775807 := by
  obtain ⟨xs, ex, hl, hx⟩ := h
  subst ex
  obtain ⟨ys, ey, _⟩ := eK (f := fun p : Int => [D.lit (.int .i64 p)]) (Q := fun _ => True) xs fun x hm => by
    obtain ⟨z1, rfl, _⟩ := hx x hm
    exact ⟨z1, rfl, trivial⟩
  subst ey
  refine ⟨ys, ?_, by rw [kc3] at hl; exact hl⟩
  have e : ∀ ys : List Int, (ys.map fun p : Int => [D.lit (.int .i64 p)]).flatten = dI .i64 ys := fun ys => by
    induction ys with
    | nil => rfl
    | cons y ys ih => rw [kd8, kf1, ih]; rfl
  rw [e, kc3]
theorem k7s {ds : List D} (h : WfD (.sl (.sl (.i .i64))) ds) : ∃ m : List (List Int), ds = [D.sl (kY m) (ka1 m)] ∧ ka1 m ≤ 9223372036854775807 ∧ MsI m := by
  obtain ⟨xs, ex, hl, hx⟩ := h
  subst ex
  obtain ⟨ys, ey, hq⟩ := eK (f := fun l : List Int => [D.sl (dI .i64 l) (ka1 l)]) (Q := fun l => ka1 l ≤ 9223372036854775807) xs fun x hm => k7z (hx x hm)
  subst ey
  refine ⟨ys, ?_, by rw [kc3] at hl; exact hl, hq⟩
  have e : ∀ ys : List (List Int), (ys.map fun l : List Int => [D.sl (dI .i64 l) (ka1 l)]).flatten = kY ys := fun ys => by
    induction ys with
    | nil => rfl
    | cons y ys ih => rw [kd8, kf1, ih]; rfl
  rw [e, kc3]
theorem k7b (s : ByteArray) : strOfNums (uY s) = s := by
  apply ByteArray.ext
  apply Array.ext'
  rw [strOfNums_data]
  unfold uY
  rw [List.map_map]
  have e : ((fun n : Int => UInt8.ofNat n.toNat) ∘ fun b : UInt8 => (b.toNat : Int)) = id := by
    funext b
    simp
  rw [e, List.map_id]
theorem k95 (s : ByteArray) : Byt (uY s) := by
  intro x hx
  unfold uY at hx
  obtain ⟨b, _, rfl⟩ := List.mem_map.1 hx
  have := b.toNat_lt
  omega
theorem k81 (s : ByteArray) : (uY s).length = s.size := by unfold uY; rw [kc3, Array.length_toList]; rfl
def tyD : Ty := .st (.fcons (.i .u64) (.fcons .s (.fcons (.i .i64) (.fcons (.i .i64) (.fcons (.i .i64) (.fcons (.i .i64) (.fcons (.i .i64) (.fcons tyB .fnil))))))))
theorem k97 {ds : List D} (h : WfD tyB ds) : ∃ xs : List Bx, ds = [D.sl (kR xs) (ka1 xs)] ∧ ka1 xs ≤ 9223372036854775807 ∧ BsI xs ∧ KJ xs := by
  obtain ⟨xs, e, hl, hx⟩ := h
  obtain ⟨ys, ey, hq⟩ := eK (f := bxR) (Q := fun b => BxI b ∧ (-9223372036854775808 ≤ b.k ∧ b.k ≤ 9223372036854775807)) xs fun x hm => by
    obtain ⟨x1, y1, rfl, ⟨z1, rfl, wz⟩, x2, y2, rfl, h2, x3, y3, rfl, h3, x4, y4, rfl, h4, rfl⟩ := hx x hm
    obtain ⟨r, rn, rfl, r1, r2⟩ := z4 h2
    obtain ⟨m, rfl, m1, m2⟩ := k7s h3
    obtain ⟨s, sn, rfl, s1, s2⟩ := z4 h4
    exact ⟨⟨z1, r, rn, m, s, sn⟩, rfl, ⟨r1, s1, r2, s2, m1, m2⟩, bounds_i64 wz⟩
  subst ey
  refine ⟨ys, ?_, by rw [kc3] at hl; exact hl, fun b hb => (hq b hb).1, fun b hb => (hq b hb).2⟩
  have e2 : ∀ ys : List Bx, (ys.map bxR).flatten = kR ys := fun ys => by
    induction ys with
    | nil => rfl
    | cons y ys ih => rw [kd8, kf1, ih]; rfl
  rw [e2, kc3] at e
  exact e
theorem k91 {w : World} {ds : List D} {v : Value} (h : InA w tyD ds v) : ∃ (id : Int) (nm : List Int) (d1 d2 d3 d4 d5 : Int) (bs : List Bx), ds = [D.lit (.int .u64 id), D.lit (.string (strOfNums nm)), D.lit (.int .i64 d1), D.lit (.int .i64 d2), D.lit (.int .i64 d3), D.lit (.int .i64 d4), D.lit (.int .i64 d5), D.sl (kR bs) (ka1 bs)] ∧ (0 ≤ id ∧ id ≤ 18446744073709551615) ∧ Byt nm ∧ ka1 nm ≤ 9223372036854775807 ∧ ka1 bs ≤ 9223372036854775807 ∧ BsI bs ∧ KJ bs := by
  obtain ⟨⟨x1, y1, rfl, ⟨id, rfl, wi⟩, x2, y2, rfl, ⟨s, rfl, ws⟩, x3, y3, rfl, ⟨d1, rfl, _⟩, x4, y4, rfl, ⟨d2, rfl, _⟩, x5, y5, rfl, ⟨d3, rfl, _⟩, x6, y6, rfl, ⟨d4, rfl, _⟩, x7, y7, rfl, ⟨d5, rfl, _⟩, x8, y8, rfl, h8, rfl⟩, _⟩ := h
  obtain ⟨bs, rfl, b1, b2, b3⟩ := k97 h8
  exact ⟨id, uY s, d1, d2, d3, d4, d5, bs, by rw [k7b]; rfl, bounds_u64 wi, k95 s, by rw [k81]; exact ws, b1, b2, b3⟩
def kbE (xs : List Bx) (i : Nat) : Bool := decide (uM xs i ≤ 70 ∧ yW xs i ≤ 70 ∧ ka1 (kW xs i) ≤ 20 ∧ ∀ j, j < ka1 (kW xs i) → ka1 (ka0 (kW xs i) j []) ≤ 12)
def kbB (xs : List Bx) : Bool := decide (ka1 xs ≤ 10 ∧ ∀ i, i < ka1 xs → kbE xs i = true)
theorem u7r {xs : List Bx} {i : Nat} (h : uM xs i ≤ 70 ∧ yW xs i ≤ 70 ∧ ka1 (kW xs i) ≤ 20) (h2 : ∀ j, j < ka1 (kW xs i) → ka1 (ka0 (kW xs i) j []) ≤ 12) : kbE xs i = true := decide_eq_true ⟨h.1, h.2.1, h.2.2, h2⟩
theorem k1m {xs : List Bx} (h : ka1 xs ≤ 10) (h2 : ∀ i, i < ka1 xs → kbE xs i = true) : kbB xs = true := decide_eq_true ⟨h, h2⟩
theorem k1n {xs : List Bx} (h : 10 < ka1 xs) : kbB xs = false := decide_eq_false fun e => by omega
theorem k1p {xs : List Bx} {i : Nat} (hi : i < ka1 xs) (h : ¬ (uM xs i ≤ 70 ∧ yW xs i ≤ 70 ∧ ka1 (kW xs i) ≤ 20)) : kbB xs = false := decide_eq_false fun e => h (by
  have h1 := of_decide_eq_true (e.2 i hi); exact ⟨h1.1, h1.2.1, h1.2.2.1⟩)
theorem k1o {xs : List Bx} {i j : Nat} (hi : i < ka1 xs) (hj : j < ka1 (kW xs i)) (h : ¬ ka1 (ka0 (kW xs i) j []) ≤ 12) : kbB xs = false := decide_eq_false fun e => h ((of_decide_eq_true (e.2 i hi)).2.2.2 j hj)
theorem u5y {xs : List Bx} (h : BsI xs) (hk : kbB xs = true) : BsW xs ∧ ka1 xs ≤ 10 := by
  have h1 := of_decide_eq_true hk
  refine ⟨fun b hb => ?_, h1.1⟩
  obtain ⟨i, hi, rfl⟩ := List.mem_iff_getElem.1 hb
  have e : vZ xs i = xs[i] := by unfold vZ; rw [ka8, ka9 hi]; rfl
  obtain ⟨k1, k2, k3, k4⟩ := of_decide_eq_true (h1.2 i hi)
  have h2 := h _ hb
  rw [← e] at h2 ⊢
  have k1 : (vZ xs i).rn ≤ 70 := k1
  have k2 : (vZ xs i).sn ≤ 70 := k2
  have k3 : (vZ xs i).m.length ≤ 20 := k3
  refine ⟨h2.1, h2.2.1, by omega, by omega, by omega, fun l hl => ?_⟩
  obtain ⟨j, hj, rfl⟩ := List.mem_iff_getElem.1 hl
  have := k4 j hj
  have e2 : ka0 (kW xs i) j [] = (vZ xs i).m[j] := by rw [ka8]; show ((vZ xs i).m[j]?).getD [] = _; rw [ka9 hj]; rfl
  rw [e2] at this; omega
theorem mP (l : List Int) (n : Nat) (hl : ka1 l = n * 2) (hb : n ≤ 9223372036854775807) : Fun 15 [.agg [.d (D.sl (dI .i64 l) n)]] (kF []) 0 (kS (D.lit (.bool (decide (n ≤ 70))))) (kF []) 0 := by
  refine Fun.mk (n := 7) Try.func15 rfl rfl (ka4 rfl) ?_
  intro cx hcx
  refine kI [.no, .no] True [(1, rV 0 0)] [(0, some (44, .ds [dl l n]))] 1 trivial ?_
  by_cases hx1 : (((n : Nat) : Int) ≤ 70)
  · refine zr [.no, .no, .no, .b true, .no] [2] [] (((n : Int) ≤ 70)) [(2, bV true)] [] 1 zo ?_
    refine AW.ret ?_
    exact kC (.inr rfl) [] (P := ((decide (n ≤ 70)) = true)) zk (by first | rfl | assumption | exact decide_eq_true zo | exact decide_eq_false zo | (simp; omega))
  · refine zr [.no, .no, .no, .b false, .no] [2] [] (¬ ((n : Int) ≤ 70)) [(2, bV false)] [] 1 zo ?_
    refine AW.ret ?_
    exact kC (.inr rfl) [] (P := ((decide (n ≤ 70)) = false)) zk (by first | rfl | assumption | exact decide_eq_true zo | exact decide_eq_false zo | (simp; omega))
theorem hZ {p : Prop} (h : p := by first | omega | assumption | simp) : p := h
theorem wZ {p : Prop} (h : p := by first | omega | (simp only [kU, kT, pbL_len, qD, qB, u1, ka3, kb1, kb5, kb3, kb2] <;> omega)) : p := h
theorem v5 {p : Prop} (h : p := by first | omega | with_reducible assumption | (simp only [kU, kT, pbL_len, qD, qB, u1, ka3, kb1, kb5, kb3, kb2, kb6, kc2] <;> omega) | rfl | assumption) : p := h
theorem oX {p : Prop} (h : p := by first | rfl | omega | assumption | (simp; done) | (simp; omega)) : p := h
abbrev lG (xs : List Bx) (i : Nat) : BC := .ds [iD (vK xs i), D.sl (dI .i64 (vH xs i)) (uM xs i), D.sl (kY (kW xs i)) (ka1 (kW xs i)), D.sl (dI .i64 (aG xs i)) (yW xs i)]
theorem sJ (xs : List Bx) (n : Nat) (hn : ka1 xs = n) (h1 : n ≤ 9223372036854775807) (hI : BsI xs) : Fun 5 [.c (.d (D.sl (kR xs) n)), iE 10] (kF []) 0 (kS (D.lit (.bool (kbB xs)))) (kF []) 0 := by
  refine Fun.mk (n := 47) Try.func5 rfl rfl (ka4 rfl) ?_
  intro cx hcx
  refine kI [.no] True [(0, .e (uX xs n)), (1, iV 10)] [] 0 trivial ?_
  refine AW.seq ?_
  by_cases hx1 : ((10 : Int) < ((n : Nat) : Int))
  · refine zr [.no, .no, .no, .b true] [0, 12] [] (((10 : Int) < (n : Int))) [(0, .e (uX xs n)), (12, bV true)] [] 0 zo ?_
    refine zt ?_
    refine kI [.no] True [(4, bV false)] [] 0 trivial ?_
    refine AW.ret ?_
    exact kC (.inr rfl) [] (P := ((kbB xs) = false)) zk (by first | exact k1m zo (fun j hj => ha j zo) | exact k1n zo | exact k1p (i := i) zo zo | exact k1o (i := i) (j := k) zo zo zo)
  · refine zr [.no, .no, .no, .b false] [0, 12] [] (¬ ((10 : Int) < (n : Int))) [(0, .e (uX xs n)), (12, bV false)] [] 0 zo ?_
    refine yC ?_
    refine AW.seq ?_
    refine kI [.no, .no, .no] True [(13, .e (uX xs n)), (14, uV n), (15, iV 0)] [] 0 trivial ?_
    refine AW.block ?_
    refine kX 0 hcx (fun (x : {x : Nat // match x with | i => (i ≤ n) ∧ (∀ j, j < i → kbE xs j = true)}) => match x with | ⟨i, _⟩ => (⟨[(13, .e (uX xs n)), (14, uV n), (15, uV i)], [], 0⟩ : ES)) (fun x => match x with | ⟨i, _⟩ => n - i) ⟨(0 : Nat), ⟨hZ, (fun j hj => absurd hj (kd7 j))⟩⟩ [] (P := (kZ (kR xs)) ∧ (kP n) ∧ (kN (n : Int)) ∧ (kN 0)) zk ⟨rfl, rfl, rfl, rfl⟩ ?_
    rintro ⟨i, hinv0⟩
    obtain ⟨hi, ha⟩ : (i ≤ n) ∧ (∀ j, j < i → kbE xs j = true) := hinv0
    refine qU (l := [(13, .e (uX xs n)), (14, uV n), (15, uV i)]) (g := []) (nx := 0) rfl rfl rfl ?_
    by_cases hx2 : (((i : Nat) : Int) < ((n : Nat) : Int))
    · refine zr [.b true] [13, 14, 15, 16] [] (((i : Int) < (n : Int))) [(13, .e (uX xs n)), (14, uV n), (15, uV i), (16, bV true)] [] 0 zo ?_
      refine AW.seq ?_
      refine vD ?_
      refine AW.seq ?_
      refine AW.block ?_
      obtain ⟨hx3, hx4, hx5, hx6, hx7⟩ := BsI.at (xs := xs) (by with_reducible assumption) (i)
      refine kI [.n i, .ds (lV xs i), .no, .no] ((kN (i : Int)) ∧ (i < n) ∧ (ka2 4 (ka7 (i * 4) (kR xs)) = (lV xs i)) ∧ (((lV xs i) : List D).length = 4)) [(6, rV 0 0), (13, .e (uX xs n)), (14, uV n), (15, uV i)] [(0, some (47, (lG xs i)))] 1 ⟨rfl, zo, (mL wZ), rfl⟩ ?_
      refine AW.seq ?_
      rcases Bool.eq_false_or_eq_true (decide ((uM xs i) ≤ 70)) with hx8 | hx8
      · have hx9 : ((uM xs i) ≤ 70) := of_decide_eq_true hx8
        rcases Bool.eq_false_or_eq_true (decide ((yW xs i) ≤ 70)) with hx10 | hx10
        · have hx11 : ((yW xs i) ≤ 70) := of_decide_eq_true hx10
          by_cases hx12 : ((20 : Int) < (((ka1 (kW xs i)) : Nat) : Int))
          · refine zr (.no :: .no :: .call [] (bV true) [] 0 [] none :: kJ 4 (.call [] (bV true) [] 0 [] none :: kJ 6 [.b true, .no])) [6, 13, 14, 15, 34] [0] ((Fun 15 [.agg [.d (dl (vH xs i) (uM xs i))]] (kF []) 0 (bV true) (kF []) 0) ∧ (Fun 15 [.agg [.d (dl (aG xs i) (yW xs i))]] (kF []) 0 (bV true) (kF []) 0) ∧ (((20 : Int) < (ka1 (kW xs i) : Int)))) [(6, rV 0 0), (13, .e (uX xs n)), (14, uV n), (15, uV i), (34, bV true)] [(0, some (47, (lG xs i)))] 1 ⟨(by have h0 := (mP (vH xs i) (uM xs i) v5 v5); rw [hx8] at h0; exact h0), (by have h0 := (mP (aG xs i) (yW xs i) v5 v5); rw [hx10] at h0; exact h0), zo⟩ ?_
            refine zt ?_
            refine kI [.no] True [(4, bV false)] [] 1 trivial ?_
            refine AW.ret ?_
            exact kC (.inr rfl) [] (P := ((kbB xs) = false)) zk (by first | exact k1m zo (fun j hj => ha j zo) | exact k1n zo | exact k1p (i := i) zo zo | exact k1o (i := i) (j := k) zo zo zo)
          · refine zr (.no :: .no :: .call [] (bV true) [] 0 [] none :: kJ 4 (.call [] (bV true) [] 0 [] none :: kJ 6 [.b false, .no])) [6, 13, 14, 15, 34] [0] ((Fun 15 [.agg [.d (dl (vH xs i) (uM xs i))]] (kF []) 0 (bV true) (kF []) 0) ∧ (Fun 15 [.agg [.d (dl (aG xs i) (yW xs i))]] (kF []) 0 (bV true) (kF []) 0) ∧ (¬ ((20 : Int) < (ka1 (kW xs i) : Int)))) [(6, rV 0 0), (13, .e (uX xs n)), (14, uV n), (15, uV i), (34, bV false)] [(0, some (47, (lG xs i)))] 1 ⟨(by have h0 := (mP (vH xs i) (uM xs i) v5 v5); rw [hx8] at h0; exact h0), (by have h0 := (mP (aG xs i) (yW xs i) v5 v5); rw [hx10] at h0; exact h0), zo⟩ ?_
            refine yC ?_
            refine kI (kJ 4 []) True [(13, .e (uX xs n)), (14, uV n), (15, uV i), (36, qP (kY (kW xs i)) (ka1 (kW xs i))), (37, uV (ka1 (kW xs i))), (38, iV 0)] [] 1 trivial ?_
            refine AW.block ?_
            refine kX 0 hcx (fun (x : {x : Nat // match x with | k => (k ≤ ka1 (kW xs i)) ∧ (∀ j, j < k → ka1 (ka0 (kW xs i) j []) ≤ 12)}) => match x with | ⟨k, _⟩ => (⟨[(13, .e (uX xs n)), (14, uV n), (15, uV i), (36, qP (kY (kW xs i)) (ka1 (kW xs i))), (37, uV (ka1 (kW xs i))), (38, uV k)], [], 1⟩ : ES)) (fun x => match x with | ⟨k, _⟩ => ka1 (kW xs i) - k) ⟨(0 : Nat), ⟨hZ, (fun j hj => absurd hj (kd7 j))⟩⟩ [] (P := (kZ (kR xs)) ∧ (kP n) ∧ (kN (n : Int)) ∧ (kN (i : Int)) ∧ (kZ (kY (kW xs i))) ∧ (kP (ka1 (kW xs i))) ∧ (kN (ka1 (kW xs i) : Int)) ∧ (kN 0)) zk ⟨rfl, rfl, rfl, rfl, rfl, rfl, rfl, rfl⟩ ?_
            rintro ⟨k, hinv1⟩
            obtain ⟨hk, hm⟩ : (k ≤ ka1 (kW xs i)) ∧ (∀ j, j < k → ka1 (ka0 (kW xs i) j []) ≤ 12) := hinv1
            refine qU (l := [(13, .e (uX xs n)), (14, uV n), (15, uV i), (36, qP (kY (kW xs i)) (ka1 (kW xs i))), (37, uV (ka1 (kW xs i))), (38, uV k)]) (g := []) (nx := 1) rfl rfl rfl ?_
            by_cases hx13 : (((k : Nat) : Int) < (((ka1 (kW xs i)) : Nat) : Int))
            · refine zr [.b true] [13, 14, 15, 36, 37, 38, 39] [] (((k : Int) < (ka1 (kW xs i) : Int))) [(13, .e (uX xs n)), (14, uV n), (15, uV i), (36, qP (kY (kW xs i)) (ka1 (kW xs i))), (37, uV (ka1 (kW xs i))), (38, uV k), (39, bV true)] [] 1 zo ?_
              refine AW.seq ?_
              refine vD ?_
              refine AW.seq ?_
              refine AW.block ?_
              have hx14 : ((ka1 (ka0 (kW xs i) k ([] : List Int))) ≤ 9223372036854775807) := MsI.at (u3g (by with_reducible assumption) _) _
              refine kI [.n k, .d (dl (ka0 (kW xs i) k ([] : List Int)) (ka1 (ka0 (kW xs i) k ([] : List Int)))), .no] ((kN (k : Int)) ∧ (k < (ka1 (kW xs i))) ∧ ((ka7 k (kY (kW xs i)))[0]? = some (dl (ka0 (kW xs i) k ([] : List Int)) (ka1 (ka0 (kW xs i) k ([] : List Int)))))) [(8, sV .i64 (ka0 (kW xs i) k ([] : List Int)) (ka1 (ka0 (kW xs i) k ([] : List Int)))), (13, .e (uX xs n)), (14, uV n), (15, uV i), (36, qP (kY (kW xs i)) (ka1 (kW xs i))), (37, uV (ka1 (kW xs i))), (38, uV k)] [] 1 ⟨rfl, zo, (cE _ _ wZ)⟩ ?_
              by_cases hx15 : ((12 : Int) < (((ka1 (ka0 (kW xs i) k ([] : List Int))) : Nat) : Int))
              · refine zr [.no, .no, .b true] [13, 14, 15, 36, 37, 38, 44] [] (((12 : Int) < (((ka1 (ka0 (kW xs i) k ([] : List Int))) : Nat) : Int))) [(13, .e (uX xs n)), (14, uV n), (15, uV i), (36, qP (kY (kW xs i)) (ka1 (kW xs i))), (37, uV (ka1 (kW xs i))), (38, uV k), (44, bV true)] [] 1 zo ?_
                refine zt ?_
                refine kI [.no] True [(4, bV false)] [] 1 trivial ?_
                refine AW.ret ?_
                exact kC (.inr rfl) [] (P := ((kbB xs) = false)) zk (by first | exact k1m zo (fun j hj => ha j zo) | exact k1n zo | exact k1p (i := i) zo zo | exact k1o (i := i) (j := k) zo zo zo)
              · refine zr [.no, .no, .b false] [13, 14, 15, 36, 37, 38, 44] [] (¬ ((12 : Int) < (((ka1 (ka0 (kW xs i) k ([] : List Int))) : Nat) : Int))) [(13, .e (uX xs n)), (14, uV n), (15, uV i), (36, qP (kY (kW xs i)) (ka1 (kW xs i))), (37, uV (ka1 (kW xs i))), (38, uV k), (44, bV false)] [] 1 zo ?_
                refine yC ?_
                refine v7 [.w, .no] (qJ ((k : Int) + 1)) [(13, .e (uX xs n)), (14, uV n), (15, uV i), (36, qP (kY (kW xs i)) (ka1 (kW xs i))), (37, uV (ka1 (kW xs i))), (38, iV (↑k + 1))] [] 1 ⟨by omega, by omega⟩ ?_
                exact qE ⟨((k + 1) : Nat), ⟨hZ, (fun j hj => (Nat.lt_succ_iff_lt_or_eq.1 hj).elim (hm j) (fun e9 => by subst e9; omega))⟩⟩ [] (P := (kZ (kR xs)) ∧ (kP n) ∧ (kN (n : Int)) ∧ (kN (i : Int)) ∧ (kZ (kY (kW xs i))) ∧ (kP (ka1 (kW xs i))) ∧ (kN (ka1 (kW xs i) : Int)) ∧ (q1S k)) zk ⟨rfl, rfl, rfl, rfl, rfl, rfl, rfl, oX⟩ (show ka1 (kW xs i) - (k + 1) < ka1 (kW xs i) - k from (by first | omega | (show _ < _; simp; omega)))
            · refine zr [.b false] [13, 14, 15, 36, 37, 38, 39] [] (¬ ((k : Int) < (ka1 (kW xs i) : Int))) [(13, .e (uX xs n)), (14, uV n), (15, uV i), (36, qP (kY (kW xs i)) (ka1 (kW xs i))), (37, uV (ka1 (kW xs i))), (38, uV k), (39, bV false)] [] 1 zo ?_
              refine AW.seq ?_
              refine zf ?_
              refine AW.exit ?_
              refine v7 [.w, .no] (qJ ((i : Int) + 1)) [(13, .e (uX xs n)), (14, uV n), (15, iV (↑i + 1))] [] 1 ⟨by omega, by omega⟩ ?_
              exact qE ⟨((i + 1) : Nat), ⟨hZ, (fun j hj => (Nat.lt_succ_iff_lt_or_eq.1 hj).elim (ha j) (fun e9 => by subst e9; exact u7r zo (fun q hq => hm q zo)))⟩⟩ [] (P := (kZ (kR xs)) ∧ (kP n) ∧ (kN (n : Int)) ∧ (q1S i)) zk ⟨rfl, rfl, rfl, oX⟩ (show n - (i + 1) < n - i from (by first | omega | (show _ < _; simp; omega)))
        · have hx16 : ¬ ((yW xs i) ≤ 70) := of_decide_eq_false hx10
          refine kI (.no :: .no :: .call [] (bV true) [] 0 [] none :: kJ 4 (.call [] (bV false) [] 0 [] none :: kJ 4 [])) ((Fun 15 [.agg [.d (dl (vH xs i) (uM xs i))]] (kF []) 0 (bV true) (kF []) 0) ∧ (Fun 15 [.agg [.d (dl (aG xs i) (yW xs i))]] (kF []) 0 (bV false) (kF []) 0)) [(6, rV 0 0), (13, .e (uX xs n)), (14, uV n), (15, uV i), (34, bV true)] [(0, some (47, (lG xs i)))] 1 ⟨(by have h0 := (mP (vH xs i) (uM xs i) v5 v5); rw [hx8] at h0; exact h0), (by have h0 := (mP (aG xs i) (yW xs i) v5 v5); rw [hx10] at h0; exact h0)⟩ ?_
          refine zt ?_
          refine kI [.no] True [(4, bV false)] [] 1 trivial ?_
          refine AW.ret ?_
          exact kC (.inr rfl) [] (P := ((kbB xs) = false)) zk (by first | exact k1m zo (fun j hj => ha j zo) | exact k1n zo | exact k1p (i := i) zo zo | exact k1o (i := i) (j := k) zo zo zo)
      · have hx17 : ¬ ((uM xs i) ≤ 70) := of_decide_eq_false hx8
        refine kI (.no :: .no :: .call [] (bV false) [] 0 [] none :: kJ 5 []) (Fun 15 [.agg [.d (dl (vH xs i) (uM xs i))]] (kF []) 0 (bV false) (kF []) 0) [(6, rV 0 0), (13, .e (uX xs n)), (14, uV n), (15, uV i), (34, bV true)] [(0, some (47, (lG xs i)))] 1 (by have h0 := (mP (vH xs i) (uM xs i) v5 v5); rw [hx8] at h0; exact h0) ?_
        refine zt ?_
        refine kI [.no] True [(4, bV false)] [] 1 trivial ?_
        refine AW.ret ?_
        exact kC (.inr rfl) [] (P := ((kbB xs) = false)) zk (by first | exact k1m zo (fun j hj => ha j zo) | exact k1n zo | exact k1p (i := i) zo zo | exact k1o (i := i) (j := k) zo zo zo)
    · refine zr [.b false] [13, 14, 15, 16] [] (¬ ((i : Int) < (n : Int))) [(13, .e (uX xs n)), (14, uV n), (15, uV i), (16, bV false)] [] 0 zo ?_
      refine AW.seq ?_
      refine zf ?_
      refine AW.exit ?_
      refine kI [.no] True [(4, bV true)] [] 0 trivial ?_
      refine AW.ret ?_
      exact kC (.inr rfl) [] (P := ((kbB xs) = true)) zk (by first | exact k1m zo (fun j hj => ha j zo) | exact k1n zo | exact k1p (i := i) zo zo | exact k1o (i := i) (j := k) zo zo zo)
theorem u3e (id : Int) (nm : List Int) (d1 d2 d3 d4 d5 : Int) (bs : List Bx) (n : Nat) (hy : Byt nm) (hl : ka1 nm ≤ 1000000) (hn : ka1 bs = n) (h1 : n ≤ 1000000) (hW : BsW bs) (hV : yK nm d1 d2 d3 d4 d5 bs = false) : Fun 8 [.agg [.d (D.lit (.int .u64 id)), .d (D.lit (.string (strOfNums nm))), iC d1, iC d2, iC d3, iC d4, iC d5, .d (D.sl (kR bs) n)]] (kF []) 0 (.tup [.c (.d (D.sl (dI .u8 ([] : List Int)) 0)), iE 1]) (kF []) 0 := by
  refine Fun.mk (n := 53) Try.func8 rfl rfl (ka4 rfl) ?_
  intro cx hcx
  refine kI [.no, .no, .no] True [(1, rV 0 0)] [(0, some (25, .ds [D.lit (.int .u64 id), D.lit (.string (strOfNums nm)), iD d1, iD d2, iD d3, iD d4, iD d5, D.sl (kR bs) n]))] 1 trivial ?_
  refine AW.seq ?_
  refine k8 [.no, .call [] (bV false) [] 0 [] none, .no] (Fun 10 [.agg [.d (D.lit (.int .u64 id)), .d (D.lit (.string (strOfNums nm))), iC d1, iC d2, iC d3, iC d4, iC d5, .d (D.sl (kR bs) n)]] (kF []) 0 (bV false) (kF []) 0) [(1, rV 0 0), (7, bV true)] (by have h0 := (fF id nm d1 d2 d3 d4 d5 bs n (kQ : Byt nm) zo zo zo (kQ : BsW bs)); rw [hV] at h0; exact h0) ?_
  refine zt ?_
  refine kI [.no, .no] True [(2, nV), (3, iV 1)] [] 1 trivial ?_
  refine aH (l' := [(2, qP ([] : List D) 0), (3, iV 1)]) (g' := []) (NlS.cons rfl (.e (.c .nil)) (NlS.cons rfl (.same _) NlS.nil)) NlG.nil ?_
  refine AW.ret ?_
  exact kC (.inr rfl) [] (P := (((dI .u8 ([] : List Int)) : List D) = ([] : List D)) ∧ (kP 0) ∧ (kN 1)) zk ⟨(by first | rfl | with_reducible assumption | (simp only [yO, uA, qT]; rfl) | (congr 1; first | assumption | (simp; done) | omega)), rfl, rfl⟩
theorem k6o (id : Int) (nm : List Int) (d1 d2 d3 d4 d5 : Int) (bs : List Bx) (n : Nat) (hG : DgW id nm bs n) : Fun 8 [.agg [.d (D.lit (.int .u64 id)), .d (D.lit (.string (strOfNums nm))), iC d1, iC d2, iC d3, iC d4, iC d5, .d (D.sl (kR bs) n)]] (kF []) 0 (.tup [.c (.d (D.sl (dI .u8 (aD id nm d1 d2 d3 d4 d5 bs)) (ka1 (aD id nm d1 d2 d3 d4 d5 bs)))), iE (gU nm d1 d2 d3 d4 d5 bs)]) (kF []) 0 := by
  have hl := hG.l; have hn := hG.n; have hi := hG.i
  cases hV : yK nm d1 d2 d3 d4 d5 bs with
  | false =>
    rw [(k90 (id := id) hV).1, (k90 (id := id) hV).2]
    exact u3e id nm d1 d2 d3 d4 d5 bs n hG.y (by omega) hn.1 (by omega) hG.w hV
  | true =>
    obtain ⟨r1, r2, r3, r4, r5⟩ := hG.r hV
    have hL : ka1 (aD id nm d1 d2 d3 d4 d5 bs) = ka1 (vV bs) + ka1 nm + 29 := by rw [(k24 hV).1, ka3, dL, pbL_len]; omega
    rw [hL, (k24 (id := id) hV).1, (k24 (id := id) hV).2]
    exact wS id nm d1 d2 d3 d4 d5 bs n hG.y r1 hn.1 r2 hG.w r3 (by omega) hi r5 hV
theorem u37 (id : Int) (nm : List Int) (d1 d2 d3 d4 d5 : Int) (bs : List Bx) (n : Nat) (hy : Byt nm) (hl : ka1 nm ≤ 1000000) (hn : ka1 bs = n) (h1 : n ≤ 1000000) (hW : BsW bs) (hV : yK nm d1 d2 d3 d4 d5 bs = false) : Fun 9 [.agg [.d (D.lit (.int .u64 id)), .d (D.lit (.string (strOfNums nm))), iC d1, iC d2, iC d3, iC d4, iC d5, .d (D.sl (kR bs) n)]] (kF []) 0 (.tup [.c (.d (D.sl (dI .u8 ([] : List Int)) 0)), iE 1]) (kF []) 0 := by
  refine Fun.mk (n := 109) Try.func9 rfl rfl (ka4 rfl) ?_
  intro cx hcx
  refine kI [.no, .no, .no] True [(1, rV 0 0)] [(0, some (25, .ds [D.lit (.int .u64 id), D.lit (.string (strOfNums nm)), iD d1, iD d2, iD d3, iD d4, iD d5, D.sl (kR bs) n]))] 1 trivial ?_
  refine AW.seq ?_
  refine k8 [.no, .call [] (bV false) [] 0 [] none, .no] (Fun 11 [.agg [.d (D.lit (.int .u64 id)), .d (D.lit (.string (strOfNums nm))), iC d1, iC d2, iC d3, iC d4, iC d5, .d (D.sl (kR bs) n)]] (kF []) 0 (bV false) (kF []) 0) [(1, rV 0 0), (13, bV true)] (by have h0 := (sL id nm d1 d2 d3 d4 d5 bs n (kQ : Byt nm) zo zo zo (kQ : BsW bs)); rw [hV] at h0; exact h0) ?_
  refine zt ?_
  refine kI [.no, .no] True [(2, nV), (3, iV 1)] [] 1 trivial ?_
  refine aH (l' := [(2, qP ([] : List D) 0), (3, iV 1)]) (g' := []) (NlS.cons rfl (.e (.c .nil)) (NlS.cons rfl (.same _) NlS.nil)) NlG.nil ?_
  refine AW.ret ?_
  exact kC (.inr rfl) [] (P := (((dI .u8 ([] : List Int)) : List D) = ([] : List D)) ∧ (kP 0) ∧ (kN 1)) zk ⟨(by first | rfl | with_reducible assumption | (simp only [yO, uA, qT]; rfl) | (congr 1; first | assumption | (simp; done) | omega)), rfl, rfl⟩
theorem k6m (id : Int) (nm : List Int) (d1 d2 d3 d4 d5 : Int) (bs : List Bx) (n : Nat) (hG : DgW id nm bs n) : Fun 9 [.agg [.d (D.lit (.int .u64 id)), .d (D.lit (.string (strOfNums nm))), iC d1, iC d2, iC d3, iC d4, iC d5, .d (D.sl (kR bs) n)]] (kF []) 0 (.tup [.c (.d (D.sl (dI .u8 (aD id nm d1 d2 d3 d4 d5 bs)) (ka1 (aD id nm d1 d2 d3 d4 d5 bs)))), iE (gU nm d1 d2 d3 d4 d5 bs)]) (kF []) 0 := by
  have hl := hG.l; have hn := hG.n; have hi := hG.i
  cases hV : yK nm d1 d2 d3 d4 d5 bs with
  | false =>
    rw [(k90 (id := id) hV).1, (k90 (id := id) hV).2]
    exact u37 id nm d1 d2 d3 d4 d5 bs n hG.y (by omega) hn.1 (by omega) hG.w hV
  | true =>
    obtain ⟨r1, r2, r3, r4, r5⟩ := hG.r hV
    have hL : ka1 (aD id nm d1 d2 d3 d4 d5 bs) = ka1 (vV bs) + ka1 nm + 29 := by rw [(k24 hV).1, ka3, dL, pbL_len]; omega
    rw [hL, (k24 (id := id) hV).1, (k24 (id := id) hV).2]
    exact k6w id nm d1 d2 d3 d4 d5 bs n hG.y r1 hn.1 r2 hG.w r3 (by omega) hi r5 hV
theorem k6n (id : Int) (nm : List Int) (d1 d2 d3 d4 d5 : Int) (bs : List Bx) (n : Nat) (hG : DgW id nm bs n) : Fun 10 [.agg [.d (D.lit (.int .u64 id)), .d (D.lit (.string (strOfNums nm))), iC d1, iC d2, iC d3, iC d4, iC d5, .d (D.sl (kR bs) n)]] (kF []) 0 (kS (D.lit (.bool (yK nm d1 d2 d3 d4 d5 bs)))) (kF []) 0 := by
  have hl := hG.l; have hn := hG.n
  exact fF id nm d1 d2 d3 d4 d5 bs n hG.y (by omega) hn.1 (by omega) hG.w
theorem k6l (id : Int) (nm : List Int) (d1 d2 d3 d4 d5 : Int) (bs : List Bx) (n : Nat) (hG : DgW id nm bs n) : Fun 11 [.agg [.d (D.lit (.int .u64 id)), .d (D.lit (.string (strOfNums nm))), iC d1, iC d2, iC d3, iC d4, iC d5, .d (D.sl (kR bs) n)]] (kF []) 0 (kS (D.lit (.bool (yK nm d1 d2 d3 d4 d5 bs)))) (kF []) 0 := by
  have hl := hG.l; have hn := hG.n
  exact sL id nm d1 d2 d3 d4 d5 bs n hG.y (by omega) hn.1 (by omega) hG.w
theorem yX {p : Prop} (h : p := by first | omega | (simp only [kU, kT, pbL_len, qD, qB, u1, qM, ka3, kb1, kb5, kb3, kb2, kb6, kc2, kc3, kc7, Nat.mul_one] <;> omega) | rfl) : p := h
abbrev gD (l : List Int) (i : Nat) : BC := .ds [D.sl (dI .u8 (qS (kA l 2) i)) (ka1 (qS (kA l 2) i))]
theorem mQ (l : List Int) (hb : Byt l) : Fun 37 [.c (.ptr 0 0), iE 1, iE 2] (kF [(0, some (77, .ds [D.sl (dI .u8 l) (ka1 l)]))]) 1 (oV 1 0 (ka1 (u3 l)) 4) (kF [(0, some (77, .ds [D.sl (dI .u8 (sX l)) (ka1 (sX l))])), (1, some (47, .ds (kR (u3 l))))]) 2 := by
  have hz1 : ka1 (u3 l) = 1 + kB l 2 := jZ _ _
  refine Fun.mk (n := 27) Try.func37 rfl rfl (ka4 rfl) ?_
  intro cx hcx
  refine kI [.no] True [(0, rV 0 0), (1, iV 1), (2, iV 2)] [(0, some (77, .ds [db l (ka1 l)]))] 1 trivial ?_
  refine k8 [.no] True [(0, rV 0 0), (1, iV 1), (2, iV 2), (7, nV)] trivial ?_
  refine AW.seq ?_
  have hx1 : ((((((kB l 2) : Nat) : Int) < 2) ∨ ((kB l 2) = 0)) ∧ ((kB l 2) ≤ 255)) := kO l (2 : Int) (kQ : Byt l)
  have hx2 : (Byt (kA l 2)) := kE (2 : Int) (kQ : Byt l)
  refine kI (kJ 4 [.w, .w, .call [0] (uV (kB l 2)) [(0, some (77, .ds [db (kA l 2) (ka1 (kA l 2))]))] 1 [] none, .w, .no]) ((qJ (1 : Int)) ∧ (qJ (2 : Int)) ∧ (_) ∧ (qJ (1 + (kB l 2 : Int)))) [(0, rV 0 0), (7, nV), (8, iV (1 + (kB l 2 : Int)))] [(0, some (77, .ds [db (kA l 2) (ka1 (kA l 2))]))] 1 ⟨⟨by omega, by omega⟩, ⟨by omega, by omega⟩, (qH l 2 (kQ : Byt l)), ⟨by omega, by omega⟩⟩ ?_
  refine AW.block ?_
  refine AW.adoptS 7 4 47 rfl ?_
  refine kX 1 hcx (fun (x : {x : Nat × List Bx // match x with | (i, bs) => (i ≤ 1 + kB l 2) ∧ (bbL (kA l 2) i = bs) ∧ (ka1 bs = i)}) => match x with | ⟨(i, bs), _⟩ => (⟨[(0, rV 0 0), (7, oV 2 0 i 4), (8, iV ((1 + (kB l 2 : Int)) - (i : Int)))], [(0, some (77, (gD l i))), (2, some (47, .ds (kR bs)))], 3⟩ : ES)) (fun x => match x with | ⟨(i, bs), _⟩ => 1 + kB l 2 - i) ⟨((0 : Nat), (([] : List Bx) : List Bx)), ⟨hZ, rfl, rfl⟩⟩ [(2, 1)] (P := (kP 0) ∧ (kP 0) ∧ (kP 0) ∧ ((((1 + (kB l 2 : Int)) - 0) : Int) = (1 + (kB l 2 : Int))) ∧ (([db (qS (kA l 2) 0) (ka1 (qS (kA l 2) 0))] : List D) = [db (kA l 2) (ka1 (kA l 2))]) ∧ (((kR ([] : List Bx)) : List D) = ([] : List D))) zk ⟨rfl, rfl, rfl, oX, (by first | rfl | with_reducible assumption), (by first | rfl | with_reducible assumption)⟩ ?_
  rintro ⟨⟨i, bs⟩, hinv0⟩
  obtain ⟨hi, hB, hn⟩ : (i ≤ 1 + kB l 2) ∧ (bbL (kA l 2) i = bs) ∧ (ka1 bs = i) := hinv0
  refine qU (l := [(0, rV 0 0), (7, oV 2 0 i 4), (8, iV ((1 + (kB l 2 : Int)) - (i : Int)))]) (g := [(0, some (77, (gD l i))), (2, some (47, .ds (kR bs)))]) (nx := 3) rfl rfl rfl ?_
  refine AW.seq ?_
  by_cases hx3 : ((0 : Int) < ((1 + (((kB l 2) : Nat) : Int)) - ((i : Nat) : Int)))
  · refine zr [.no, .b true] [0, 7, 8, 18] [0, 2] (((0 : Int) < ((1 + (kB l 2 : Int)) - (i : Int)))) [(0, rV 0 0), (7, oV 2 0 i 4), (8, iV ((1 + (kB l 2 : Int)) - ↑i)), (18, bV true)] [(0, some (77, (gD l i))), (2, some (47, .ds (kR bs)))] 3 zo ?_
    refine vD ?_
    refine AW.seq ?_
    refine AW.block ?_
    refine v7 [.no, .no, .call [0] (.e (.agg [iC (jD (qS (kA l 2) i)), .d (dl (jC (qS (kA l 2) i)) (iZ (qS (kA l 2) i))), .d (D.sl (kY (dV (qS (kA l 2) i))) (ka1 (dV (qS (kA l 2) i)))), .d (dl (jB (qS (kA l 2) i)) (iY (qS (kA l 2) i)))])) [(0, some (77, .ds [db (sE (qS (kA l 2) i)) (ka1 (sE (qS (kA l 2) i)))]))] 1 [] none, .no, .ap none (i + 1) (kR (bs ++ ([(vX (jD (qS (kA l 2) i)) (jC (qS (kA l 2) i)) (iZ (qS (kA l 2) i)) (dV (qS (kA l 2) i)) (jB (qS (kA l 2) i)) (iY (qS (kA l 2) i)))] : List Bx))), .no] ((_) ∧ ([iD (jD (qS (kA l 2) i)), dl (jC (qS (kA l 2) i)) (iZ (qS (kA l 2) i)), D.sl (kY (dV (qS (kA l 2) i))) (ka1 (dV (qS (kA l 2) i))), dl (jB (qS (kA l 2) i)) (iY (qS (kA l 2) i))].length = 1 * 4) ∧ (((kR bs) : List D).length = i * 4) ∧ ((i + 1) * 80 ≤ 140737488355328) ∧ (i + 1 = (i + 1)) ∧ (((kR bs) : List D) ++ [iD (jD (qS (kA l 2) i)), dl (jC (qS (kA l 2) i)) (iZ (qS (kA l 2) i)), D.sl (kY (dV (qS (kA l 2) i))) (ka1 (dV (qS (kA l 2) i))), dl (jB (qS (kA l 2) i)) (iY (qS (kA l 2) i))] = (kR (bs ++ ([(vX (jD (qS (kA l 2) i)) (jC (qS (kA l 2) i)) (iZ (qS (kA l 2) i)) (dV (qS (kA l 2) i)) (jB (qS (kA l 2) i)) (iY (qS (kA l 2) i)))] : List Bx))))) [(0, rV 0 0), (7, oV 4 0 (i + 1) 4), (8, iV ((1 + (kB l 2 : Int)) - ↑i))] [(0, some (77, .ds [db (sE (qS (kA l 2) i)) (ka1 (sE (qS (kA l 2) i)))])), (4, some (47, .ds (kR (bs ++ ([(vX (jD (qS (kA l 2) i)) (jC (qS (kA l 2) i)) (iZ (qS (kA l 2) i)) (dV (qS (kA l 2) i)) (jB (qS (kA l 2) i)) (iY (qS (kA l 2) i)))] : List Bx)))))] 5 ⟨(u0z (qS (kA l 2) i) (fD (kQ : Byt (kA l 2)) _)), yX, yX, zo, zo, (jY bs (jD (qS (kA l 2) i)) (jC (qS (kA l 2) i)) (iZ (qS (kA l 2) i)) (dV (qS (kA l 2) i)) (ka1 (dV (qS (kA l 2) i))) (jB (qS (kA l 2) i)) (iY (qS (kA l 2) i)) (by first | rfl | omega))⟩ ?_
    refine yD [.no, .w, .no] (qJ (((1 + (kB l 2 : Int)) - (i : Int)) - 1)) [(0, rV 0 0), (7, oV 4 0 (i + 1) 4), (8, iV (((1 + (kB l 2 : Int)) - ↑i) - 1))] ⟨by omega, by omega⟩ ?_
    exact qE ⟨(((i + 1) : Nat), ((bs ++ ([(vX (jD (qS (kA l 2) i)) (jC (qS (kA l 2) i)) (iZ (qS (kA l 2) i)) (dV (qS (kA l 2) i)) (jB (qS (kA l 2) i)) (iY (qS (kA l 2) i)))] : List Bx)) : List Bx)), ⟨hZ, (u6i hB), (by first | omega | (simp only [kU, kT, pbL_len, qD, qB, u1, ka3, kb1, kb5] <;> omega))⟩⟩ [(2, 4)] (P := (kP 0) ∧ (kP 0) ∧ (kP (i + 1)) ∧ ((((1 + (kB l 2 : Int)) - (((i + 1) : Nat) : Int)) : Int) = (((1 + (kB l 2 : Int)) - (i : Int)) - 1)) ∧ (([db (qS (kA l 2) (i + 1)) (ka1 (qS (kA l 2) (i + 1)))] : List D) = [db (sE (qS (kA l 2) i)) (ka1 (sE (qS (kA l 2) i)))]) ∧ (kZ (kR (bs ++ ([(vX (jD (qS (kA l 2) i)) (jC (qS (kA l 2) i)) (iZ (qS (kA l 2) i)) (dV (qS (kA l 2) i)) (jB (qS (kA l 2) i)) (iY (qS (kA l 2) i)))] : List Bx))))) zk ⟨rfl, rfl, rfl, oX, (by first | rfl | with_reducible assumption), rfl⟩ (show 1 + kB l 2 - (i + 1) < 1 + kB l 2 - i from (by first | omega | (show _ < _; simp; omega)))
  · refine zr [.no, .b false] [0, 7, 8, 18] [0, 2] (¬ ((0 : Int) < ((1 + (kB l 2 : Int)) - (i : Int)))) [(0, rV 0 0), (7, oV 2 0 i 4), (8, iV ((1 + (kB l 2 : Int)) - ↑i)), (18, bV false)] [(0, some (77, (gD l i))), (2, some (47, .ds (kR bs)))] 3 zo ?_
    refine zf ?_
    refine AW.exit ?_
    refine kI [.no, .no] True [(6, oV 2 0 i 4)] [(0, some (77, (gD l i))), (2, some (47, .ds (kR bs)))] 3 trivial ?_
    obtain rfl : i = (1 + (kB l 2)) := (by omega)
    refine AW.ret ?_
    exact kC (.inr rfl) [(1, 2)] (P := (kP 0) ∧ (((ka1 (u3 l)) : Nat) = (1 + (kB l 2))) ∧ (([db (sX l) (ka1 (sX l))] : List D) = [db (qS (kA l 2) (1 + (kB l 2))) (ka1 (qS (kA l 2) (1 + (kB l 2))))]) ∧ (((kR (u3 l)) : List D) = (kR bs))) zk ⟨rfl, (by first | rfl | (rw [hB]; done) | (rw [hB]; rfl) | (unfold u3; rw [hB]; done) | (unfold u3; rw [hB]; rfl) | omega), (by first | rfl | (rw [hB]; done) | (rw [hB]; rfl) | (unfold u3; rw [hB]; done) | (unfold u3; rw [hB]; rfl) | omega), (by first | rfl | (rw [hB]; done) | (rw [hB]; rfl) | (unfold u3; rw [hB]; done) | (unfold u3; rw [hB]; rfl) | omega)⟩
abbrev kD (l : List Int) := kA (kA (kA (kA l 256) 3) 4) 200
abbrev v8 (l : List Int) := sX (kA (kA (kD l) 4) 4)
abbrev eT (l : List Int) : BC := .ds [D.sl (dI .u8 (v8 l)) (ka1 (v8 l))]
theorem k70 (l : List Int) (g : Int) (hb : Byt l) : Fun 13 [.c (.ptr 0 0), iE g] (kF [(0, some (77, .ds [D.sl (dI .u8 l) (ka1 l)]))]) 1 (.e (.agg [.d (D.lit (.int .u64 (((kB l 256) : Nat) : Int))), .d (D.lit (.string (strOfNums (ka0 iO (kB (kA l 256) 3) ([] : List Int))))), iC g, iC (((kB (kA (kA l 256) 3) 4) : Nat) : Int), iC (((kB (kA (kA (kA l 256) 3) 4) 200) : Nat) : Int), iC (ka0 ([0, 66, 200, 7] : List Int) (kB (kA (kA (kA (kA l 256) 3) 4) 200) 4) 0), iC (((kB (kA (kA (kA (kA (kA l 256) 3) 4) 200) 4) 4) : Nat) : Int), .own 1 0 (ka1 (u3 (kA (kA (kA (kA (kA (kA l 256) 3) 4) 200) 4) 4))) 4 true])) (kF [(0, some (77, .ds [D.sl (dI .u8 (sX (kA (kA (kA (kA (kA (kA l 256) 3) 4) 200) 4) 4))) (ka1 (sX (kA (kA (kA (kA (kA (kA l 256) 3) 4) 200) 4) 4)))])), (1, some (47, .ds (kR (u3 (kA (kA (kA (kA (kA (kA l 256) 3) 4) 200) 4) 4)))))]) 2 := by
  refine Fun.mk (n := 28) Try.func13 rfl rfl (ka4 rfl) ?_
  intro cx hcx
  refine kI [.no] True [(0, rV 0 0), (1, iV g), (4, rV 1 0)] [(0, some (77, .ds [db l (ka1 l)])), (1, some (25, .ds [D.lit (.int .u64 0), D.lit (.string { data := #[] }), iD 0, iD 0, iD 0, iD 0, iD 0, qF]))] 2 trivial ?_
  by_cases hx5 : ((((kB (kA l 256) 3) : Nat) : Int) = 0)
  · have hx6 : ((((((kB l 256) : Nat) : Int) < 256) ∨ ((kB l 256) = 0)) ∧ ((kB l 256) ≤ 255)) := kO l (256 : Int) (kQ : Byt l)
    have hx7 : (Byt (kA l 256)) := kE (256 : Int) (kQ : Byt l)
    have hx8 : ((((((kB (kA l 256) 3) : Nat) : Int) < 3) ∨ ((kB (kA l 256) 3) = 0)) ∧ ((kB (kA l 256) 3) ≤ 255)) := kO (kA l 256) (3 : Int) (kQ : Byt (kA l 256))
    have hx9 : (Byt (kA (kA l 256) 3)) := kE (3 : Int) (kQ : Byt (kA l 256))
    have hx10 : ((((((kB (kA (kA l 256) 3) 4) : Nat) : Int) < 4) ∨ ((kB (kA (kA l 256) 3) 4) = 0)) ∧ ((kB (kA (kA l 256) 3) 4) ≤ 255)) := kO (kA (kA l 256) 3) (4 : Int) (kQ : Byt (kA (kA l 256) 3))
    have hx11 : (Byt (kA (kA (kA l 256) 3) 4)) := kE (4 : Int) (kQ : Byt (kA (kA l 256) 3))
    have hx12 : ((((((kB (kA (kA (kA l 256) 3) 4) 200) : Nat) : Int) < 200) ∨ ((kB (kA (kA (kA l 256) 3) 4) 200) = 0)) ∧ ((kB (kA (kA (kA l 256) 3) 4) 200) ≤ 255)) := kO (kA (kA (kA l 256) 3) 4) (200 : Int) (kQ : Byt (kA (kA (kA l 256) 3) 4))
    have hx13 : (Byt (kD l)) := kE (200 : Int) (kQ : Byt (kA (kA (kA l 256) 3) 4))
    have hx14 : ((((((kB (kD l) 4) : Nat) : Int) < 4) ∨ ((kB (kD l) 4) = 0)) ∧ ((kB (kD l) 4) ≤ 255)) := kO (kD l) (4 : Int) (kQ : Byt (kD l))
    have hx15 : (Byt (kA (kD l) 4)) := kE (4 : Int) (kQ : Byt (kD l))
    have hx16 : 0 ≤ (ka0 ([0, 66, 200, 7] : List Int) (kB (kD l) 4) 0) ∧ (ka0 ([0, 66, 200, 7] : List Int) (kB (kD l) 4) 0) ≤ 200 := eX (l := ([0, 66, 200, 7] : List Int)) (a := 0) (b := 200) (by decide) _ (show _ < 4 by omega)
    have hx17 : ((((((kB (kA (kD l) 4) 4) : Nat) : Int) < 4) ∨ ((kB (kA (kD l) 4) 4) = 0)) ∧ ((kB (kA (kD l) 4) 4) ≤ 255)) := kO (kA (kD l) 4) (4 : Int) (kQ : Byt (kA (kD l) 4))
    have hx18 : (Byt (kA (kA (kD l) 4) 4)) := kE (4 : Int) (kQ : Byt (kA (kD l) 4))
    have hx19 : (((1 : Nat) ≤ (ka1 (u3 (kA (kA (kD l) 4) 4)))) ∧ ((ka1 (u3 (kA (kA (kD l) 4) 4))) ≤ 2)) := (aU (kQ : Byt (kA (kA (kD l) 4) 4)))
    have hx20 : (BsW (u3 (kA (kA (kD l) 4) 4))) := (mM _ _)
    have hx21 : (Byt (v8 l)) := (dM (kQ : Byt (kA (kA (kD l) 4) 4)))
    refine kI [.no, .call [0] (uV (kB l 256)) [(0, some (77, .ds [db (kA l 256) (ka1 (kA l 256))]))] 1 [] none, .w, .no, .no, .call [0] (uV (kB (kA l 256) 3)) [(0, some (77, .ds [db (kA (kA l 256) 3) (ka1 (kA (kA l 256) 3))]))] 1 [] none, .n2 0 0, .no, .no, .no, .call [0] (uV (kB (kA (kA l 256) 3) 4)) [(0, some (77, .ds [db (kA (kA (kA l 256) 3) 4) (ka1 (kA (kA (kA l 256) 3) 4))]))] 1 [] none, .no, .call [0] (iV (kB (kA (kA (kA l 256) 3) 4) 200 : Int)) [(0, some (77, .ds [db (kD l) (ka1 (kD l))]))] 1 [] none, .no, .no, .call [0] (uV (kB (kD l) 4)) [(0, some (77, .ds [db (kA (kD l) 4) (ka1 (kA (kD l) 4))]))] 1 [] none, .n2 (kB (kD l) 4) (kB (kD l) 4), .d (D.lit (.int .i64 (ka0 ([0, 66, 200, 7] : List Int) (kB (kD l) 4) 0))), .no, .call [0] (uV (kB (kA (kD l) 4) 4)) [(0, some (77, .ds [db (kA (kA (kD l) 4) 4) (ka1 (kA (kA (kD l) 4) 4))]))] 1 [] none, .no, .call [0] (oV 1 0 (ka1 (u3 (kA (kA (kD l) 4) 4))) 4) [(0, some (77, (eT l))), (1, some (47, .ds (kR (u3 (kA (kA (kD l) 4) 4)))))] 2 [] none, .no, .no] ((_) ∧ (0 ≤ (kB l 256 : Int) ∧ (kB l 256 : Int) ≤ 18446744073709551615) ∧ (_) ∧ (((kB (kA l 256) 3 : Int) : Int) = 0) ∧ ((0 : Nat) < 3) ∧ ((0 : Nat) + 0 * 1 = 0) ∧ (_) ∧ (_) ∧ (_) ∧ (kN (kB (kD l) 4 : Int)) ∧ ((kB (kD l) 4) < 4) ∧ ((0 : Nat) + (kB (kD l) 4) * 1 = (kB (kD l) 4)) ∧ ([iD 0, iD 66, iD 200, iD 7][(kB (kD l) 4)]? = some (D.lit (.int .i64 (ka0 ([0, 66, 200, 7] : List Int) (kB (kD l) 4) 0)))) ∧ (_) ∧ (_)) [(4, rV 1 0)] [(0, some (77, (eT l))), (1, some (25, .cs [.d (D.lit (.int .u64 (kB l 256 : Int))), .d (D.lit ((.string (ByteArray.mk #[100, 97, 99])))), iC g, uC (kB (kA (kA l 256) 3) 4), iC (kB (kA (kA (kA l 256) 3) 4) 200 : Int), iC (ka0 ([0, 66, 200, 7] : List Int) (kB (kD l) 4) 0), uC (kB (kA (kD l) 4) 4), .own 4 0 (ka1 (u3 (kA (kA (kD l) 4) 4))) 4 true])), (4, some (47, .ds (kR (u3 (kA (kA (kD l) 4) 4)))))] 5 ⟨(qH l 256 (kQ : Byt l)), ⟨by omega, by omega⟩, (qH (kA l 256) 3 (kQ : Byt (kA l 256))), (by first | rfl | omega), zo, zo, (qH (kA (kA l 256) 3) 4 (kQ : Byt (kA (kA l 256) 3))), (qH (kA (kA (kA l 256) 3) 4) 200 (kQ : Byt (kA (kA (kA l 256) 3) 4))), (qH (kD l) 4 (kQ : Byt (kD l))), rfl, zo, zo, (dH .i64 ([0, 66, 200, 7] : List Int) _ yX), (qH (kA (kD l) 4) 4 (kQ : Byt (kA (kD l) 4))), (mQ (kA (kA (kD l) 4) 4) (kQ : Byt (kA (kA (kD l) 4) 4)))⟩ ?_
    refine AW.ret ?_
    exact kC (.inr rfl) [(1, 4)] (P := (kN (kB l 256 : Int)) ∧ ((.string (strOfNums (ka0 iO (kB (kA l 256) 3) ([] : List Int))) : Value) = .string (ByteArray.mk #[100, 97, 99])) ∧ (kN g) ∧ (kN (kB (kA (kA l 256) 3) 4 : Int)) ∧ (kN (kB (kA (kA (kA l 256) 3) 4) 200 : Int)) ∧ (kN (ka0 ([0, 66, 200, 7] : List Int) (kB (kD l) 4) 0)) ∧ (kN (kB (kA (kD l) 4) 4 : Int)) ∧ (kP 0) ∧ (kP (ka1 (u3 (kA (kA (kD l) 4) 4)))) ∧ (kZ [db (v8 l) (ka1 (v8 l))]) ∧ (kZ (kR (u3 (kA (kA (kD l) 4) 4))))) zk ⟨rfl, (congrArg (fun x9 => Value.string (strOfNums x9)) (show (ka0 iO (kB (kA l 256) 3) ([] : List Int)) = ([100, 97, 99] : List Int) from (by first | (rw [show kB (kA l 256) 3 = 0 by omega]; rfl) | (rw [show kB (kA l 256) 3 = 1 by omega]; rfl) | (rw [show kB (kA l 256) 3 = 2 by omega]; rfl)))), rfl, rfl, rfl, rfl, rfl, rfl, rfl, rfl, rfl⟩
  · by_cases hx26 : ((((kB (kA l 256) 3) : Nat) : Int) = 1)
    · have hx27 : ((((((kB l 256) : Nat) : Int) < 256) ∨ ((kB l 256) = 0)) ∧ ((kB l 256) ≤ 255)) := kO l (256 : Int) (kQ : Byt l)
      have hx28 : (Byt (kA l 256)) := kE (256 : Int) (kQ : Byt l)
      have hx29 : ((((((kB (kA l 256) 3) : Nat) : Int) < 3) ∨ ((kB (kA l 256) 3) = 0)) ∧ ((kB (kA l 256) 3) ≤ 255)) := kO (kA l 256) (3 : Int) (kQ : Byt (kA l 256))
      have hx30 : (Byt (kA (kA l 256) 3)) := kE (3 : Int) (kQ : Byt (kA l 256))
      have hx31 : ((((((kB (kA (kA l 256) 3) 4) : Nat) : Int) < 4) ∨ ((kB (kA (kA l 256) 3) 4) = 0)) ∧ ((kB (kA (kA l 256) 3) 4) ≤ 255)) := kO (kA (kA l 256) 3) (4 : Int) (kQ : Byt (kA (kA l 256) 3))
      have hx32 : (Byt (kA (kA (kA l 256) 3) 4)) := kE (4 : Int) (kQ : Byt (kA (kA l 256) 3))
      have hx33 : ((((((kB (kA (kA (kA l 256) 3) 4) 200) : Nat) : Int) < 200) ∨ ((kB (kA (kA (kA l 256) 3) 4) 200) = 0)) ∧ ((kB (kA (kA (kA l 256) 3) 4) 200) ≤ 255)) := kO (kA (kA (kA l 256) 3) 4) (200 : Int) (kQ : Byt (kA (kA (kA l 256) 3) 4))
      have hx34 : (Byt (kD l)) := kE (200 : Int) (kQ : Byt (kA (kA (kA l 256) 3) 4))
      have hx35 : ((((((kB (kD l) 4) : Nat) : Int) < 4) ∨ ((kB (kD l) 4) = 0)) ∧ ((kB (kD l) 4) ≤ 255)) := kO (kD l) (4 : Int) (kQ : Byt (kD l))
      have hx36 : (Byt (kA (kD l) 4)) := kE (4 : Int) (kQ : Byt (kD l))
      have hx37 : 0 ≤ (ka0 ([0, 66, 200, 7] : List Int) (kB (kD l) 4) 0) ∧ (ka0 ([0, 66, 200, 7] : List Int) (kB (kD l) 4) 0) ≤ 200 := eX (l := ([0, 66, 200, 7] : List Int)) (a := 0) (b := 200) (by decide) _ (show _ < 4 by omega)
      have hx38 : ((((((kB (kA (kD l) 4) 4) : Nat) : Int) < 4) ∨ ((kB (kA (kD l) 4) 4) = 0)) ∧ ((kB (kA (kD l) 4) 4) ≤ 255)) := kO (kA (kD l) 4) (4 : Int) (kQ : Byt (kA (kD l) 4))
      have hx39 : (Byt (kA (kA (kD l) 4) 4)) := kE (4 : Int) (kQ : Byt (kA (kD l) 4))
      have hx40 : (((1 : Nat) ≤ (ka1 (u3 (kA (kA (kD l) 4) 4)))) ∧ ((ka1 (u3 (kA (kA (kD l) 4) 4))) ≤ 2)) := (aU (kQ : Byt (kA (kA (kD l) 4) 4)))
      have hx41 : (BsW (u3 (kA (kA (kD l) 4) 4))) := (mM _ _)
      have hx42 : (Byt (v8 l)) := (dM (kQ : Byt (kA (kA (kD l) 4) 4)))
      refine kI [.no, .call [0] (uV (kB l 256)) [(0, some (77, .ds [db (kA l 256) (ka1 (kA l 256))]))] 1 [] none, .w, .no, .no, .call [0] (uV (kB (kA l 256) 3)) [(0, some (77, .ds [db (kA (kA l 256) 3) (ka1 (kA (kA l 256) 3))]))] 1 [] none, .n2 1 1, .no, .no, .no, .call [0] (uV (kB (kA (kA l 256) 3) 4)) [(0, some (77, .ds [db (kA (kA (kA l 256) 3) 4) (ka1 (kA (kA (kA l 256) 3) 4))]))] 1 [] none, .no, .call [0] (iV (kB (kA (kA (kA l 256) 3) 4) 200 : Int)) [(0, some (77, .ds [db (kD l) (ka1 (kD l))]))] 1 [] none, .no, .no, .call [0] (uV (kB (kD l) 4)) [(0, some (77, .ds [db (kA (kD l) 4) (ka1 (kA (kD l) 4))]))] 1 [] none, .n2 (kB (kD l) 4) (kB (kD l) 4), .d (D.lit (.int .i64 (ka0 ([0, 66, 200, 7] : List Int) (kB (kD l) 4) 0))), .no, .call [0] (uV (kB (kA (kD l) 4) 4)) [(0, some (77, .ds [db (kA (kA (kD l) 4) 4) (ka1 (kA (kA (kD l) 4) 4))]))] 1 [] none, .no, .call [0] (oV 1 0 (ka1 (u3 (kA (kA (kD l) 4) 4))) 4) [(0, some (77, (eT l))), (1, some (47, .ds (kR (u3 (kA (kA (kD l) 4) 4)))))] 2 [] none, .no, .no] ((_) ∧ (0 ≤ (kB l 256 : Int) ∧ (kB l 256 : Int) ≤ 18446744073709551615) ∧ (_) ∧ (((kB (kA l 256) 3 : Int) : Int) = 1) ∧ ((1 : Nat) < 3) ∧ ((0 : Nat) + 1 * 1 = 1) ∧ (_) ∧ (_) ∧ (_) ∧ (kN (kB (kD l) 4 : Int)) ∧ ((kB (kD l) 4) < 4) ∧ ((0 : Nat) + (kB (kD l) 4) * 1 = (kB (kD l) 4)) ∧ ([iD 0, iD 66, iD 200, iD 7][(kB (kD l) 4)]? = some (D.lit (.int .i64 (ka0 ([0, 66, 200, 7] : List Int) (kB (kD l) 4) 0)))) ∧ (_) ∧ (_)) [(4, rV 1 0)] [(0, some (77, (eT l))), (1, some (25, .cs [.d (D.lit (.int .u64 (kB l 256 : Int))), .d (D.lit ((.string (ByteArray.mk #[104, 100, 109, 105, 45, 49])))), iC g, uC (kB (kA (kA l 256) 3) 4), iC (kB (kA (kA (kA l 256) 3) 4) 200 : Int), iC (ka0 ([0, 66, 200, 7] : List Int) (kB (kD l) 4) 0), uC (kB (kA (kD l) 4) 4), .own 4 0 (ka1 (u3 (kA (kA (kD l) 4) 4))) 4 true])), (4, some (47, .ds (kR (u3 (kA (kA (kD l) 4) 4)))))] 5 ⟨(qH l 256 (kQ : Byt l)), ⟨by omega, by omega⟩, (qH (kA l 256) 3 (kQ : Byt (kA l 256))), (by first | rfl | omega), zo, zo, (qH (kA (kA l 256) 3) 4 (kQ : Byt (kA (kA l 256) 3))), (qH (kA (kA (kA l 256) 3) 4) 200 (kQ : Byt (kA (kA (kA l 256) 3) 4))), (qH (kD l) 4 (kQ : Byt (kD l))), rfl, zo, zo, (dH .i64 ([0, 66, 200, 7] : List Int) _ yX), (qH (kA (kD l) 4) 4 (kQ : Byt (kA (kD l) 4))), (mQ (kA (kA (kD l) 4) 4) (kQ : Byt (kA (kA (kD l) 4) 4)))⟩ ?_
      refine AW.ret ?_
      exact kC (.inr rfl) [(1, 4)] (P := (kN (kB l 256 : Int)) ∧ ((.string (strOfNums (ka0 iO (kB (kA l 256) 3) ([] : List Int))) : Value) = .string (ByteArray.mk #[104, 100, 109, 105, 45, 49])) ∧ (kN g) ∧ (kN (kB (kA (kA l 256) 3) 4 : Int)) ∧ (kN (kB (kA (kA (kA l 256) 3) 4) 200 : Int)) ∧ (kN (ka0 ([0, 66, 200, 7] : List Int) (kB (kD l) 4) 0)) ∧ (kN (kB (kA (kD l) 4) 4 : Int)) ∧ (kP 0) ∧ (kP (ka1 (u3 (kA (kA (kD l) 4) 4)))) ∧ (kZ [db (v8 l) (ka1 (v8 l))]) ∧ (kZ (kR (u3 (kA (kA (kD l) 4) 4))))) zk ⟨rfl, (congrArg (fun x9 => Value.string (strOfNums x9)) (show (ka0 iO (kB (kA l 256) 3) ([] : List Int)) = ([104, 100, 109, 105, 45, 49] : List Int) from (by first | (rw [show kB (kA l 256) 3 = 0 by omega]; rfl) | (rw [show kB (kA l 256) 3 = 1 by omega]; rfl) | (rw [show kB (kA l 256) 3 = 2 by omega]; rfl)))), rfl, rfl, rfl, rfl, rfl, rfl, rfl, rfl, rfl⟩
    · have hx43 : ((((((kB l 256) : Nat) : Int) < 256) ∨ ((kB l 256) = 0)) ∧ ((kB l 256) ≤ 255)) := kO l (256 : Int) (kQ : Byt l)
      have hx44 : (Byt (kA l 256)) := kE (256 : Int) (kQ : Byt l)
      have hx45 : ((((((kB (kA l 256) 3) : Nat) : Int) < 3) ∨ ((kB (kA l 256) 3) = 0)) ∧ ((kB (kA l 256) 3) ≤ 255)) := kO (kA l 256) (3 : Int) (kQ : Byt (kA l 256))
      have hx46 : (Byt (kA (kA l 256) 3)) := kE (3 : Int) (kQ : Byt (kA l 256))
      have hx47 : ((((((kB (kA (kA l 256) 3) 4) : Nat) : Int) < 4) ∨ ((kB (kA (kA l 256) 3) 4) = 0)) ∧ ((kB (kA (kA l 256) 3) 4) ≤ 255)) := kO (kA (kA l 256) 3) (4 : Int) (kQ : Byt (kA (kA l 256) 3))
      have hx48 : (Byt (kA (kA (kA l 256) 3) 4)) := kE (4 : Int) (kQ : Byt (kA (kA l 256) 3))
      have hx49 : ((((((kB (kA (kA (kA l 256) 3) 4) 200) : Nat) : Int) < 200) ∨ ((kB (kA (kA (kA l 256) 3) 4) 200) = 0)) ∧ ((kB (kA (kA (kA l 256) 3) 4) 200) ≤ 255)) := kO (kA (kA (kA l 256) 3) 4) (200 : Int) (kQ : Byt (kA (kA (kA l 256) 3) 4))
      have hx50 : (Byt (kD l)) := kE (200 : Int) (kQ : Byt (kA (kA (kA l 256) 3) 4))
      have hx51 : ((((((kB (kD l) 4) : Nat) : Int) < 4) ∨ ((kB (kD l) 4) = 0)) ∧ ((kB (kD l) 4) ≤ 255)) := kO (kD l) (4 : Int) (kQ : Byt (kD l))
      have hx52 : (Byt (kA (kD l) 4)) := kE (4 : Int) (kQ : Byt (kD l))
      have hx53 : 0 ≤ (ka0 ([0, 66, 200, 7] : List Int) (kB (kD l) 4) 0) ∧ (ka0 ([0, 66, 200, 7] : List Int) (kB (kD l) 4) 0) ≤ 200 := eX (l := ([0, 66, 200, 7] : List Int)) (a := 0) (b := 200) (by decide) _ (show _ < 4 by omega)
      have hx54 : ((((((kB (kA (kD l) 4) 4) : Nat) : Int) < 4) ∨ ((kB (kA (kD l) 4) 4) = 0)) ∧ ((kB (kA (kD l) 4) 4) ≤ 255)) := kO (kA (kD l) 4) (4 : Int) (kQ : Byt (kA (kD l) 4))
      have hx55 : (Byt (kA (kA (kD l) 4) 4)) := kE (4 : Int) (kQ : Byt (kA (kD l) 4))
      have hx56 : (((1 : Nat) ≤ (ka1 (u3 (kA (kA (kD l) 4) 4)))) ∧ ((ka1 (u3 (kA (kA (kD l) 4) 4))) ≤ 2)) := (aU (kQ : Byt (kA (kA (kD l) 4) 4)))
      have hx57 : (BsW (u3 (kA (kA (kD l) 4) 4))) := (mM _ _)
      have hx58 : (Byt (v8 l)) := (dM (kQ : Byt (kA (kA (kD l) 4) 4)))
      refine kI [.no, .call [0] (uV (kB l 256)) [(0, some (77, .ds [db (kA l 256) (ka1 (kA l 256))]))] 1 [] none, .w, .no, .no, .call [0] (uV (kB (kA l 256) 3)) [(0, some (77, .ds [db (kA (kA l 256) 3) (ka1 (kA (kA l 256) 3))]))] 1 [] none, .n2 2 2, .no, .no, .no, .call [0] (uV (kB (kA (kA l 256) 3) 4)) [(0, some (77, .ds [db (kA (kA (kA l 256) 3) 4) (ka1 (kA (kA (kA l 256) 3) 4))]))] 1 [] none, .no, .call [0] (iV (kB (kA (kA (kA l 256) 3) 4) 200 : Int)) [(0, some (77, .ds [db (kD l) (ka1 (kD l))]))] 1 [] none, .no, .no, .call [0] (uV (kB (kD l) 4)) [(0, some (77, .ds [db (kA (kD l) 4) (ka1 (kA (kD l) 4))]))] 1 [] none, .n2 (kB (kD l) 4) (kB (kD l) 4), .d (D.lit (.int .i64 (ka0 ([0, 66, 200, 7] : List Int) (kB (kD l) 4) 0))), .no, .call [0] (uV (kB (kA (kD l) 4) 4)) [(0, some (77, .ds [db (kA (kA (kD l) 4) 4) (ka1 (kA (kA (kD l) 4) 4))]))] 1 [] none, .no, .call [0] (oV 1 0 (ka1 (u3 (kA (kA (kD l) 4) 4))) 4) [(0, some (77, (eT l))), (1, some (47, .ds (kR (u3 (kA (kA (kD l) 4) 4)))))] 2 [] none, .no, .no] ((_) ∧ (0 ≤ (kB l 256 : Int) ∧ (kB l 256 : Int) ≤ 18446744073709551615) ∧ (_) ∧ (((kB (kA l 256) 3 : Int) : Int) = 2) ∧ ((2 : Nat) < 3) ∧ ((0 : Nat) + 2 * 1 = 2) ∧ (_) ∧ (_) ∧ (_) ∧ (kN (kB (kD l) 4 : Int)) ∧ ((kB (kD l) 4) < 4) ∧ ((0 : Nat) + (kB (kD l) 4) * 1 = (kB (kD l) 4)) ∧ ([iD 0, iD 66, iD 200, iD 7][(kB (kD l) 4)]? = some (D.lit (.int .i64 (ka0 ([0, 66, 200, 7] : List Int) (kB (kD l) 4) 0)))) ∧ (_) ∧ (_)) [(4, rV 1 0)] [(0, some (77, (eT l))), (1, some (25, .cs [.d (D.lit (.int .u64 (kB l 256 : Int))), .d (D.lit ((.string (ByteArray.mk #[77, 105, 99, 46, 50])))), iC g, uC (kB (kA (kA l 256) 3) 4), iC (kB (kA (kA (kA l 256) 3) 4) 200 : Int), iC (ka0 ([0, 66, 200, 7] : List Int) (kB (kD l) 4) 0), uC (kB (kA (kD l) 4) 4), .own 4 0 (ka1 (u3 (kA (kA (kD l) 4) 4))) 4 true])), (4, some (47, .ds (kR (u3 (kA (kA (kD l) 4) 4)))))] 5 ⟨(qH l 256 (kQ : Byt l)), ⟨by omega, by omega⟩, (qH (kA l 256) 3 (kQ : Byt (kA l 256))), (by first | rfl | omega), zo, zo, (qH (kA (kA l 256) 3) 4 (kQ : Byt (kA (kA l 256) 3))), (qH (kA (kA (kA l 256) 3) 4) 200 (kQ : Byt (kA (kA (kA l 256) 3) 4))), (qH (kD l) 4 (kQ : Byt (kD l))), rfl, zo, zo, (dH .i64 ([0, 66, 200, 7] : List Int) _ yX), (qH (kA (kD l) 4) 4 (kQ : Byt (kA (kD l) 4))), (mQ (kA (kA (kD l) 4) 4) (kQ : Byt (kA (kA (kD l) 4) 4)))⟩ ?_
      refine AW.ret ?_
      exact kC (.inr rfl) [(1, 4)] (P := (kN (kB l 256 : Int)) ∧ ((.string (strOfNums (ka0 iO (kB (kA l 256) 3) ([] : List Int))) : Value) = .string (ByteArray.mk #[77, 105, 99, 46, 50])) ∧ (kN g) ∧ (kN (kB (kA (kA l 256) 3) 4 : Int)) ∧ (kN (kB (kA (kA (kA l 256) 3) 4) 200 : Int)) ∧ (kN (ka0 ([0, 66, 200, 7] : List Int) (kB (kD l) 4) 0)) ∧ (kN (kB (kA (kD l) 4) 4 : Int)) ∧ (kP 0) ∧ (kP (ka1 (u3 (kA (kA (kD l) 4) 4)))) ∧ (kZ [db (v8 l) (ka1 (v8 l))]) ∧ (kZ (kR (u3 (kA (kA (kD l) 4) 4))))) zk ⟨rfl, (congrArg (fun x9 => Value.string (strOfNums x9)) (show (ka0 iO (kB (kA l 256) 3) ([] : List Int)) = ([77, 105, 99, 46, 50] : List Int) from (by first | (rw [show kB (kA l 256) 3 = 0 by omega]; rfl) | (rw [show kB (kA l 256) 3 = 1 by omega]; rfl) | (rw [show kB (kA l 256) 3 = 2 by omega]; rfl)))), rfl, rfl, rfl, rfl, rfl, rfl, rfl, rfl, rfl⟩
abbrev yH (m : Nat) (sd : List Int) := kA (ka2 (min m 300) sd) 2
abbrev u5 (m : Nat) (sd : List Int) := kA (kA (kA (yH m sd) 256) 3) 4
theorem k9h (sd : List Int) (m : Nat) (hn : ka1 sd = m) (hb : m ≤ 9223372036854775807) (hy : Byt sd) : Fun 7 [.c (.d (D.sl (dI .u8 sd) m))] (kF []) 0 (.e (.agg [.d (D.lit (.int .u64 (((kB (kA (aI m sd) 2) 256) : Nat) : Int))), .d (D.lit (.string (strOfNums (ka0 iO (kB (kA (kA (aI m sd) 2) 256) 3) ([] : List Int))))), iC (1 + (((kB (aI m sd) 2) : Nat) : Int)), iC (((kB (kA (kA (kA (aI m sd) 2) 256) 3) 4) : Nat) : Int), iC (((kB (kA (kA (kA (kA (aI m sd) 2) 256) 3) 4) 200) : Nat) : Int), iC (ka0 ([0, 66, 200, 7] : List Int) (kB (kA (kA (kA (kA (kA (aI m sd) 2) 256) 3) 4) 200) 4) 0), iC (((kB (kA (kA (kA (kA (kA (kA (aI m sd) 2) 256) 3) 4) 200) 4) 4) : Nat) : Int), .own 0 0 (ka1 (u3 (kA (kA (kA (kA (kA (kA (kA (aI m sd) 2) 256) 3) 4) 200) 4) 4))) 4 true])) (kF [(0, some (47, .ds (kR (u3 (kA (kA (kA (kA (kA (kA (kA (aI m sd) 2) 256) 3) 4) 200) 4) 4)))))]) 1 := by
  refine Fun.mk (n := 11) Try.func7 rfl rfl (ka4 rfl) ?_
  intro cx hcx
  refine kI [.no] True [(0, sV .u8 sd m), (2, rV 0 0)] [(0, some (25, .ds [D.lit (.int .u64 0), D.lit (.string { data := #[] }), iD 0, iD 0, iD 0, iD 0, iD 0, qF]))] 1 trivial ?_
  refine kI [.no, .call [] (rV 0 0) [(0, some (77, .ds [db (aI m sd) (ka1 (aI m sd))]))] 1 [] none, .no] _ [(2, rV 0 0), (3, rV 1 0)] [(0, some (25, .ds [D.lit (.int .u64 0), D.lit (.string { data := #[] }), iD 0, iD 0, iD 0, iD 0, iD 0, qF])), (1, some (77, .ds [db (aI m sd) (ka1 (aI m sd))]))] 2 (u0y sd m zo zo) ?_
  have hx1 : ((((((kB (aI m sd) 2) : Nat) : Int) < 2) ∨ ((kB (aI m sd) 2) = 0)) ∧ ((kB (aI m sd) 2) ≤ 255)) := kO (aI m sd) (2 : Int) ((Byt.take (kQ : Byt sd) _))
  have hx2 : (Byt (yH m sd)) := kE (2 : Int) ((Byt.take (kQ : Byt sd) _))
  refine kI [.no, .no, .call [1] (uV (kB (aI m sd) 2)) [(0, some (77, .ds [db (yH m sd) (ka1 (yH m sd))]))] 1 [] none, .w, .call [1] (.e (.agg [.d (D.lit (.int .u64 (kB (yH m sd) 256 : Int))), .d (D.lit (.string (strOfNums (ka0 iO (kB (kA (yH m sd) 256) 3) ([] : List Int))))), iC (1 + (kB (aI m sd) 2 : Int)), iC (kB (kA (kA (yH m sd) 256) 3) 4 : Int), uC (kB (u5 m sd) 200), iC (ka0 ([0, 66, 200, 7] : List Int) (kB (kA (u5 m sd) 200) 4) 0), iC (kB (kA (kA (u5 m sd) 200) 4) 4 : Int), .own 1 0 (ka1 (u3 (kA (kA (kA (u5 m sd) 200) 4) 4))) 4 true])) [(0, some (77, .ds [db (sX (kA (kA (kA (u5 m sd) 200) 4) 4)) (ka1 (sX (kA (kA (kA (u5 m sd) 200) 4) 4)))])), (1, some (47, .ds (kR (u3 (kA (kA (kA (u5 m sd) 200) 4) 4)))))] 2 [] none, .no] ((_) ∧ (qJ (1 + (kB (aI m sd) 2 : Int))) ∧ (_)) [(2, rV 0 0)] [(0, some (25, .cs [.d (D.lit (.int .u64 (kB (yH m sd) 256 : Int))), .d (D.lit (.string (strOfNums (ka0 iO (kB (kA (yH m sd) 256) 3) ([] : List Int))))), iC (1 + (kB (aI m sd) 2 : Int)), iC (kB (kA (kA (yH m sd) 256) 3) 4 : Int), uC (kB (u5 m sd) 200), iC (ka0 ([0, 66, 200, 7] : List Int) (kB (kA (u5 m sd) 200) 4) 0), iC (kB (kA (kA (u5 m sd) 200) 4) 4 : Int), .own 2 0 (ka1 (u3 (kA (kA (kA (u5 m sd) 200) 4) 4))) 4 true])), (2, some (47, .ds (kR (u3 (kA (kA (kA (u5 m sd) 200) 4) 4)))))] 3 ⟨(qH (aI m sd) 2 (Byt.take (kQ : Byt sd) _)), ⟨by omega, by omega⟩, (k70 (yH m sd) (1 + (kB (aI m sd) 2 : Int)) (kQ : Byt (yH m sd)))⟩ ?_
  refine AW.ret ?_
  exact kC (.inr rfl) [(0, 2)] (P := (kN (kB (yH m sd) 256 : Int)) ∧ ((.string (strOfNums (ka0 iO (kB (kA (yH m sd) 256) 3) ([] : List Int))) : Value) = .string (strOfNums (ka0 iO (kB (kA (yH m sd) 256) 3) ([] : List Int)))) ∧ (kN (1 + (kB (aI m sd) 2 : Int))) ∧ (kN (kB (kA (kA (yH m sd) 256) 3) 4 : Int)) ∧ (kN (kB (u5 m sd) 200 : Int)) ∧ (kN (ka0 ([0, 66, 200, 7] : List Int) (kB (kA (u5 m sd) 200) 4) 0)) ∧ (kN (kB (kA (kA (u5 m sd) 200) 4) 4 : Int)) ∧ (kP 0) ∧ (kP (ka1 (u3 (kA (kA (kA (u5 m sd) 200) 4) 4)))) ∧ (kZ (kR (u3 (kA (kA (kA (u5 m sd) 200) 4) 4))))) zk ⟨rfl, rfl, rfl, rfl, rfl, rfl, rfl, rfl, rfl, rfl⟩
theorem k9a (sd : List Int) (m : Nat) (hn : ka1 sd = m) (hb : m ≤ 9223372036854775807) (hy : Byt sd) : ∃ (id : Int) (nm : List Int) (d1 : Int) (d2 : Int) (d3 : Int) (d4 : Int) (d5 : Int) (bs : List Bx) (n : Nat), (DeW id nm d1 d2 d3 d4 d5 bs n) ∧ (1 ≤ n ∧ n ≤ 2) ∧ (Byt nm) ∧ (ka1 nm ≤ 64) ∧ (ka1 bs = n) ∧ (BsW bs) ∧ (Fun 7 [.c (.d (D.sl (dI .u8 sd) m))] (kF []) 0 (.e (.agg [.d (D.lit (.int .u64 id)), .d (D.lit (.string (strOfNums nm))), iC d1, iC d2, iC d3, iC d4, iC d5, .own 0 0 n 4 true])) (kF [(0, some (47, .ds (kR bs)))]) 1) := ⟨(((kB (kA (aI m sd) 2) 256) : Nat) : Int), (ka0 iO (kB (kA (kA (aI m sd) 2) 256) 3) ([] : List Int)), (1 + (((kB (aI m sd) 2) : Nat) : Int)), (((kB (kA (kA (kA (aI m sd) 2) 256) 3) 4) : Nat) : Int), (((kB (kA (kA (kA (kA (aI m sd) 2) 256) 3) 4) 200) : Nat) : Int), (ka0 ([0, 66, 200, 7] : List Int) (kB (kA (kA (kA (kA (kA (aI m sd) 2) 256) 3) 4) 200) 4) 0), (((kB (kA (kA (kA (kA (kA (kA (aI m sd) 2) 256) 3) 4) 200) 4) 4) : Nat) : Int), (u3 (kA (kA (kA (kA (kA (kA (kA (aI m sd) 2) 256) 3) 4) 200) 4) 4)), (ka1 (u3 (kA (kA (kA (kA (kA (kA (kA (aI m sd) 2) 256) 3) 4) 200) 4) 4))), (k42 (kA (aI m sd) 2) (1 + ((kB (aI m sd) 2 : Nat) : Int)) (kE 2 (hy.take _)) (by have h9 := kO (aI m sd) 2 (hy.take _); omega)), (aU (kE 4 (kE 4 (kE 200 (kE 4 (kE 3 (kE 256 (kE 2 (hy.take _))))))))), DeW.y (k42 (kA (aI m sd) 2) (1 + ((kB (aI m sd) 2 : Nat) : Int)) (kE 2 (hy.take _)) (by have h9 := kO (aI m sd) 2 (hy.take _); omega)), (DeW.l (k42 (kA (aI m sd) 2) (1 + ((kB (aI m sd) 2 : Nat) : Int)) (kE 2 (hy.take _)) (by have h9 := kO (aI m sd) 2 (hy.take _); omega))).2, rfl, DeW.w (k42 (kA (aI m sd) 2) (1 + ((kB (aI m sd) 2 : Nat) : Int)) (kE 2 (hy.take _)) (by have h9 := kO (aI m sd) 2 (hy.take _); omega)), k9h sd m hn hb hy⟩
theorem bA {p : Prop} (h : p := by rw [List.drop_zero, List.take_of_length_le (by first | omega | (simp only [kU, kT, pbL_len, qD, qB, u1, qM, ka3, kb1, kb5, kb3, kb2, kb6, kc2, kc3, kc7, Nat.mul_one] <;> omega))]) : p := h
theorem k9g (id : Int) (nm : List Int) (d1 d2 d3 d4 d5 : Int) (bs : List Bx) (n : Nat) (u e9 : Int) (hy : Byt nm) (hl : ka1 nm ≤ 64) (hn : ka1 bs = n) (h1 : 1 ≤ n ∧ n ≤ 2) (hW : BsW bs) (hu : 0 ≤ u ∧ u ≤ 255) (hx : 0 ≤ e9 ∧ e9 ≤ 255) : Fun 6 [.agg [.d (D.lit (.int .u64 id)), .d (D.lit (.string (strOfNums nm))), iC d1, iC d2, iC d3, iC d4, iC d5, .own 0 0 n 4 true], .c (.d (D.lit (.int .u8 u))), .c (.d (D.lit (.int .u8 e9)))] (kF [(0, some (47, .ds (kR bs)))]) 1 (.e (.agg [.d (D.lit (.int .u64 id)), .d (D.lit (.string (strOfNums (bP (u % 10) e9 nm)))), iC (yV (u % 10) e9 d1), iC (yU (u % 10) e9 d2), iC (yT (u % 10) e9 d3), iC (yS (u % 10) e9 d4), iC (yR (u % 10) e9 d5), .d (D.sl (kR (aN (u % 10) e9 bs)) (ka1 (aN (u % 10) e9 bs)))])) (kF [(0, none)]) 1 := by
  refine Fun.mk (n := 74) Try.func6 rfl rfl (ka4 rfl) ?_
  intro cx hcx
  refine kI [.no, .no] True [(1, kS (D.lit (.int .u8 u))), (2, kS (D.lit (.int .u8 e9))), (3, rV 1 0), (6, rV 2 0)] [(0, some (47, .ds (kR bs))), (1, some (25, .cs [.d (D.lit (.int .u64 id)), .d (D.lit (.string (strOfNums nm))), iC d1, iC d2, iC d3, iC d4, iC d5, .own 0 0 n 4 true])), (2, some (25, .ds [D.lit (.int .u64 0), D.lit (.string { data := #[] }), iD 0, iD 0, iD 0, iD 0, iD 0, qF]))] 3 trivial ?_
  refine AW.seq ?_
  refine k8 [.no, .ps] (((0 : Int) ≤ (u : Int)) ∧ ((0 : Int) < (10 : Int))) [(2, kS (D.lit (.int .u8 e9))), (3, rV 1 0), (6, rV 2 0), (8, kS (D.lit (.int .u8 (u % 10))))] ⟨zo, zo⟩ ?_
  refine AW.block ?_
  by_cases hx1 : ((u % 10) = 0)
  · refine zr [.b true, .no] [2, 3, 6, 8, 9] [0, 1, 2] (((u % 10) = 0)) [(2, kS (D.lit (.int .u8 e9))), (3, rV 1 0), (6, rV 2 0), (8, kS (D.lit (.int .u8 (u % 10)))), (9, bV true)] [(0, some (47, .ds (kR bs))), (1, some (25, .cs [.d (D.lit (.int .u64 id)), .d (D.lit (.string (strOfNums nm))), iC d1, iC d2, iC d3, iC d4, iC d5, .own 0 0 n 4 true])), (2, some (25, .ds [D.lit (.int .u64 0), D.lit (.string { data := #[] }), iD 0, iD 0, iD 0, iD 0, iD 0, qF]))] 3 zo ?_
    refine zt ?_
    refine v7 [.no, .ps, .w, .no, .no] (((0 : Int) ≤ (e9 : Int)) ∧ ((0 : Int) < (4 : Int)) ∧ (qJ (e9 % 4))) [(3, rV 1 0), (6, rV 2 0)] [(0, some (47, .ds (kR bs))), (1, some (25, .cs [.d (D.lit (.int .u64 id)), .d (D.lit (.string (strOfNums nm))), iC (e9 % 4), iC d2, iC d3, iC d4, iC d5, .own 0 0 n 4 true])), (2, some (25, .ds [D.lit (.int .u64 0), D.lit (.string { data := #[] }), iD 0, iD 0, iD 0, iD 0, iD 0, qF]))] 3 ⟨zo, zo, ⟨by omega, by omega⟩⟩ ?_
    refine kI [.no, .no] True [(6, rV 2 0)] [(0, some (47, .ds (kR bs))), (2, some (25, .cs [.d (D.lit (.int .u64 id)), .d (D.lit (.string (strOfNums nm))), iC (e9 % 4), iC d2, iC d3, iC d4, iC d5, .own 0 0 n 4 true]))] 3 trivial ?_
    refine AW.freeze 0 (l' := [(6, rV 2 0)]) (g' := [(2, some (25, .ds [D.lit (.int .u64 id), D.lit (.string (strOfNums nm)), iD (e9 % 4), iD d2, iD d3, iD d4, iD d5, D.sl (kR bs) n]))]) rfl (FzS.cons rfl (.same _) FzS.nil) (FzG.to (bc := .cs [.d (D.lit (.int .u64 id)), .d (D.lit (.string (strOfNums nm))), iC (e9 % 4), iC d2, iC d3, iC d4, iC d5, .own 0 0 n 4 true]) rfl (by rfl) (FzL.cons (.same _) (FzL.cons (.same _) (FzL.cons (.same _) (FzL.cons (.same _) (FzL.cons (.same _) (FzL.cons (.same _) (FzL.cons (.same _) (FzL.cons (@FzC.own 0 ((kR bs) : List D) 0 n 4 true ((kR bs) : List D) bA yX) FzL.nil)))))))) FzG.nil) ?_
    have hx2 : yV (u % 10) e9 d1 = e9 % 4 := if_pos zo
    have hx3 : yU (u % 10) e9 d2 = d2 := if_neg zo
    have hx4 : yT (u % 10) e9 d3 = d3 := if_neg zo
    have hx5 : yS (u % 10) e9 d4 = d4 := if_neg zo
    have hx6 : yR (u % 10) e9 d5 = d5 := if_neg zo
    have hzN : bP (u % 10) e9 nm = nm := if_neg (by omega)
    have hzB : aN (u % 10) e9 bs = bs := (if_neg (by omega)).trans (if_neg (by omega))
    refine AW.ret ?_
    exact kC (.inr rfl) [] (P := (kN id) ∧ ((.string (strOfNums (bP (u % 10) e9 nm)) : Value) = .string (strOfNums nm)) ∧ (((yV (u % 10) e9 d1) : Int) = (e9 % 4)) ∧ (((yU (u % 10) e9 d2) : Int) = d2) ∧ (((yT (u % 10) e9 d3) : Int) = d3) ∧ (((yS (u % 10) e9 d4) : Int) = d4) ∧ (((yR (u % 10) e9 d5) : Int) = d5) ∧ (((kR (aN (u % 10) e9 bs)) : List D) = (kR bs)) ∧ (((ka1 (aN (u % 10) e9 bs)) : Nat) = n)) zk ⟨rfl, (congrArg (fun x9 => Value.string (strOfNums x9)) (show (bP (u % 10) e9 nm) = nm from (by first | rfl | omega | (rw [hzB]; done) | (rw [hzB]; rfl) | (rw [hzB]; omega) | (rw [hzN]; done) | (rw [hzN]; rfl)))), (by first | rfl | omega | (rw [hzB]; done) | (rw [hzB]; rfl) | (rw [hzB]; omega) | (rw [hzN]; done) | (rw [hzN]; rfl)), (by first | rfl | omega | (rw [hzB]; done) | (rw [hzB]; rfl) | (rw [hzB]; omega) | (rw [hzN]; done) | (rw [hzN]; rfl)), (by first | rfl | omega | (rw [hzB]; done) | (rw [hzB]; rfl) | (rw [hzB]; omega) | (rw [hzN]; done) | (rw [hzN]; rfl)), (by first | rfl | omega | (rw [hzB]; done) | (rw [hzB]; rfl) | (rw [hzB]; omega) | (rw [hzN]; done) | (rw [hzN]; rfl)), (by first | rfl | omega | (rw [hzB]; done) | (rw [hzB]; rfl) | (rw [hzB]; omega) | (rw [hzN]; done) | (rw [hzN]; rfl)), (by first | rfl | omega | (rw [hzB]; done) | (rw [hzB]; rfl) | (rw [hzB]; omega) | (rw [hzN]; done) | (rw [hzN]; rfl)), (by first | rfl | omega | (rw [hzB]; done) | (rw [hzB]; rfl) | (rw [hzB]; omega) | (rw [hzN]; done) | (rw [hzN]; rfl))⟩
  · refine zr [.b false, .no] [2, 3, 6, 8, 9] [0, 1, 2] (¬ ((u % 10) = 0)) [(2, kS (D.lit (.int .u8 e9))), (3, rV 1 0), (6, rV 2 0), (8, kS (D.lit (.int .u8 (u % 10)))), (9, bV false)] [(0, some (47, .ds (kR bs))), (1, some (25, .cs [.d (D.lit (.int .u64 id)), .d (D.lit (.string (strOfNums nm))), iC d1, iC d2, iC d3, iC d4, iC d5, .own 0 0 n 4 true])), (2, some (25, .ds [D.lit (.int .u64 0), D.lit (.string { data := #[] }), iD 0, iD 0, iD 0, iD 0, iD 0, qF]))] 3 zo ?_
    refine zf ?_
    by_cases hx7 : ((u % 10) = 1)
    · refine zr [.b true, .no] [2, 3, 6, 8, 15] [0, 1, 2] (((u % 10) = 1)) [(2, kS (D.lit (.int .u8 e9))), (3, rV 1 0), (6, rV 2 0), (8, kS (D.lit (.int .u8 (u % 10)))), (15, bV true)] [(0, some (47, .ds (kR bs))), (1, some (25, .cs [.d (D.lit (.int .u64 id)), .d (D.lit (.string (strOfNums nm))), iC d1, iC d2, iC d3, iC d4, iC d5, .own 0 0 n 4 true])), (2, some (25, .ds [D.lit (.int .u64 0), D.lit (.string { data := #[] }), iD 0, iD 0, iD 0, iD 0, iD 0, qF]))] 3 zo ?_
      refine zt ?_
      refine v7 [.no, .ps, .w, .w, .no, .no] (((0 : Int) ≤ (e9 : Int)) ∧ ((0 : Int) < (12 : Int)) ∧ (qJ (e9 % 12)) ∧ (qJ (65530 + (e9 % 12)))) [(3, rV 1 0), (6, rV 2 0)] [(0, some (47, .ds (kR bs))), (1, some (25, .cs [.d (D.lit (.int .u64 id)), .d (D.lit (.string (strOfNums nm))), iC d1, iC (65530 + (e9 % 12)), iC d3, iC d4, iC d5, .own 0 0 n 4 true])), (2, some (25, .ds [D.lit (.int .u64 0), D.lit (.string { data := #[] }), iD 0, iD 0, iD 0, iD 0, iD 0, qF]))] 3 ⟨zo, zo, ⟨by omega, by omega⟩, ⟨by omega, by omega⟩⟩ ?_
      refine kI [.no, .no] True [(6, rV 2 0)] [(0, some (47, .ds (kR bs))), (2, some (25, .cs [.d (D.lit (.int .u64 id)), .d (D.lit (.string (strOfNums nm))), iC d1, iC (65530 + (e9 % 12)), iC d3, iC d4, iC d5, .own 0 0 n 4 true]))] 3 trivial ?_
      refine AW.freeze 0 (l' := [(6, rV 2 0)]) (g' := [(2, some (25, .ds [D.lit (.int .u64 id), D.lit (.string (strOfNums nm)), iD d1, iD (65530 + (e9 % 12)), iD d3, iD d4, iD d5, D.sl (kR bs) n]))]) rfl (FzS.cons rfl (.same _) FzS.nil) (FzG.to (bc := .cs [.d (D.lit (.int .u64 id)), .d (D.lit (.string (strOfNums nm))), iC d1, iC (65530 + (e9 % 12)), iC d3, iC d4, iC d5, .own 0 0 n 4 true]) rfl (by rfl) (FzL.cons (.same _) (FzL.cons (.same _) (FzL.cons (.same _) (FzL.cons (.same _) (FzL.cons (.same _) (FzL.cons (.same _) (FzL.cons (.same _) (FzL.cons (@FzC.own 0 ((kR bs) : List D) 0 n 4 true ((kR bs) : List D) bA yX) FzL.nil)))))))) FzG.nil) ?_
      have hx8 : yV (u % 10) e9 d1 = d1 := if_neg zo
      have hx9 : yU (u % 10) e9 d2 = 65530 + e9 % 12 := if_pos zo
      have hx10 : yT (u % 10) e9 d3 = d3 := if_neg zo
      have hx11 : yS (u % 10) e9 d4 = d4 := if_neg zo
      have hx12 : yR (u % 10) e9 d5 = d5 := if_neg zo
      have hzN : bP (u % 10) e9 nm = nm := if_neg (by omega)
      have hzB : aN (u % 10) e9 bs = bs := (if_neg (by omega)).trans (if_neg (by omega))
      refine AW.ret ?_
      exact kC (.inr rfl) [] (P := (kN id) ∧ ((.string (strOfNums (bP (u % 10) e9 nm)) : Value) = .string (strOfNums nm)) ∧ (((yV (u % 10) e9 d1) : Int) = d1) ∧ (((yU (u % 10) e9 d2) : Int) = (65530 + (e9 % 12))) ∧ (((yT (u % 10) e9 d3) : Int) = d3) ∧ (((yS (u % 10) e9 d4) : Int) = d4) ∧ (((yR (u % 10) e9 d5) : Int) = d5) ∧ (((kR (aN (u % 10) e9 bs)) : List D) = (kR bs)) ∧ (((ka1 (aN (u % 10) e9 bs)) : Nat) = n)) zk ⟨rfl, (congrArg (fun x9 => Value.string (strOfNums x9)) (show (bP (u % 10) e9 nm) = nm from (by first | rfl | omega | (rw [hzB]; done) | (rw [hzB]; rfl) | (rw [hzB]; omega) | (rw [hzN]; done) | (rw [hzN]; rfl)))), (by first | rfl | omega | (rw [hzB]; done) | (rw [hzB]; rfl) | (rw [hzB]; omega) | (rw [hzN]; done) | (rw [hzN]; rfl)), (by first | rfl | omega | (rw [hzB]; done) | (rw [hzB]; rfl) | (rw [hzB]; omega) | (rw [hzN]; done) | (rw [hzN]; rfl)), (by first | rfl | omega | (rw [hzB]; done) | (rw [hzB]; rfl) | (rw [hzB]; omega) | (rw [hzN]; done) | (rw [hzN]; rfl)), (by first | rfl | omega | (rw [hzB]; done) | (rw [hzB]; rfl) | (rw [hzB]; omega) | (rw [hzN]; done) | (rw [hzN]; rfl)), (by first | rfl | omega | (rw [hzB]; done) | (rw [hzB]; rfl) | (rw [hzB]; omega) | (rw [hzN]; done) | (rw [hzN]; rfl)), (by first | rfl | omega | (rw [hzB]; done) | (rw [hzB]; rfl) | (rw [hzB]; omega) | (rw [hzN]; done) | (rw [hzN]; rfl)), (by first | rfl | omega | (rw [hzB]; done) | (rw [hzB]; rfl) | (rw [hzB]; omega) | (rw [hzN]; done) | (rw [hzN]; rfl))⟩
    · refine zr [.b false, .no] [2, 3, 6, 8, 15] [0, 1, 2] (¬ ((u % 10) = 1)) [(2, kS (D.lit (.int .u8 e9))), (3, rV 1 0), (6, rV 2 0), (8, kS (D.lit (.int .u8 (u % 10)))), (15, bV false)] [(0, some (47, .ds (kR bs))), (1, some (25, .cs [.d (D.lit (.int .u64 id)), .d (D.lit (.string (strOfNums nm))), iC d1, iC d2, iC d3, iC d4, iC d5, .own 0 0 n 4 true])), (2, some (25, .ds [D.lit (.int .u64 0), D.lit (.string { data := #[] }), iD 0, iD 0, iD 0, iD 0, iD 0, qF]))] 3 zo ?_
      refine zf ?_
      by_cases hx13 : ((u % 10) = 2)
      · refine zr [.b true, .no] [2, 3, 6, 8, 22] [0, 1, 2] (((u % 10) = 2)) [(2, kS (D.lit (.int .u8 e9))), (3, rV 1 0), (6, rV 2 0), (8, kS (D.lit (.int .u8 (u % 10)))), (22, bV true)] [(0, some (47, .ds (kR bs))), (1, some (25, .cs [.d (D.lit (.int .u64 id)), .d (D.lit (.string (strOfNums nm))), iC d1, iC d2, iC d3, iC d4, iC d5, .own 0 0 n 4 true])), (2, some (25, .ds [D.lit (.int .u64 0), D.lit (.string { data := #[] }), iD 0, iD 0, iD 0, iD 0, iD 0, qF]))] 3 zo ?_
        refine zt ?_
        refine v7 [.no, .ps, .w, .w, .no, .no] (((0 : Int) ≤ (e9 : Int)) ∧ ((0 : Int) < (4 : Int)) ∧ (qJ (e9 % 4)) ∧ (qJ (1048574 + (e9 % 4)))) [(3, rV 1 0), (6, rV 2 0)] [(0, some (47, .ds (kR bs))), (1, some (25, .cs [.d (D.lit (.int .u64 id)), .d (D.lit (.string (strOfNums nm))), iC d1, iC d2, iC (1048574 + (e9 % 4)), iC d4, iC d5, .own 0 0 n 4 true])), (2, some (25, .ds [D.lit (.int .u64 0), D.lit (.string { data := #[] }), iD 0, iD 0, iD 0, iD 0, iD 0, qF]))] 3 ⟨zo, zo, ⟨by omega, by omega⟩, ⟨by omega, by omega⟩⟩ ?_
        refine kI [.no, .no] True [(6, rV 2 0)] [(0, some (47, .ds (kR bs))), (2, some (25, .cs [.d (D.lit (.int .u64 id)), .d (D.lit (.string (strOfNums nm))), iC d1, iC d2, iC (1048574 + (e9 % 4)), iC d4, iC d5, .own 0 0 n 4 true]))] 3 trivial ?_
        refine AW.freeze 0 (l' := [(6, rV 2 0)]) (g' := [(2, some (25, .ds [D.lit (.int .u64 id), D.lit (.string (strOfNums nm)), iD d1, iD d2, iD (1048574 + (e9 % 4)), iD d4, iD d5, D.sl (kR bs) n]))]) rfl (FzS.cons rfl (.same _) FzS.nil) (FzG.to (bc := .cs [.d (D.lit (.int .u64 id)), .d (D.lit (.string (strOfNums nm))), iC d1, iC d2, iC (1048574 + (e9 % 4)), iC d4, iC d5, .own 0 0 n 4 true]) rfl (by rfl) (FzL.cons (.same _) (FzL.cons (.same _) (FzL.cons (.same _) (FzL.cons (.same _) (FzL.cons (.same _) (FzL.cons (.same _) (FzL.cons (.same _) (FzL.cons (@FzC.own 0 ((kR bs) : List D) 0 n 4 true ((kR bs) : List D) bA yX) FzL.nil)))))))) FzG.nil) ?_
        have hx14 : yV (u % 10) e9 d1 = d1 := if_neg zo
        have hx15 : yU (u % 10) e9 d2 = d2 := if_neg zo
        have hx16 : yT (u % 10) e9 d3 = 1048574 + e9 % 4 := if_pos zo
        have hx17 : yS (u % 10) e9 d4 = d4 := if_neg zo
        have hx18 : yR (u % 10) e9 d5 = d5 := if_neg zo
        have hzN : bP (u % 10) e9 nm = nm := if_neg (by omega)
        have hzB : aN (u % 10) e9 bs = bs := (if_neg (by omega)).trans (if_neg (by omega))
        refine AW.ret ?_
        exact kC (.inr rfl) [] (P := (kN id) ∧ ((.string (strOfNums (bP (u % 10) e9 nm)) : Value) = .string (strOfNums nm)) ∧ (((yV (u % 10) e9 d1) : Int) = d1) ∧ (((yU (u % 10) e9 d2) : Int) = d2) ∧ (((yT (u % 10) e9 d3) : Int) = (1048574 + (e9 % 4))) ∧ (((yS (u % 10) e9 d4) : Int) = d4) ∧ (((yR (u % 10) e9 d5) : Int) = d5) ∧ (((kR (aN (u % 10) e9 bs)) : List D) = (kR bs)) ∧ (((ka1 (aN (u % 10) e9 bs)) : Nat) = n)) zk ⟨rfl, (congrArg (fun x9 => Value.string (strOfNums x9)) (show (bP (u % 10) e9 nm) = nm from (by first | rfl | omega | (rw [hzB]; done) | (rw [hzB]; rfl) | (rw [hzB]; omega) | (rw [hzN]; done) | (rw [hzN]; rfl)))), (by first | rfl | omega | (rw [hzB]; done) | (rw [hzB]; rfl) | (rw [hzB]; omega) | (rw [hzN]; done) | (rw [hzN]; rfl)), (by first | rfl | omega | (rw [hzB]; done) | (rw [hzB]; rfl) | (rw [hzB]; omega) | (rw [hzN]; done) | (rw [hzN]; rfl)), (by first | rfl | omega | (rw [hzB]; done) | (rw [hzB]; rfl) | (rw [hzB]; omega) | (rw [hzN]; done) | (rw [hzN]; rfl)), (by first | rfl | omega | (rw [hzB]; done) | (rw [hzB]; rfl) | (rw [hzB]; omega) | (rw [hzN]; done) | (rw [hzN]; rfl)), (by first | rfl | omega | (rw [hzB]; done) | (rw [hzB]; rfl) | (rw [hzB]; omega) | (rw [hzN]; done) | (rw [hzN]; rfl)), (by first | rfl | omega | (rw [hzB]; done) | (rw [hzB]; rfl) | (rw [hzB]; omega) | (rw [hzN]; done) | (rw [hzN]; rfl)), (by first | rfl | omega | (rw [hzB]; done) | (rw [hzB]; rfl) | (rw [hzB]; omega) | (rw [hzN]; done) | (rw [hzN]; rfl))⟩
      · refine zr [.b false, .no] [2, 3, 6, 8, 22] [0, 1, 2] (¬ ((u % 10) = 2)) [(2, kS (D.lit (.int .u8 e9))), (3, rV 1 0), (6, rV 2 0), (8, kS (D.lit (.int .u8 (u % 10)))), (22, bV false)] [(0, some (47, .ds (kR bs))), (1, some (25, .cs [.d (D.lit (.int .u64 id)), .d (D.lit (.string (strOfNums nm))), iC d1, iC d2, iC d3, iC d4, iC d5, .own 0 0 n 4 true])), (2, some (25, .ds [D.lit (.int .u64 0), D.lit (.string { data := #[] }), iD 0, iD 0, iD 0, iD 0, iD 0, qF]))] 3 zo ?_
        refine zf ?_
        by_cases hx19 : ((u % 10) = 3)
        · refine zr [.b true, .no] [2, 3, 6, 8, 29] [0, 1, 2] (((u % 10) = 3)) [(2, kS (D.lit (.int .u8 e9))), (3, rV 1 0), (6, rV 2 0), (8, kS (D.lit (.int .u8 (u % 10)))), (29, bV true)] [(0, some (47, .ds (kR bs))), (1, some (25, .cs [.d (D.lit (.int .u64 id)), .d (D.lit (.string (strOfNums nm))), iC d1, iC d2, iC d3, iC d4, iC d5, .own 0 0 n 4 true])), (2, some (25, .ds [D.lit (.int .u64 0), D.lit (.string { data := #[] }), iD 0, iD 0, iD 0, iD 0, iD 0, qF]))] 3 zo ?_
          refine zt ?_
          refine v7 [.no, .ps, .w, .w, .no, .no] (((0 : Int) ≤ (e9 : Int)) ∧ ((0 : Int) < (4 : Int)) ∧ (qJ (e9 % 4)) ∧ (qJ (2046 + (e9 % 4)))) [(3, rV 1 0), (6, rV 2 0)] [(0, some (47, .ds (kR bs))), (1, some (25, .cs [.d (D.lit (.int .u64 id)), .d (D.lit (.string (strOfNums nm))), iC d1, iC d2, iC d3, iC (2046 + (e9 % 4)), iC d5, .own 0 0 n 4 true])), (2, some (25, .ds [D.lit (.int .u64 0), D.lit (.string { data := #[] }), iD 0, iD 0, iD 0, iD 0, iD 0, qF]))] 3 ⟨zo, zo, ⟨by omega, by omega⟩, ⟨by omega, by omega⟩⟩ ?_
          refine kI [.no, .no] True [(6, rV 2 0)] [(0, some (47, .ds (kR bs))), (2, some (25, .cs [.d (D.lit (.int .u64 id)), .d (D.lit (.string (strOfNums nm))), iC d1, iC d2, iC d3, iC (2046 + (e9 % 4)), iC d5, .own 0 0 n 4 true]))] 3 trivial ?_
          refine AW.freeze 0 (l' := [(6, rV 2 0)]) (g' := [(2, some (25, .ds [D.lit (.int .u64 id), D.lit (.string (strOfNums nm)), iD d1, iD d2, iD d3, iD (2046 + (e9 % 4)), iD d5, D.sl (kR bs) n]))]) rfl (FzS.cons rfl (.same _) FzS.nil) (FzG.to (bc := .cs [.d (D.lit (.int .u64 id)), .d (D.lit (.string (strOfNums nm))), iC d1, iC d2, iC d3, iC (2046 + (e9 % 4)), iC d5, .own 0 0 n 4 true]) rfl (by rfl) (FzL.cons (.same _) (FzL.cons (.same _) (FzL.cons (.same _) (FzL.cons (.same _) (FzL.cons (.same _) (FzL.cons (.same _) (FzL.cons (.same _) (FzL.cons (@FzC.own 0 ((kR bs) : List D) 0 n 4 true ((kR bs) : List D) bA yX) FzL.nil)))))))) FzG.nil) ?_
          have hx20 : yV (u % 10) e9 d1 = d1 := if_neg zo
          have hx21 : yU (u % 10) e9 d2 = d2 := if_neg zo
          have hx22 : yT (u % 10) e9 d3 = d3 := if_neg zo
          have hx23 : yS (u % 10) e9 d4 = 2046 + e9 % 4 := if_pos zo
          have hx24 : yR (u % 10) e9 d5 = d5 := if_neg zo
          have hzN : bP (u % 10) e9 nm = nm := if_neg (by omega)
          have hzB : aN (u % 10) e9 bs = bs := (if_neg (by omega)).trans (if_neg (by omega))
          refine AW.ret ?_
          exact kC (.inr rfl) [] (P := (kN id) ∧ ((.string (strOfNums (bP (u % 10) e9 nm)) : Value) = .string (strOfNums nm)) ∧ (((yV (u % 10) e9 d1) : Int) = d1) ∧ (((yU (u % 10) e9 d2) : Int) = d2) ∧ (((yT (u % 10) e9 d3) : Int) = d3) ∧ (((yS (u % 10) e9 d4) : Int) = (2046 + (e9 % 4))) ∧ (((yR (u % 10) e9 d5) : Int) = d5) ∧ (((kR (aN (u % 10) e9 bs)) : List D) = (kR bs)) ∧ (((ka1 (aN (u % 10) e9 bs)) : Nat) = n)) zk ⟨rfl, (congrArg (fun x9 => Value.string (strOfNums x9)) (show (bP (u % 10) e9 nm) = nm from (by first | rfl | omega | (rw [hzB]; done) | (rw [hzB]; rfl) | (rw [hzB]; omega) | (rw [hzN]; done) | (rw [hzN]; rfl)))), (by first | rfl | omega | (rw [hzB]; done) | (rw [hzB]; rfl) | (rw [hzB]; omega) | (rw [hzN]; done) | (rw [hzN]; rfl)), (by first | rfl | omega | (rw [hzB]; done) | (rw [hzB]; rfl) | (rw [hzB]; omega) | (rw [hzN]; done) | (rw [hzN]; rfl)), (by first | rfl | omega | (rw [hzB]; done) | (rw [hzB]; rfl) | (rw [hzB]; omega) | (rw [hzN]; done) | (rw [hzN]; rfl)), (by first | rfl | omega | (rw [hzB]; done) | (rw [hzB]; rfl) | (rw [hzB]; omega) | (rw [hzN]; done) | (rw [hzN]; rfl)), (by first | rfl | omega | (rw [hzB]; done) | (rw [hzB]; rfl) | (rw [hzB]; omega) | (rw [hzN]; done) | (rw [hzN]; rfl)), (by first | rfl | omega | (rw [hzB]; done) | (rw [hzB]; rfl) | (rw [hzB]; omega) | (rw [hzN]; done) | (rw [hzN]; rfl)), (by first | rfl | omega | (rw [hzB]; done) | (rw [hzB]; rfl) | (rw [hzB]; omega) | (rw [hzN]; done) | (rw [hzN]; rfl))⟩
        · refine zr [.b false, .no] [2, 3, 6, 8, 29] [0, 1, 2] (¬ ((u % 10) = 3)) [(2, kS (D.lit (.int .u8 e9))), (3, rV 1 0), (6, rV 2 0), (8, kS (D.lit (.int .u8 (u % 10)))), (29, bV false)] [(0, some (47, .ds (kR bs))), (1, some (25, .cs [.d (D.lit (.int .u64 id)), .d (D.lit (.string (strOfNums nm))), iC d1, iC d2, iC d3, iC d4, iC d5, .own 0 0 n 4 true])), (2, some (25, .ds [D.lit (.int .u64 0), D.lit (.string { data := #[] }), iD 0, iD 0, iD 0, iD 0, iD 0, qF]))] 3 zo ?_
          refine zf ?_
          by_cases hx25 : ((u % 10) = 4)
          · refine zr [.b true, .no] [2, 3, 6, 8, 36] [0, 1, 2] (((u % 10) = 4)) [(2, kS (D.lit (.int .u8 e9))), (3, rV 1 0), (6, rV 2 0), (8, kS (D.lit (.int .u8 (u % 10)))), (36, bV true)] [(0, some (47, .ds (kR bs))), (1, some (25, .cs [.d (D.lit (.int .u64 id)), .d (D.lit (.string (strOfNums nm))), iC d1, iC d2, iC d3, iC d4, iC d5, .own 0 0 n 4 true])), (2, some (25, .ds [D.lit (.int .u64 0), D.lit (.string { data := #[] }), iD 0, iD 0, iD 0, iD 0, iD 0, qF]))] 3 zo ?_
            refine zt ?_
            refine v7 [.no, .ps, .w, .w, .no, .no] (((0 : Int) ≤ (e9 : Int)) ∧ ((0 : Int) < (4 : Int)) ∧ (qJ (e9 % 4)) ∧ (qJ (4094 + (e9 % 4)))) [(3, rV 1 0), (6, rV 2 0)] [(0, some (47, .ds (kR bs))), (1, some (25, .cs [.d (D.lit (.int .u64 id)), .d (D.lit (.string (strOfNums nm))), iC d1, iC d2, iC d3, iC d4, iC (4094 + (e9 % 4)), .own 0 0 n 4 true])), (2, some (25, .ds [D.lit (.int .u64 0), D.lit (.string { data := #[] }), iD 0, iD 0, iD 0, iD 0, iD 0, qF]))] 3 ⟨zo, zo, ⟨by omega, by omega⟩, ⟨by omega, by omega⟩⟩ ?_
            refine kI [.no, .no] True [(6, rV 2 0)] [(0, some (47, .ds (kR bs))), (2, some (25, .cs [.d (D.lit (.int .u64 id)), .d (D.lit (.string (strOfNums nm))), iC d1, iC d2, iC d3, iC d4, iC (4094 + (e9 % 4)), .own 0 0 n 4 true]))] 3 trivial ?_
            refine AW.freeze 0 (l' := [(6, rV 2 0)]) (g' := [(2, some (25, .ds [D.lit (.int .u64 id), D.lit (.string (strOfNums nm)), iD d1, iD d2, iD d3, iD d4, iD (4094 + (e9 % 4)), D.sl (kR bs) n]))]) rfl (FzS.cons rfl (.same _) FzS.nil) (FzG.to (bc := .cs [.d (D.lit (.int .u64 id)), .d (D.lit (.string (strOfNums nm))), iC d1, iC d2, iC d3, iC d4, iC (4094 + (e9 % 4)), .own 0 0 n 4 true]) rfl (by rfl) (FzL.cons (.same _) (FzL.cons (.same _) (FzL.cons (.same _) (FzL.cons (.same _) (FzL.cons (.same _) (FzL.cons (.same _) (FzL.cons (.same _) (FzL.cons (@FzC.own 0 ((kR bs) : List D) 0 n 4 true ((kR bs) : List D) bA yX) FzL.nil)))))))) FzG.nil) ?_
            have hx26 : yV (u % 10) e9 d1 = d1 := if_neg zo
            have hx27 : yU (u % 10) e9 d2 = d2 := if_neg zo
            have hx28 : yT (u % 10) e9 d3 = d3 := if_neg zo
            have hx29 : yS (u % 10) e9 d4 = d4 := if_neg zo
            have hx30 : yR (u % 10) e9 d5 = 4094 + e9 % 4 := if_pos zo
            have hzN : bP (u % 10) e9 nm = nm := if_neg (by omega)
            have hzB : aN (u % 10) e9 bs = bs := (if_neg (by omega)).trans (if_neg (by omega))
            refine AW.ret ?_
            exact kC (.inr rfl) [] (P := (kN id) ∧ ((.string (strOfNums (bP (u % 10) e9 nm)) : Value) = .string (strOfNums nm)) ∧ (((yV (u % 10) e9 d1) : Int) = d1) ∧ (((yU (u % 10) e9 d2) : Int) = d2) ∧ (((yT (u % 10) e9 d3) : Int) = d3) ∧ (((yS (u % 10) e9 d4) : Int) = d4) ∧ (((yR (u % 10) e9 d5) : Int) = (4094 + (e9 % 4))) ∧ (((kR (aN (u % 10) e9 bs)) : List D) = (kR bs)) ∧ (((ka1 (aN (u % 10) e9 bs)) : Nat) = n)) zk ⟨rfl, (congrArg (fun x9 => Value.string (strOfNums x9)) (show (bP (u % 10) e9 nm) = nm from (by first | rfl | omega | (rw [hzB]; done) | (rw [hzB]; rfl) | (rw [hzB]; omega) | (rw [hzN]; done) | (rw [hzN]; rfl)))), (by first | rfl | omega | (rw [hzB]; done) | (rw [hzB]; rfl) | (rw [hzB]; omega) | (rw [hzN]; done) | (rw [hzN]; rfl)), (by first | rfl | omega | (rw [hzB]; done) | (rw [hzB]; rfl) | (rw [hzB]; omega) | (rw [hzN]; done) | (rw [hzN]; rfl)), (by first | rfl | omega | (rw [hzB]; done) | (rw [hzB]; rfl) | (rw [hzB]; omega) | (rw [hzN]; done) | (rw [hzN]; rfl)), (by first | rfl | omega | (rw [hzB]; done) | (rw [hzB]; rfl) | (rw [hzB]; omega) | (rw [hzN]; done) | (rw [hzN]; rfl)), (by first | rfl | omega | (rw [hzB]; done) | (rw [hzB]; rfl) | (rw [hzB]; omega) | (rw [hzN]; done) | (rw [hzN]; rfl)), (by first | rfl | omega | (rw [hzB]; done) | (rw [hzB]; rfl) | (rw [hzB]; omega) | (rw [hzN]; done) | (rw [hzN]; rfl)), (by first | rfl | omega | (rw [hzB]; done) | (rw [hzB]; rfl) | (rw [hzB]; omega) | (rw [hzN]; done) | (rw [hzN]; rfl))⟩
          · refine zr [.b false, .no] [2, 3, 6, 8, 36] [0, 1, 2] (¬ ((u % 10) = 4)) [(2, kS (D.lit (.int .u8 e9))), (3, rV 1 0), (6, rV 2 0), (8, kS (D.lit (.int .u8 (u % 10)))), (36, bV false)] [(0, some (47, .ds (kR bs))), (1, some (25, .cs [.d (D.lit (.int .u64 id)), .d (D.lit (.string (strOfNums nm))), iC d1, iC d2, iC d3, iC d4, iC d5, .own 0 0 n 4 true])), (2, some (25, .ds [D.lit (.int .u64 0), D.lit (.string { data := #[] }), iD 0, iD 0, iD 0, iD 0, iD 0, qF]))] 3 zo ?_
            refine zf ?_
            by_cases hx31 : ((u % 10) = 5)
            · refine zr [.b true, .no] [2, 3, 6, 8, 43] [0, 1, 2] (((u % 10) = 5)) [(2, kS (D.lit (.int .u8 e9))), (3, rV 1 0), (6, rV 2 0), (8, kS (D.lit (.int .u8 (u % 10)))), (43, bV true)] [(0, some (47, .ds (kR bs))), (1, some (25, .cs [.d (D.lit (.int .u64 id)), .d (D.lit (.string (strOfNums nm))), iC d1, iC d2, iC d3, iC d4, iC d5, .own 0 0 n 4 true])), (2, some (25, .ds [D.lit (.int .u64 0), D.lit (.string { data := #[] }), iD 0, iD 0, iD 0, iD 0, iD 0, qF]))] 3 zo ?_
              refine zt ?_
              by_cases hx32 : ((e9 % 4) = 0)
              · refine zg [.no, .no, .ps, .n2 0 0, .no, .no, .no] [3, 6] [0, 1, 2] (((0 : Int) ≤ (e9 : Int)) ∧ ((0 : Int) < (4 : Int)) ∧ (((e9 % 4) : Int) = 0) ∧ ((0 : Nat) < 4) ∧ ((0 : Nat) + 0 * 1 = 0)) [(3, rV 1 0), (6, rV 2 0)] [(0, some (47, .ds (kR bs))), (1, some (25, .cs [.d (D.lit (.int .u64 id)), .d (D.lit ((.string (ByteArray.mk #[])))), iC d1, iC d2, iC d3, iC d4, iC d5, .own 0 0 n 4 true])), (2, some (25, .ds [D.lit (.int .u64 0), D.lit (.string { data := #[] }), iD 0, iD 0, iD 0, iD 0, iD 0, qF]))] 4 ⟨zo, zo, (by first | rfl | omega), zo, zo⟩ ?_
                refine kI [.no, .no] True [(6, rV 2 0)] [(0, some (47, .ds (kR bs))), (2, some (25, .cs [.d (D.lit (.int .u64 id)), .d (D.lit ((.string (ByteArray.mk #[])))), iC d1, iC d2, iC d3, iC d4, iC d5, .own 0 0 n 4 true]))] 4 trivial ?_
                refine AW.freeze 0 (l' := [(6, rV 2 0)]) (g' := [(2, some (25, .ds [D.lit (.int .u64 id), D.lit ((.string (ByteArray.mk #[]))), iD d1, iD d2, iD d3, iD d4, iD d5, D.sl (kR bs) n]))]) rfl (FzS.cons rfl (.same _) FzS.nil) (FzG.to (bc := .cs [.d (D.lit (.int .u64 id)), .d (D.lit ((.string (ByteArray.mk #[])))), iC d1, iC d2, iC d3, iC d4, iC d5, .own 0 0 n 4 true]) rfl (by rfl) (FzL.cons (.same _) (FzL.cons (.same _) (FzL.cons (.same _) (FzL.cons (.same _) (FzL.cons (.same _) (FzL.cons (.same _) (FzL.cons (.same _) (FzL.cons (@FzC.own 0 ((kR bs) : List D) 0 n 4 true ((kR bs) : List D) bA yX) FzL.nil)))))))) FzG.nil) ?_
                have hx33 : yV (u % 10) e9 d1 = d1 := if_neg zo
                have hx34 : yU (u % 10) e9 d2 = d2 := if_neg zo
                have hx35 : yT (u % 10) e9 d3 = d3 := if_neg zo
                have hx36 : yS (u % 10) e9 d4 = d4 := if_neg zo
                have hx37 : yR (u % 10) e9 d5 = d5 := if_neg zo
                have hzN : bP (u % 10) e9 nm = ka0 xpT 0 [] := (if_pos (by omega)).trans (by rw [show kg0 (e9 % 4) = 0 by omega])
                have hzB : aN (u % 10) e9 bs = bs := (if_neg (by omega)).trans (if_neg (by omega))
                refine AW.ret ?_
                exact kC (.inr rfl) [] (P := (kN id) ∧ ((.string (strOfNums (bP (u % 10) e9 nm)) : Value) = .string (ByteArray.mk #[])) ∧ (((yV (u % 10) e9 d1) : Int) = d1) ∧ (((yU (u % 10) e9 d2) : Int) = d2) ∧ (((yT (u % 10) e9 d3) : Int) = d3) ∧ (((yS (u % 10) e9 d4) : Int) = d4) ∧ (((yR (u % 10) e9 d5) : Int) = d5) ∧ (((kR (aN (u % 10) e9 bs)) : List D) = (kR bs)) ∧ (((ka1 (aN (u % 10) e9 bs)) : Nat) = n)) zk ⟨rfl, (congrArg (fun x9 => Value.string (strOfNums x9)) (show (bP (u % 10) e9 nm) = ([] : List Int) from (by first | rfl | omega | (rw [hzB]; done) | (rw [hzB]; rfl) | (rw [hzB]; omega) | (rw [hzN]; done) | (rw [hzN]; rfl)))), (by first | rfl | omega | (rw [hzB]; done) | (rw [hzB]; rfl) | (rw [hzB]; omega) | (rw [hzN]; done) | (rw [hzN]; rfl)), (by first | rfl | omega | (rw [hzB]; done) | (rw [hzB]; rfl) | (rw [hzB]; omega) | (rw [hzN]; done) | (rw [hzN]; rfl)), (by first | rfl | omega | (rw [hzB]; done) | (rw [hzB]; rfl) | (rw [hzB]; omega) | (rw [hzN]; done) | (rw [hzN]; rfl)), (by first | rfl | omega | (rw [hzB]; done) | (rw [hzB]; rfl) | (rw [hzB]; omega) | (rw [hzN]; done) | (rw [hzN]; rfl)), (by first | rfl | omega | (rw [hzB]; done) | (rw [hzB]; rfl) | (rw [hzB]; omega) | (rw [hzN]; done) | (rw [hzN]; rfl)), (by first | rfl | omega | (rw [hzB]; done) | (rw [hzB]; rfl) | (rw [hzB]; omega) | (rw [hzN]; done) | (rw [hzN]; rfl)), (by first | rfl | omega | (rw [hzB]; done) | (rw [hzB]; rfl) | (rw [hzB]; omega) | (rw [hzN]; done) | (rw [hzN]; rfl))⟩
              · by_cases hx38 : ((e9 % 4) = 1)
                · refine zg [.no, .no, .ps, .n2 1 1, .no, .no, .no] [3, 6] [0, 1, 2] (((0 : Int) ≤ (e9 : Int)) ∧ ((0 : Int) < (4 : Int)) ∧ (((e9 % 4) : Int) = 1) ∧ ((1 : Nat) < 4) ∧ ((0 : Nat) + 1 * 1 = 1)) [(3, rV 1 0), (6, rV 2 0)] [(0, some (47, .ds (kR bs))), (1, some (25, .cs [.d (D.lit (.int .u64 id)), .d (D.lit ((.string (ByteArray.mk #[49, 97])))), iC d1, iC d2, iC d3, iC d4, iC d5, .own 0 0 n 4 true])), (2, some (25, .ds [D.lit (.int .u64 0), D.lit (.string { data := #[] }), iD 0, iD 0, iD 0, iD 0, iD 0, qF]))] 4 ⟨zo, zo, (by first | rfl | omega), zo, zo⟩ ?_
                  refine kI [.no, .no] True [(6, rV 2 0)] [(0, some (47, .ds (kR bs))), (2, some (25, .cs [.d (D.lit (.int .u64 id)), .d (D.lit ((.string (ByteArray.mk #[49, 97])))), iC d1, iC d2, iC d3, iC d4, iC d5, .own 0 0 n 4 true]))] 4 trivial ?_
                  refine AW.freeze 0 (l' := [(6, rV 2 0)]) (g' := [(2, some (25, .ds [D.lit (.int .u64 id), D.lit ((.string (ByteArray.mk #[49, 97]))), iD d1, iD d2, iD d3, iD d4, iD d5, D.sl (kR bs) n]))]) rfl (FzS.cons rfl (.same _) FzS.nil) (FzG.to (bc := .cs [.d (D.lit (.int .u64 id)), .d (D.lit ((.string (ByteArray.mk #[49, 97])))), iC d1, iC d2, iC d3, iC d4, iC d5, .own 0 0 n 4 true]) rfl (by rfl) (FzL.cons (.same _) (FzL.cons (.same _) (FzL.cons (.same _) (FzL.cons (.same _) (FzL.cons (.same _) (FzL.cons (.same _) (FzL.cons (.same _) (FzL.cons (@FzC.own 0 ((kR bs) : List D) 0 n 4 true ((kR bs) : List D) bA yX) FzL.nil)))))))) FzG.nil) ?_
                  have hx39 : yV (u % 10) e9 d1 = d1 := if_neg zo
                  have hx40 : yU (u % 10) e9 d2 = d2 := if_neg zo
                  have hx41 : yT (u % 10) e9 d3 = d3 := if_neg zo
                  have hx42 : yS (u % 10) e9 d4 = d4 := if_neg zo
                  have hx43 : yR (u % 10) e9 d5 = d5 := if_neg zo
                  have hzN : bP (u % 10) e9 nm = ka0 xpT 1 [] := (if_pos (by omega)).trans (by rw [show kg0 (e9 % 4) = 1 by omega])
                  have hzB : aN (u % 10) e9 bs = bs := (if_neg (by omega)).trans (if_neg (by omega))
                  refine AW.ret ?_
                  exact kC (.inr rfl) [] (P := (kN id) ∧ ((.string (strOfNums (bP (u % 10) e9 nm)) : Value) = .string (ByteArray.mk #[49, 97])) ∧ (((yV (u % 10) e9 d1) : Int) = d1) ∧ (((yU (u % 10) e9 d2) : Int) = d2) ∧ (((yT (u % 10) e9 d3) : Int) = d3) ∧ (((yS (u % 10) e9 d4) : Int) = d4) ∧ (((yR (u % 10) e9 d5) : Int) = d5) ∧ (((kR (aN (u % 10) e9 bs)) : List D) = (kR bs)) ∧ (((ka1 (aN (u % 10) e9 bs)) : Nat) = n)) zk ⟨rfl, (congrArg (fun x9 => Value.string (strOfNums x9)) (show (bP (u % 10) e9 nm) = ([49, 97] : List Int) from (by first | rfl | omega | (rw [hzB]; done) | (rw [hzB]; rfl) | (rw [hzB]; omega) | (rw [hzN]; done) | (rw [hzN]; rfl)))), (by first | rfl | omega | (rw [hzB]; done) | (rw [hzB]; rfl) | (rw [hzB]; omega) | (rw [hzN]; done) | (rw [hzN]; rfl)), (by first | rfl | omega | (rw [hzB]; done) | (rw [hzB]; rfl) | (rw [hzB]; omega) | (rw [hzN]; done) | (rw [hzN]; rfl)), (by first | rfl | omega | (rw [hzB]; done) | (rw [hzB]; rfl) | (rw [hzB]; omega) | (rw [hzN]; done) | (rw [hzN]; rfl)), (by first | rfl | omega | (rw [hzB]; done) | (rw [hzB]; rfl) | (rw [hzB]; omega) | (rw [hzN]; done) | (rw [hzN]; rfl)), (by first | rfl | omega | (rw [hzB]; done) | (rw [hzB]; rfl) | (rw [hzB]; omega) | (rw [hzN]; done) | (rw [hzN]; rfl)), (by first | rfl | omega | (rw [hzB]; done) | (rw [hzB]; rfl) | (rw [hzB]; omega) | (rw [hzN]; done) | (rw [hzN]; rfl)), (by first | rfl | omega | (rw [hzB]; done) | (rw [hzB]; rfl) | (rw [hzB]; omega) | (rw [hzN]; done) | (rw [hzN]; rfl))⟩
                · by_cases hx44 : ((e9 % 4) = 2)
                  · refine zg [.no, .no, .ps, .n2 2 2, .no, .no, .no] [3, 6] [0, 1, 2] (((0 : Int) ≤ (e9 : Int)) ∧ ((0 : Int) < (4 : Int)) ∧ (((e9 % 4) : Int) = 2) ∧ ((2 : Nat) < 4) ∧ ((0 : Nat) + 2 * 1 = 2)) [(3, rV 1 0), (6, rV 2 0)] [(0, some (47, .ds (kR bs))), (1, some (25, .cs [.d (D.lit (.int .u64 id)), .d (D.lit ((.string (ByteArray.mk #[97, 32, 98])))), iC d1, iC d2, iC d3, iC d4, iC d5, .own 0 0 n 4 true])), (2, some (25, .ds [D.lit (.int .u64 0), D.lit (.string { data := #[] }), iD 0, iD 0, iD 0, iD 0, iD 0, qF]))] 4 ⟨zo, zo, (by first | rfl | omega), zo, zo⟩ ?_
                    refine kI [.no, .no] True [(6, rV 2 0)] [(0, some (47, .ds (kR bs))), (2, some (25, .cs [.d (D.lit (.int .u64 id)), .d (D.lit ((.string (ByteArray.mk #[97, 32, 98])))), iC d1, iC d2, iC d3, iC d4, iC d5, .own 0 0 n 4 true]))] 4 trivial ?_
                    refine AW.freeze 0 (l' := [(6, rV 2 0)]) (g' := [(2, some (25, .ds [D.lit (.int .u64 id), D.lit ((.string (ByteArray.mk #[97, 32, 98]))), iD d1, iD d2, iD d3, iD d4, iD d5, D.sl (kR bs) n]))]) rfl (FzS.cons rfl (.same _) FzS.nil) (FzG.to (bc := .cs [.d (D.lit (.int .u64 id)), .d (D.lit ((.string (ByteArray.mk #[97, 32, 98])))), iC d1, iC d2, iC d3, iC d4, iC d5, .own 0 0 n 4 true]) rfl (by rfl) (FzL.cons (.same _) (FzL.cons (.same _) (FzL.cons (.same _) (FzL.cons (.same _) (FzL.cons (.same _) (FzL.cons (.same _) (FzL.cons (.same _) (FzL.cons (@FzC.own 0 ((kR bs) : List D) 0 n 4 true ((kR bs) : List D) bA yX) FzL.nil)))))))) FzG.nil) ?_
                    have hx45 : yV (u % 10) e9 d1 = d1 := if_neg zo
                    have hx46 : yU (u % 10) e9 d2 = d2 := if_neg zo
                    have hx47 : yT (u % 10) e9 d3 = d3 := if_neg zo
                    have hx48 : yS (u % 10) e9 d4 = d4 := if_neg zo
                    have hx49 : yR (u % 10) e9 d5 = d5 := if_neg zo
                    have hzN : bP (u % 10) e9 nm = ka0 xpT 2 [] := (if_pos (by omega)).trans (by rw [show kg0 (e9 % 4) = 2 by omega])
                    have hzB : aN (u % 10) e9 bs = bs := (if_neg (by omega)).trans (if_neg (by omega))
                    refine AW.ret ?_
                    exact kC (.inr rfl) [] (P := (kN id) ∧ ((.string (strOfNums (bP (u % 10) e9 nm)) : Value) = .string (ByteArray.mk #[97, 32, 98])) ∧ (((yV (u % 10) e9 d1) : Int) = d1) ∧ (((yU (u % 10) e9 d2) : Int) = d2) ∧ (((yT (u % 10) e9 d3) : Int) = d3) ∧ (((yS (u % 10) e9 d4) : Int) = d4) ∧ (((yR (u % 10) e9 d5) : Int) = d5) ∧ (((kR (aN (u % 10) e9 bs)) : List D) = (kR bs)) ∧ (((ka1 (aN (u % 10) e9 bs)) : Nat) = n)) zk ⟨rfl, (congrArg (fun x9 => Value.string (strOfNums x9)) (show (bP (u % 10) e9 nm) = ([97, 32, 98] : List Int) from (by first | rfl | omega | (rw [hzB]; done) | (rw [hzB]; rfl) | (rw [hzB]; omega) | (rw [hzN]; done) | (rw [hzN]; rfl)))), (by first | rfl | omega | (rw [hzB]; done) | (rw [hzB]; rfl) | (rw [hzB]; omega) | (rw [hzN]; done) | (rw [hzN]; rfl)), (by first | rfl | omega | (rw [hzB]; done) | (rw [hzB]; rfl) | (rw [hzB]; omega) | (rw [hzN]; done) | (rw [hzN]; rfl)), (by first | rfl | omega | (rw [hzB]; done) | (rw [hzB]; rfl) | (rw [hzB]; omega) | (rw [hzN]; done) | (rw [hzN]; rfl)), (by first | rfl | omega | (rw [hzB]; done) | (rw [hzB]; rfl) | (rw [hzB]; omega) | (rw [hzN]; done) | (rw [hzN]; rfl)), (by first | rfl | omega | (rw [hzB]; done) | (rw [hzB]; rfl) | (rw [hzB]; omega) | (rw [hzN]; done) | (rw [hzN]; rfl)), (by first | rfl | omega | (rw [hzB]; done) | (rw [hzB]; rfl) | (rw [hzB]; omega) | (rw [hzN]; done) | (rw [hzN]; rfl)), (by first | rfl | omega | (rw [hzB]; done) | (rw [hzB]; rfl) | (rw [hzB]; omega) | (rw [hzN]; done) | (rw [hzN]; rfl))⟩
                  · refine zg [.no, .no, .ps, .n2 3 3, .no, .no, .no] [3, 6] [0, 1, 2] (((0 : Int) ≤ (e9 : Int)) ∧ ((0 : Int) < (4 : Int)) ∧ (((e9 % 4) : Int) = 3) ∧ ((3 : Nat) < 4) ∧ ((0 : Nat) + 3 * 1 = 3)) [(3, rV 1 0), (6, rV 2 0)] [(0, some (47, .ds (kR bs))), (1, some (25, .cs [.d (D.lit (.int .u64 id)), .d (D.lit ((.string (ByteArray.mk #[120])))), iC d1, iC d2, iC d3, iC d4, iC d5, .own 0 0 n 4 true])), (2, some (25, .ds [D.lit (.int .u64 0), D.lit (.string { data := #[] }), iD 0, iD 0, iD 0, iD 0, iD 0, qF]))] 4 ⟨zo, zo, (by first | rfl | omega), zo, zo⟩ ?_
                    refine kI [.no, .no] True [(6, rV 2 0)] [(0, some (47, .ds (kR bs))), (2, some (25, .cs [.d (D.lit (.int .u64 id)), .d (D.lit ((.string (ByteArray.mk #[120])))), iC d1, iC d2, iC d3, iC d4, iC d5, .own 0 0 n 4 true]))] 4 trivial ?_
                    refine AW.freeze 0 (l' := [(6, rV 2 0)]) (g' := [(2, some (25, .ds [D.lit (.int .u64 id), D.lit ((.string (ByteArray.mk #[120]))), iD d1, iD d2, iD d3, iD d4, iD d5, D.sl (kR bs) n]))]) rfl (FzS.cons rfl (.same _) FzS.nil) (FzG.to (bc := .cs [.d (D.lit (.int .u64 id)), .d (D.lit ((.string (ByteArray.mk #[120])))), iC d1, iC d2, iC d3, iC d4, iC d5, .own 0 0 n 4 true]) rfl (by rfl) (FzL.cons (.same _) (FzL.cons (.same _) (FzL.cons (.same _) (FzL.cons (.same _) (FzL.cons (.same _) (FzL.cons (.same _) (FzL.cons (.same _) (FzL.cons (@FzC.own 0 ((kR bs) : List D) 0 n 4 true ((kR bs) : List D) bA yX) FzL.nil)))))))) FzG.nil) ?_
                    have hx50 : yV (u % 10) e9 d1 = d1 := if_neg zo
                    have hx51 : yU (u % 10) e9 d2 = d2 := if_neg zo
                    have hx52 : yT (u % 10) e9 d3 = d3 := if_neg zo
                    have hx53 : yS (u % 10) e9 d4 = d4 := if_neg zo
                    have hx54 : yR (u % 10) e9 d5 = d5 := if_neg zo
                    have hzN : bP (u % 10) e9 nm = ka0 xpT 3 [] := (if_pos (by omega)).trans (by rw [show kg0 (e9 % 4) = 3 by omega])
                    have hzB : aN (u % 10) e9 bs = bs := (if_neg (by omega)).trans (if_neg (by omega))
                    refine AW.ret ?_
                    exact kC (.inr rfl) [] (P := (kN id) ∧ ((.string (strOfNums (bP (u % 10) e9 nm)) : Value) = .string (ByteArray.mk #[120])) ∧ (((yV (u % 10) e9 d1) : Int) = d1) ∧ (((yU (u % 10) e9 d2) : Int) = d2) ∧ (((yT (u % 10) e9 d3) : Int) = d3) ∧ (((yS (u % 10) e9 d4) : Int) = d4) ∧ (((yR (u % 10) e9 d5) : Int) = d5) ∧ (((kR (aN (u % 10) e9 bs)) : List D) = (kR bs)) ∧ (((ka1 (aN (u % 10) e9 bs)) : Nat) = n)) zk ⟨rfl, (congrArg (fun x9 => Value.string (strOfNums x9)) (show (bP (u % 10) e9 nm) = ([120] : List Int) from (by first | rfl | omega | (rw [hzB]; done) | (rw [hzB]; rfl) | (rw [hzB]; omega) | (rw [hzN]; done) | (rw [hzN]; rfl)))), (by first | rfl | omega | (rw [hzB]; done) | (rw [hzB]; rfl) | (rw [hzB]; omega) | (rw [hzN]; done) | (rw [hzN]; rfl)), (by first | rfl | omega | (rw [hzB]; done) | (rw [hzB]; rfl) | (rw [hzB]; omega) | (rw [hzN]; done) | (rw [hzN]; rfl)), (by first | rfl | omega | (rw [hzB]; done) | (rw [hzB]; rfl) | (rw [hzB]; omega) | (rw [hzN]; done) | (rw [hzN]; rfl)), (by first | rfl | omega | (rw [hzB]; done) | (rw [hzB]; rfl) | (rw [hzB]; omega) | (rw [hzN]; done) | (rw [hzN]; rfl)), (by first | rfl | omega | (rw [hzB]; done) | (rw [hzB]; rfl) | (rw [hzB]; omega) | (rw [hzN]; done) | (rw [hzN]; rfl)), (by first | rfl | omega | (rw [hzB]; done) | (rw [hzB]; rfl) | (rw [hzB]; omega) | (rw [hzN]; done) | (rw [hzN]; rfl)), (by first | rfl | omega | (rw [hzB]; done) | (rw [hzB]; rfl) | (rw [hzB]; omega) | (rw [hzN]; done) | (rw [hzN]; rfl))⟩
            · refine zr [.b false, .no] [2, 3, 6, 8, 43] [0, 1, 2] (¬ ((u % 10) = 5)) [(2, kS (D.lit (.int .u8 e9))), (3, rV 1 0), (6, rV 2 0), (8, kS (D.lit (.int .u8 (u % 10)))), (43, bV false)] [(0, some (47, .ds (kR bs))), (1, some (25, .cs [.d (D.lit (.int .u64 id)), .d (D.lit (.string (strOfNums nm))), iC d1, iC d2, iC d3, iC d4, iC d5, .own 0 0 n 4 true])), (2, some (25, .ds [D.lit (.int .u64 0), D.lit (.string { data := #[] }), iD 0, iD 0, iD 0, iD 0, iD 0, qF]))] 3 zo ?_
              refine zf ?_
              by_cases hx55 : ((u % 10) = 6)
              · refine zr [.b true, .no] [2, 3, 6, 8, 51] [0, 1, 2] (((u % 10) = 6)) [(2, kS (D.lit (.int .u8 e9))), (3, rV 1 0), (6, rV 2 0), (8, kS (D.lit (.int .u8 (u % 10)))), (51, bV true)] [(0, some (47, .ds (kR bs))), (1, some (25, .cs [.d (D.lit (.int .u64 id)), .d (D.lit (.string (strOfNums nm))), iC d1, iC d2, iC d3, iC d4, iC d5, .own 0 0 n 4 true])), (2, some (25, .ds [D.lit (.int .u64 0), D.lit (.string { data := #[] }), iD 0, iD 0, iD 0, iD 0, iD 0, qF]))] 3 zo ?_
                refine zt ?_
                refine v7 [.no, .no] True [(3, rV 1 0), (6, rV 2 0)] [(0, some (47, .ds (kR bs))), (1, some (25, .ds [D.lit (.int .u64 id), D.lit (.string (strOfNums nm)), iD d1, iD d2, iD d3, iD d4, iD d5, qF])), (2, some (25, .ds [D.lit (.int .u64 0), D.lit (.string { data := #[] }), iD 0, iD 0, iD 0, iD 0, iD 0, qF]))] 3 trivial ?_
                refine kI [.no, .no] True [(6, rV 2 0)] [(0, some (47, .ds (kR bs))), (2, some (25, .ds [D.lit (.int .u64 id), D.lit (.string (strOfNums nm)), iD d1, iD d2, iD d3, iD d4, iD d5, qF]))] 3 trivial ?_
                refine AW.freeze 0 (l' := [(6, rV 2 0)]) (g' := [(2, some (25, .ds [D.lit (.int .u64 id), D.lit (.string (strOfNums nm)), iD d1, iD d2, iD d3, iD d4, iD d5, qF]))]) rfl (FzS.cons rfl (.same _) FzS.nil) (uP rfl rfl FzG.nil) ?_
                refine aH (l' := [(6, rV 2 0)]) (g' := [(2, some (25, .ds [D.lit (.int .u64 id), D.lit (.string (strOfNums nm)), iD d1, iD d2, iD d3, iD d4, iD d5, D.sl ([] : List D) 0]))]) (NlS.cons rfl (.same _) NlS.nil) (NlG.to (bc := .ds [D.lit (.int .u64 id), D.lit (.string (strOfNums nm)), iD d1, iD d2, iD d3, iD d4, iD d5, qF]) rfl (NlL.cons (.same _) (NlL.cons (.same _) (NlL.cons (.same _) (NlL.cons (.same _) (NlL.cons (.same _) (NlL.cons (.same _) (NlL.cons (.same _) (NlL.cons (.nil) NlL.nil)))))))) NlG.nil) ?_
                have hx56 : yV (u % 10) e9 d1 = d1 := if_neg zo
                have hx57 : yU (u % 10) e9 d2 = d2 := if_neg zo
                have hx58 : yT (u % 10) e9 d3 = d3 := if_neg zo
                have hx59 : yS (u % 10) e9 d4 = d4 := if_neg zo
                have hx60 : yR (u % 10) e9 d5 = d5 := if_neg zo
                have hzN : bP (u % 10) e9 nm = nm := if_neg (by omega)
                have hzB : aN (u % 10) e9 bs = [] := if_pos (by omega)
                refine AW.ret ?_
                exact kC (.inr rfl) [] (P := (kN id) ∧ ((.string (strOfNums (bP (u % 10) e9 nm)) : Value) = .string (strOfNums nm)) ∧ (((yV (u % 10) e9 d1) : Int) = d1) ∧ (((yU (u % 10) e9 d2) : Int) = d2) ∧ (((yT (u % 10) e9 d3) : Int) = d3) ∧ (((yS (u % 10) e9 d4) : Int) = d4) ∧ (((yR (u % 10) e9 d5) : Int) = d5) ∧ (((kR (aN (u % 10) e9 bs)) : List D) = ([] : List D)) ∧ (((ka1 (aN (u % 10) e9 bs)) : Nat) = 0)) zk ⟨rfl, (congrArg (fun x9 => Value.string (strOfNums x9)) (show (bP (u % 10) e9 nm) = nm from (by first | rfl | omega | (rw [hzB]; done) | (rw [hzB]; rfl) | (rw [hzB]; omega) | (rw [hzN]; done) | (rw [hzN]; rfl)))), (by first | rfl | omega | (rw [hzB]; done) | (rw [hzB]; rfl) | (rw [hzB]; omega) | (rw [hzN]; done) | (rw [hzN]; rfl)), (by first | rfl | omega | (rw [hzB]; done) | (rw [hzB]; rfl) | (rw [hzB]; omega) | (rw [hzN]; done) | (rw [hzN]; rfl)), (by first | rfl | omega | (rw [hzB]; done) | (rw [hzB]; rfl) | (rw [hzB]; omega) | (rw [hzN]; done) | (rw [hzN]; rfl)), (by first | rfl | omega | (rw [hzB]; done) | (rw [hzB]; rfl) | (rw [hzB]; omega) | (rw [hzN]; done) | (rw [hzN]; rfl)), (by first | rfl | omega | (rw [hzB]; done) | (rw [hzB]; rfl) | (rw [hzB]; omega) | (rw [hzN]; done) | (rw [hzN]; rfl)), (by first | rfl | omega | (rw [hzB]; done) | (rw [hzB]; rfl) | (rw [hzB]; omega) | (rw [hzN]; done) | (rw [hzN]; rfl)), (by first | rfl | omega | (rw [hzB]; done) | (rw [hzB]; rfl) | (rw [hzB]; omega) | (rw [hzN]; done) | (rw [hzN]; rfl))⟩
              · refine zr [.b false, .no] [2, 3, 6, 8, 51] [0, 1, 2] (¬ ((u % 10) = 6)) [(2, kS (D.lit (.int .u8 e9))), (3, rV 1 0), (6, rV 2 0), (8, kS (D.lit (.int .u8 (u % 10)))), (51, bV false)] [(0, some (47, .ds (kR bs))), (1, some (25, .cs [.d (D.lit (.int .u64 id)), .d (D.lit (.string (strOfNums nm))), iC d1, iC d2, iC d3, iC d4, iC d5, .own 0 0 n 4 true])), (2, some (25, .ds [D.lit (.int .u64 0), D.lit (.string { data := #[] }), iD 0, iD 0, iD 0, iD 0, iD 0, qF]))] 3 zo ?_
                refine zf ?_
                by_cases hx61 : ((u % 10) = 7)
                · refine zr [.b true, .no] [2, 3, 6, 54] [0, 1, 2] (((u % 10) = 7)) [(2, kS (D.lit (.int .u8 e9))), (3, rV 1 0), (6, rV 2 0), (54, bV true)] [(0, some (47, .ds (kR bs))), (1, some (25, .cs [.d (D.lit (.int .u64 id)), .d (D.lit (.string (strOfNums nm))), iC d1, iC d2, iC d3, iC d4, iC d5, .own 0 0 n 4 true])), (2, some (25, .ds [D.lit (.int .u64 0), D.lit (.string { data := #[] }), iD 0, iD 0, iD 0, iD 0, iD 0, qF]))] 3 zo ?_
                  refine zt ?_
                  refine AW.block ?_
                  refine kX 1 hcx (fun (x : {x : Nat × Nat × List Bx // match x with | (j, q, o) => (bs ++ ka5 j (vZ bs 0) = o) ∧ (ka1 o = q ∧ q = n + j ∧ ((q : Int) ≤ 7 + e9 % 3)) ∧ (BsW o)}) => match x with | ⟨(j, q, o), _⟩ => (⟨[(2, kS (D.lit (.int .u8 e9))), (3, rV 1 0), (6, rV 2 0)], [(3, some (47, .ds (kR o))), (1, some (25, .cs [.d (D.lit (.int .u64 id)), .d (D.lit (.string (strOfNums nm))), iC d1, iC d2, iC d3, iC d4, iC d5, .own 3 0 q 4 true])), (2, some (25, .ds [D.lit (.int .u64 0), D.lit (.string { data := #[] }), iD 0, iD 0, iD 0, iD 0, iD 0, qF]))], 4⟩ : ES)) (fun x => match x with | ⟨(j, q, o), _⟩ => 16 - q) ⟨((0 : Nat), (n : Nat), (bs : List Bx)), ⟨(u7l _), ⟨hn, by omega, by omega⟩, hW⟩⟩ [(3, 0)] (P := (kN e9) ∧ (kP 0) ∧ (kP 0) ∧ (kZ (kR bs)) ∧ (kN id) ∧ ((.string (strOfNums nm) : Value) = .string (strOfNums nm)) ∧ (kN d1) ∧ (kN d2) ∧ (kN d3) ∧ (kN d4) ∧ (kN d5) ∧ (kP 0) ∧ (kP n) ∧ (kZ [D.lit (.int .u64 0), D.lit (.string { data := #[] }), iD 0, iD 0, iD 0, iD 0, iD 0, qF])) zk ⟨rfl, rfl, rfl, rfl, rfl, rfl, rfl, rfl, rfl, rfl, rfl, rfl, rfl, rfl⟩ ?_
                  rintro ⟨⟨j, q, o⟩, hinv0⟩
                  obtain ⟨ho, hq, hO⟩ : (bs ++ ka5 j (vZ bs 0) = o) ∧ (ka1 o = q ∧ q = n + j ∧ ((q : Int) ≤ 7 + e9 % 3)) ∧ (BsW o) := hinv0
                  refine qU (l := [(2, kS (D.lit (.int .u8 e9))), (3, rV 1 0), (6, rV 2 0)]) (g := [(3, some (47, .ds (kR o))), (1, some (25, .cs [.d (D.lit (.int .u64 id)), .d (D.lit (.string (strOfNums nm))), iC d1, iC d2, iC d3, iC d4, iC d5, .own 3 0 q 4 true])), (2, some (25, .ds [D.lit (.int .u64 0), D.lit (.string { data := #[] }), iD 0, iD 0, iD 0, iD 0, iD 0, qF]))]) (nx := 4) rfl rfl rfl ?_
                  refine AW.seq ?_
                  by_cases hx62 : (((q : Nat) : Int) < (7 + (e9 % 3)))
                  · refine zr (kJ 4 [.ps, .w, .w, .b true]) [2, 3, 6, 63] [1, 2, 3] (((0 : Int) ≤ (e9 : Int)) ∧ ((0 : Int) < (3 : Int)) ∧ (qJ (e9 % 3)) ∧ (qJ (7 + (e9 % 3))) ∧ (((q : Int) < (7 + (e9 % 3))))) [(2, kS (D.lit (.int .u8 e9))), (3, rV 1 0), (6, rV 2 0), (63, bV true)] [(1, some (25, .cs [.d (D.lit (.int .u64 id)), .d (D.lit (.string (strOfNums nm))), iC d1, iC d2, iC d3, iC d4, iC d5, .own 3 0 q 4 true])), (2, some (25, .ds [D.lit (.int .u64 0), D.lit (.string { data := #[] }), iD 0, iD 0, iD 0, iD 0, iD 0, qF])), (3, some (47, .ds (kR o)))] 4 ⟨zo, zo, ⟨by omega, by omega⟩, ⟨by omega, by omega⟩, zo⟩ ?_
                    refine vD ?_
                    refine AW.block ?_
                    obtain ⟨hx63, hx64, hx65, hx66, hx67⟩ := BsW.at (kQ : BsW o) (0)
                    refine v7 (kJ 4 [.n2 0 0, .ds [iD (vK o 0), dl (vH o 0) (uM o 0), D.sl (kY (kW o 0)) (ka1 (kW o 0)), dl (aG o 0) (yW o 0)], .no, .ap none (q + 1) (kR (o ++ ([(vX (vK o 0) (vH o 0) (uM o 0) (kW o 0) (aG o 0) (yW o 0))] : List Bx))), .no, .no]) ((kN 0) ∧ ((0 : Nat) < q) ∧ ((0 : Nat) + 0 * 4 = 0) ∧ (ka2 4 (ka7 0 (kR o)) = [iD (vK o 0), dl (vH o 0) (uM o 0), D.sl (kY (kW o 0)) (ka1 (kW o 0)), dl (aG o 0) (yW o 0)]) ∧ (([iD (vK o 0), dl (vH o 0) (uM o 0), D.sl (kY (kW o 0)) (ka1 (kW o 0)), dl (aG o 0) (yW o 0)] : List D).length = 4) ∧ ([iD (vK o 0), dl (vH o 0) (uM o 0), D.sl (kY (kW o 0)) (ka1 (kW o 0)), dl (aG o 0) (yW o 0)].length = 1 * 4) ∧ (((kR o) : List D).length = q * 4) ∧ ((q + 1) * 80 ≤ 140737488355328) ∧ (q + 1 = (q + 1)) ∧ (((kR o) : List D) ++ [iD (vK o 0), dl (vH o 0) (uM o 0), D.sl (kY (kW o 0)) (ka1 (kW o 0)), dl (aG o 0) (yW o 0)] = (kR (o ++ ([(vX (vK o 0) (vH o 0) (uM o 0) (kW o 0) (aG o 0) (yW o 0))] : List Bx))))) [(2, kS (D.lit (.int .u8 e9))), (3, rV 1 0), (6, rV 2 0)] [(1, some (25, .cs [.d (D.lit (.int .u64 id)), .d (D.lit (.string (strOfNums nm))), iC d1, iC d2, iC d3, iC d4, iC d5, .own 5 0 (q + 1) 4 true])), (2, some (25, .ds [D.lit (.int .u64 0), D.lit (.string { data := #[] }), iD 0, iD 0, iD 0, iD 0, iD 0, qF])), (5, some (47, .ds (kR (o ++ ([(vX (vK o 0) (vH o 0) (uM o 0) (kW o 0) (aG o 0) (yW o 0))] : List Bx)))))] 6 ⟨rfl, zo, zo, (mL (i := 0) wZ), rfl, yX, yX, zo, zo, (jY o (vK o 0) (vH o 0) (uM o 0) (kW o 0) (ka1 (kW o 0)) (aG o 0) (yW o 0) (by first | rfl | omega))⟩ ?_
                    exact qE ⟨(((j + 1) : Nat), ((q + 1) : Nat), ((o ++ ([(vX (vK o 0) (vH o 0) (uM o 0) (kW o 0) (aG o 0) (yW o 0))] : List Bx)) : List Bx)), ⟨(u7j zo ho), (by first | omega | (simp only [kU, kT, pbL_len, qD, qB, u1, ka3, kb1, kb5] <;> omega)), (by first | assumption | exact hO.app (BsW.one (BsW.box hO 0)))⟩⟩ [(3, 5)] (P := (kN e9) ∧ (kP 0) ∧ (kP 0) ∧ (kZ (kR (o ++ ([(vX (vK o 0) (vH o 0) (uM o 0) (kW o 0) (aG o 0) (yW o 0))] : List Bx)))) ∧ (kN id) ∧ ((.string (strOfNums nm) : Value) = .string (strOfNums nm)) ∧ (kN d1) ∧ (kN d2) ∧ (kN d3) ∧ (kN d4) ∧ (kN d5) ∧ (kP 0) ∧ (kP (q + 1)) ∧ (kZ [D.lit (.int .u64 0), D.lit (.string { data := #[] }), iD 0, iD 0, iD 0, iD 0, iD 0, qF])) zk ⟨rfl, rfl, rfl, rfl, rfl, rfl, rfl, rfl, rfl, rfl, rfl, rfl, rfl, rfl⟩ (show 16 - (q + 1) < 16 - q from (by first | omega | (show _ < _; simp; omega)))
                  · refine zr (kJ 4 [.ps, .w, .w, .b false]) [2, 3, 6, 63] [1, 2, 3] (((0 : Int) ≤ (e9 : Int)) ∧ ((0 : Int) < (3 : Int)) ∧ (qJ (e9 % 3)) ∧ (qJ (7 + (e9 % 3))) ∧ (¬ ((q : Int) < (7 + (e9 % 3))))) [(2, kS (D.lit (.int .u8 e9))), (3, rV 1 0), (6, rV 2 0), (63, bV false)] [(1, some (25, .cs [.d (D.lit (.int .u64 id)), .d (D.lit (.string (strOfNums nm))), iC d1, iC d2, iC d3, iC d4, iC d5, .own 3 0 q 4 true])), (2, some (25, .ds [D.lit (.int .u64 0), D.lit (.string { data := #[] }), iD 0, iD 0, iD 0, iD 0, iD 0, qF])), (3, some (47, .ds (kR o)))] 4 ⟨zo, zo, ⟨by omega, by omega⟩, ⟨by omega, by omega⟩, zo⟩ ?_
                    refine zf ?_
                    refine AW.exit ?_
                    refine kI [.no, .no] True [(6, rV 2 0)] [(2, some (25, .cs [.d (D.lit (.int .u64 id)), .d (D.lit (.string (strOfNums nm))), iC d1, iC d2, iC d3, iC d4, iC d5, .own 3 0 q 4 true])), (3, some (47, .ds (kR o)))] 4 trivial ?_
                    refine AW.freeze 3 (l' := [(6, rV 2 0)]) (g' := [(2, some (25, .ds [D.lit (.int .u64 id), D.lit (.string (strOfNums nm)), iD d1, iD d2, iD d3, iD d4, iD d5, D.sl (kR o) q]))]) rfl (FzS.cons rfl (.same _) FzS.nil) (FzG.to (bc := .cs [.d (D.lit (.int .u64 id)), .d (D.lit (.string (strOfNums nm))), iC d1, iC d2, iC d3, iC d4, iC d5, .own 3 0 q 4 true]) rfl (by rfl) (FzL.cons (.same _) (FzL.cons (.same _) (FzL.cons (.same _) (FzL.cons (.same _) (FzL.cons (.same _) (FzL.cons (.same _) (FzL.cons (.same _) (FzL.cons (@FzC.own 3 ((kR o) : List D) 0 q 4 true ((kR o) : List D) bA yX) FzL.nil)))))))) FzG.nil) ?_
                    have hx68 : yV (u % 10) e9 d1 = d1 := if_neg zo
                    have hx69 : yU (u % 10) e9 d2 = d2 := if_neg zo
                    have hx70 : yT (u % 10) e9 d3 = d3 := if_neg zo
                    have hx71 : yS (u % 10) e9 d4 = d4 := if_neg zo
                    have hx72 : yR (u % 10) e9 d5 = d5 := if_neg zo
                    have hzN : bP (u % 10) e9 nm = nm := if_neg (by omega)
                    have hzB : aN (u % 10) e9 bs = o := ((if_neg (by omega)).trans (if_pos (by omega))).trans (by rw [← ho, show 7 + kg0 (e9 % 3) - bs.length = j by omega])
                    refine AW.ret ?_
                    exact kC (.inr rfl) [] (P := (kN id) ∧ ((.string (strOfNums (bP (u % 10) e9 nm)) : Value) = .string (strOfNums nm)) ∧ (((yV (u % 10) e9 d1) : Int) = d1) ∧ (((yU (u % 10) e9 d2) : Int) = d2) ∧ (((yT (u % 10) e9 d3) : Int) = d3) ∧ (((yS (u % 10) e9 d4) : Int) = d4) ∧ (((yR (u % 10) e9 d5) : Int) = d5) ∧ (((kR (aN (u % 10) e9 bs)) : List D) = (kR o)) ∧ (((ka1 (aN (u % 10) e9 bs)) : Nat) = q)) zk ⟨rfl, (congrArg (fun x9 => Value.string (strOfNums x9)) (show (bP (u % 10) e9 nm) = nm from (by first | rfl | omega | (rw [hzB]; done) | (rw [hzB]; rfl) | (rw [hzB]; omega) | (rw [hzN]; done) | (rw [hzN]; rfl)))), (by first | rfl | omega | (rw [hzB]; done) | (rw [hzB]; rfl) | (rw [hzB]; omega) | (rw [hzN]; done) | (rw [hzN]; rfl)), (by first | rfl | omega | (rw [hzB]; done) | (rw [hzB]; rfl) | (rw [hzB]; omega) | (rw [hzN]; done) | (rw [hzN]; rfl)), (by first | rfl | omega | (rw [hzB]; done) | (rw [hzB]; rfl) | (rw [hzB]; omega) | (rw [hzN]; done) | (rw [hzN]; rfl)), (by first | rfl | omega | (rw [hzB]; done) | (rw [hzB]; rfl) | (rw [hzB]; omega) | (rw [hzN]; done) | (rw [hzN]; rfl)), (by first | rfl | omega | (rw [hzB]; done) | (rw [hzB]; rfl) | (rw [hzB]; omega) | (rw [hzN]; done) | (rw [hzN]; rfl)), (by first | rfl | omega | (rw [hzB]; done) | (rw [hzB]; rfl) | (rw [hzB]; omega) | (rw [hzN]; done) | (rw [hzN]; rfl)), (by first | rfl | omega | (rw [hzB]; done) | (rw [hzB]; rfl) | (rw [hzB]; omega) | (rw [hzN]; done) | (rw [hzN]; rfl))⟩
                · refine zr [.b false, .no] [2, 3, 6, 54] [0, 1, 2] (¬ ((u % 10) = 7)) [(2, kS (D.lit (.int .u8 e9))), (3, rV 1 0), (6, rV 2 0), (54, bV false)] [(0, some (47, .ds (kR bs))), (1, some (25, .cs [.d (D.lit (.int .u64 id)), .d (D.lit (.string (strOfNums nm))), iC d1, iC d2, iC d3, iC d4, iC d5, .own 0 0 n 4 true])), (2, some (25, .ds [D.lit (.int .u64 0), D.lit (.string { data := #[] }), iD 0, iD 0, iD 0, iD 0, iD 0, qF]))] 3 zo ?_
                  refine yC ?_
                  refine kI [.no, .no] True [(6, rV 2 0)] [(0, some (47, .ds (kR bs))), (2, some (25, .cs [.d (D.lit (.int .u64 id)), .d (D.lit (.string (strOfNums nm))), iC d1, iC d2, iC d3, iC d4, iC d5, .own 0 0 n 4 true]))] 3 trivial ?_
                  refine AW.freeze 0 (l' := [(6, rV 2 0)]) (g' := [(2, some (25, .ds [D.lit (.int .u64 id), D.lit (.string (strOfNums nm)), iD d1, iD d2, iD d3, iD d4, iD d5, D.sl (kR bs) n]))]) rfl (FzS.cons rfl (.same _) FzS.nil) (FzG.to (bc := .cs [.d (D.lit (.int .u64 id)), .d (D.lit (.string (strOfNums nm))), iC d1, iC d2, iC d3, iC d4, iC d5, .own 0 0 n 4 true]) rfl (by rfl) (FzL.cons (.same _) (FzL.cons (.same _) (FzL.cons (.same _) (FzL.cons (.same _) (FzL.cons (.same _) (FzL.cons (.same _) (FzL.cons (.same _) (FzL.cons (@FzC.own 0 ((kR bs) : List D) 0 n 4 true ((kR bs) : List D) bA yX) FzL.nil)))))))) FzG.nil) ?_
                  have hx73 : yV (u % 10) e9 d1 = d1 := if_neg zo
                  have hx74 : yU (u % 10) e9 d2 = d2 := if_neg zo
                  have hx75 : yT (u % 10) e9 d3 = d3 := if_neg zo
                  have hx76 : yS (u % 10) e9 d4 = d4 := if_neg zo
                  have hx77 : yR (u % 10) e9 d5 = d5 := if_neg zo
                  have hzN : bP (u % 10) e9 nm = nm := if_neg (by omega)
                  have hzB : aN (u % 10) e9 bs = bs := (if_neg (by omega)).trans (if_neg (by omega))
                  refine AW.ret ?_
                  exact kC (.inr rfl) [] (P := (kN id) ∧ ((.string (strOfNums (bP (u % 10) e9 nm)) : Value) = .string (strOfNums nm)) ∧ (((yV (u % 10) e9 d1) : Int) = d1) ∧ (((yU (u % 10) e9 d2) : Int) = d2) ∧ (((yT (u % 10) e9 d3) : Int) = d3) ∧ (((yS (u % 10) e9 d4) : Int) = d4) ∧ (((yR (u % 10) e9 d5) : Int) = d5) ∧ (((kR (aN (u % 10) e9 bs)) : List D) = (kR bs)) ∧ (((ka1 (aN (u % 10) e9 bs)) : Nat) = n)) zk ⟨rfl, (congrArg (fun x9 => Value.string (strOfNums x9)) (show (bP (u % 10) e9 nm) = nm from (by first | rfl | omega | (rw [hzB]; done) | (rw [hzB]; rfl) | (rw [hzB]; omega) | (rw [hzN]; done) | (rw [hzN]; rfl)))), (by first | rfl | omega | (rw [hzB]; done) | (rw [hzB]; rfl) | (rw [hzB]; omega) | (rw [hzN]; done) | (rw [hzN]; rfl)), (by first | rfl | omega | (rw [hzB]; done) | (rw [hzB]; rfl) | (rw [hzB]; omega) | (rw [hzN]; done) | (rw [hzN]; rfl)), (by first | rfl | omega | (rw [hzB]; done) | (rw [hzB]; rfl) | (rw [hzB]; omega) | (rw [hzN]; done) | (rw [hzN]; rfl)), (by first | rfl | omega | (rw [hzB]; done) | (rw [hzB]; rfl) | (rw [hzB]; omega) | (rw [hzN]; done) | (rw [hzN]; rfl)), (by first | rfl | omega | (rw [hzB]; done) | (rw [hzB]; rfl) | (rw [hzB]; omega) | (rw [hzN]; done) | (rw [hzN]; rfl)), (by first | rfl | omega | (rw [hzB]; done) | (rw [hzB]; rfl) | (rw [hzB]; omega) | (rw [hzN]; done) | (rw [hzN]; rfl)), (by first | rfl | omega | (rw [hzB]; done) | (rw [hzB]; rfl) | (rw [hzB]; omega) | (rw [hzN]; done) | (rw [hzN]; rfl))⟩
end Go.Proofs.Ytdbjebdomdnbkaa
