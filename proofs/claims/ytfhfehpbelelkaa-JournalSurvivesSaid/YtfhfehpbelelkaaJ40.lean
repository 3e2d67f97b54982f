/- Journals. No statement is proved here. -/
import Derived.Test.YtfhfehpbelelkaaLWi
namespace Go.Proofs.Ytfhfehpbelelkaa
open Go.ChangeShapes Go.WideShapes Go.ChangeAt Go.RowKit
set_option linter.unusedVariables false
set_option linter.unusedSimpArgs false


/-! journals -/
/-- the hash of a frame with record r, after hash h -/
def hfF (h : Int) (r : List Int) : Int := hvF (pbL h 8 ++ pbL ((r.length : Nat) : Int) 2 ++ r)
theorem hfF_rng (h : Int) (r : List Int) : 0 ≤ hfF h r ∧ hfF h r ≤ 18446744073709551615 := hvF_rng _
def jnN (b : List Int) : Nat := (g16 b 0).toNat
def jnR (b : List Int) : List Int := List.take (jnN b) (List.drop 2 b)
def jnH (b : List Int) : Int := g64 b (2 + jnN b)
def jnE (b : List Int) (h : Int) : Int := if b.length < 10 then 4 else if 4096 < g16 b 0 then 3 else if b.length < jnN b + 10 then 4 else if g64 b (2 + jnN b) = hfF h (jnR b) then 0 else 6
theorem jn_cases {b : List Int} {m : Nat} (hm : b.length = m) (hb : Byt b) (h : Int) : (m < 10 ∧ jnE b h = 4) ∨ (10 ≤ m ∧ (0 ≤ g16 b 0 ∧ g16 b 0 ≤ 65535) ∧ ((jnN b : Nat) : Int) = g16 b 0 ∧ ((4096 < g16 b 0 ∧ jnE b h = 3) ∨ (g16 b 0 ≤ 4096 ∧ ((m < jnN b + 10 ∧ jnE b h = 4) ∨ (jnN b + 10 ≤ m ∧ ((jnH b = hfF h (jnR b) ∧ jnE b h = 0) ∨ (¬ jnH b = hfF h (jnR b) ∧ jnE b h = 6))))))) := by
  subst hm
  by_cases h1 : b.length < 10
  · exact .inl ⟨h1, if_pos h1⟩
  right
  have hg := g16_rng hb (a := 0) (by omega)
  refine ⟨by omega, hg, by unfold jnN; omega, ?_⟩
  by_cases h2 : 4096 < g16 b 0
  · exact .inl ⟨h2, by unfold jnE; rw [if_neg h1, if_pos h2]⟩
  right
  refine ⟨by omega, ?_⟩
  by_cases h3 : b.length < jnN b + 10
  · exact .inl ⟨h3, by unfold jnE; rw [if_neg h1, if_neg h2, if_pos h3]⟩
  right
  refine ⟨by omega, ?_⟩
  unfold jnH
  by_cases h4 : g64 b (2 + jnN b) = hfF h (jnR b)
  · exact .inl ⟨h4, by unfold jnE; rw [if_neg h1, if_neg h2, if_neg h3, if_pos h4]⟩
  · exact .inr ⟨h4, by unfold jnE; rw [if_neg h1, if_neg h2, if_neg h3, if_neg h4]⟩
theorem jnR_len {b : List Int} (h : jnN b + 10 ≤ b.length) : (jnR b).length = jnN b := by unfold jnR; rw [List.length_take, List.length_drop]; omega
theorem jnR_byt {b : List Int} (h : Byt b) : Byt (jnR b) := (h.drop 2).take _
theorem jnH_rng {b : List Int} (h : Byt b) (h2 : jnN b + 10 ≤ b.length) : 0 ≤ jnH b ∧ jnH b ≤ 18446744073709551615 := g64_rng h (by omega)
structure JR where
  rs : List (List Int)
  u : Nat
  h : Int
  e : Int
/-- the records of a journal, how many bytes they are, the last hash, and why it ends -/
def jaG : Nat → List Int → Int → JR
  | 0, _, h => ⟨[], 0, h, 0⟩
  | f + 1, b, h => if b.length = 0 then ⟨[], 0, h, 0⟩ else if jnE b h = 0 then ⟨jnR b :: (jaG f (List.drop (jnN b + 10) b) (jnH b)).rs, jnN b + 10 + (jaG f (List.drop (jnN b + 10) b) (jnH b)).u, (jaG f (List.drop (jnN b + 10) b) (jnH b)).h, (jaG f (List.drop (jnN b + 10) b) (jnH b)).e⟩ else ⟨[], 0, h, jnE b h⟩
theorem jaG_fuel : ∀ (f g : Nat) (b : List Int) (h : Int), b.length ≤ f → b.length ≤ g → jaG f b h = jaG g b h
  | 0, 0, _, _, _, _ => rfl
  | 0, g + 1, b, h, h1, _ => by
    show _ = (if _ then _ else _)
    rw [if_pos (by omega)]; rfl
  | f + 1, 0, b, h, _, h2 => by
    show (if _ then _ else _) = _
    rw [if_pos (by omega)]; rfl
  | f + 1, g + 1, b, h, h1, h2 => by
    show (if b.length = 0 then _ else _) = (if b.length = 0 then _ else _)
    by_cases h0 : b.length = 0
    · rw [if_pos h0, if_pos h0]
    · rw [if_neg h0, if_neg h0]
      have e := jaG_fuel f g (List.drop (jnN b + 10) b) (jnH b) (by rw [List.length_drop]; omega) (by rw [List.length_drop]; omega)
      rw [e]
theorem jaG_z {b : List Int} (h0 : b.length = 0) (f : Nat) (h : Int) : jaG f b h = ⟨[], 0, h, 0⟩ := by
  rw [jaG_fuel f 0 b h (by omega) (by omega)]; rfl
theorem jaG_s {b : List Int} {h : Int} (h0 : 0 < b.length) (h1 : jnE b h = 0) {f : Nat} (hf : b.length ≤ f) {r : JR} (hr : jaG f (List.drop (jnN b + 10) b) (jnH b) = r) : jaG f b h = ⟨jnR b :: r.rs, jnN b + 10 + r.u, r.h, r.e⟩ := by
  subst hr
  rw [jaG_fuel f (f + 1) b h hf (by omega)]
  show (if b.length = 0 then _ else _) = _
  rw [if_neg (by omega), if_pos h1]
theorem jaG_e {b : List Int} {h : Int} (h0 : 0 < b.length) (h1 : ¬ jnE b h = 0) {f : Nat} (hf : b.length ≤ f) : jaG f b h = ⟨[], 0, h, jnE b h⟩ := by
  rw [jaG_fuel f (f + 1) b h hf (by omega)]
  show (if b.length = 0 then _ else _) = _
  rw [if_neg (by omega), if_neg h1]
def jaV (b : List Int) : JR := jaG b.length b 0
def jaRs (b : List Int) : List (List Int) := (jaV b).rs
def jaU (b : List Int) : Nat := (jaV b).u
def jaH (b : List Int) : Int := (jaV b).h
def jaE (b : List Int) : Int := (jaV b).e
/-- what holds after some records were read -/
structure JSt (b : List Int) (rs : List (List Int)) (u : Nat) (h : Int) : Prop where
  hu : u ≤ b.length
  ev : ∀ f, b.length - u ≤ f → jaV b = ⟨rs ++ (jaG f (List.drop u b) h).rs, u + (jaG f (List.drop u b) h).u, (jaG f (List.drop u b) h).h, (jaG f (List.drop u b) h).e⟩
  hb : BytL rs
  hr : 0 ≤ h ∧ h ≤ 18446744073709551615
theorem JSt.zero (b : List Int) : JSt b [] 0 0 where
  hu := Nat.zero_le _
  ev := fun f hf => by
    unfold jaV
    rw [jaG_fuel b.length f b 0 (Nat.le_refl _) (by omega), List.drop_zero, Nat.zero_add]; rfl
  hb := BytL.nil
  hr := by omega
theorem JSt.step {b : List Int} {rs : List (List Int)} {u : Nat} {h : Int} (hb : Byt b) (s : JSt b rs u h) (h0 : u < b.length) (h1 : jnE (List.drop u b) h = 0) : JSt b (rs ++ [jnR (List.drop u b)]) (u + (10 + jnN (List.drop u b))) (jnH (List.drop u b)) := by
  have hl : (List.drop u b).length = b.length - u := List.length_drop
  have hc := jn_cases hl (hb.drop u) h
  have hn : jnN (List.drop u b) + 10 ≤ b.length - u := by omega
  refine ⟨by omega, fun f hf => ?_, s.hb.snoc (jnR_byt (hb.drop u)), jnH_rng (hb.drop u) (by omega)⟩
  have e := s.ev (f + 10 + jnN (List.drop u b)) (by omega)
  rw [e, jaG_s (by omega) h1 (by omega) rfl, List.drop_drop, jaG_fuel (f + 10 + jnN (List.drop u b)) f (List.drop (u + (jnN (List.drop u b) + 10)) b) _ (by rw [List.length_drop]; omega) (by rw [List.length_drop]; omega), show u + (jnN (List.drop u b) + 10) = u + (10 + jnN (List.drop u b)) by omega]
  simp only [List.append_assoc, List.singleton_append, JR.mk.injEq, true_and, and_true]
  omega
theorem JSt.fin_e {b : List Int} {rs : List (List Int)} {u : Nat} {h : Int} (s : JSt b rs u h) (h0 : u < b.length) (h1 : ¬ jnE (List.drop u b) h = 0) : jaRs b = rs ∧ jaU b = u ∧ jaH b = h ∧ jaE b = jnE (List.drop u b) h := by
  have e := s.ev (b.length - u) (Nat.le_refl _)
  rw [jaG_e (by rw [List.length_drop]; omega) h1 (by rw [List.length_drop]; omega)] at e
  unfold jaRs jaU jaH jaE
  rw [e]
  exact ⟨List.append_nil _, rfl, rfl, rfl⟩
theorem JSt.fin_z {b : List Int} {rs : List (List Int)} {u : Nat} {h : Int} (s : JSt b rs u h) (h0 : ¬ u < b.length) : jaRs b = rs ∧ jaU b = u ∧ jaH b = h ∧ jaE b = 0 := by
  have e := s.ev (b.length - u) (Nat.le_refl _)
  rw [jaG_z (by rw [List.length_drop]; omega)] at e
  unfold jaRs jaU jaH jaE
  rw [e]
  exact ⟨List.append_nil _, rfl, rfl, rfl⟩
theorem jaG_u : ∀ (f : Nat) (b : List Int) (h : Int), Byt b → 0 ≤ h ∧ h ≤ 18446744073709551615 → (jaG f b h).u ≤ b.length ∧ (0 ≤ (jaG f b h).h ∧ (jaG f b h).h ≤ 18446744073709551615) ∧ BytL (jaG f b h).rs ∧ (0 ≤ (jaG f b h).e ∧ (jaG f b h).e ≤ 6)
  | 0, b, h, _, hh => ⟨Nat.zero_le _, hh, BytL.nil, by show (0 : Int) ≤ 0 ∧ (0 : Int) ≤ 6; omega⟩
  | f + 1, b, h, hb, hh => by
    have hc := jn_cases rfl hb h
    by_cases h0 : b.length = 0
    · rw [jaG_z h0]; exact ⟨Nat.zero_le _, hh, BytL.nil, by show (0 : Int) ≤ 0 ∧ (0 : Int) ≤ 6; omega⟩
    · unfold jaG
      rw [if_neg h0]
      by_cases h1 : jnE b h = 0
      · rw [if_pos h1]
        have hn : jnN b + 10 ≤ b.length := by omega
        obtain ⟨i1, i2, i3, i4⟩ := jaG_u f (List.drop (jnN b + 10) b) (jnH b) (hb.drop _) (jnH_rng hb hn)
        rw [List.length_drop] at i1
        refine ⟨by show _ + _ ≤ _; omega, i2, ?_, i4⟩
        intro l hl
        rcases List.mem_cons.1 hl with rfl | hl
        · exact jnR_byt hb
        · exact i3 l hl
      · rw [if_neg h1]
        exact ⟨Nat.zero_le _, hh, BytL.nil, by show 0 ≤ jnE b h ∧ jnE b h ≤ 6; omega⟩
theorem ja_in {b : List Int} {m : Nat} (hm : b.length = m) (hb : Byt b) : jaU b ≤ m ∧ (0 ≤ jaH b ∧ jaH b ≤ 18446744073709551615) ∧ (0 ≤ jaE b ∧ jaE b ≤ 6) := by
  subst hm
  obtain ⟨h1, h2, h3, h4⟩ := jaG_u b.length b 0 hb (by omega)
  exact ⟨h1, h2, h4⟩
theorem ja_byt {b : List Int} (hb : Byt b) : BytL (jaRs b) := (jaG_u b.length b 0 hb (by omega)).2.2.1
/-- the frame of a record after a hash -/
def frL (h : Int) (r : List Int) : List Int := pbL ((r.length : Nat) : Int) 2 ++ r ++ pbL (hfF h r) 8
/-- b is a journal of whole frames with these records and this last hash -/
structure JOK (b : List Int) (rs : List (List Int)) (h : Int) : Prop where
  ev : jaV b = ⟨rs, b.length, h, 0⟩
  hb : Byt b
theorem JOK.nil : JOK [] [] 0 := ⟨rfl, Byt.nil⟩
theorem JOK.fin {b : List Int} {rs : List (List Int)} {h : Int} (s : JOK b rs h) : jaRs b = rs ∧ jaU b = b.length ∧ jaH b = h ∧ jaE b = 0 := by
  unfold jaRs jaU jaH jaE; rw [s.ev]; exact ⟨rfl, rfl, rfl, rfl⟩
theorem div_mod_64 {n : Int} (h : 0 ≤ n ∧ n ≤ 18446744073709551615) : n % 256 + n / 256 % 256 * 256 + n / 65536 % 256 * 65536 + n / 16777216 % 256 * 16777216 + n / 4294967296 % 256 * 4294967296 + n / 1099511627776 % 256 * 1099511627776 + n / 281474976710656 % 256 * 281474976710656 + n / 72057594037927936 % 256 * 72057594037927936 = n := by omega
theorem g64_pb {n : Int} (h : 0 ≤ n ∧ n ≤ 18446744073709551615) {l m t : List Int} {a : Nat} (ha : l.length = a) (e : m = l ++ (pbL n 8 ++ t)) : g64 m a = n := by
  have hx : ∀ i, i < 8 → List.getD m (a + i) 0 = List.getD (pbL n 8) i 0 := fun i hi => by
    rw [e, getD_app_r (by omega), show a + i - l.length = i by omega, getD_app_l (by rw [pbL_len]; exact hi)]
  have hd := div_mod_64 h
  unfold g64
  rw [hx 0 (by omega), hx 1 (by omega), hx 2 (by omega), hx 3 (by omega), hx 4 (by omega), hx 5 (by omega), hx 6 (by omega), hx 7 (by omega)]
  show n / 1 % 256 * 1 + n / 256 % 256 * 256 + n / 65536 % 256 * 65536 + n / 16777216 % 256 * 16777216 + n / 4294967296 % 256 * 4294967296 + n / 1099511627776 % 256 * 1099511627776 + n / 281474976710656 % 256 * 281474976710656 + n / 72057594037927936 % 256 * 72057594037927936 = n
  omega
theorem g16_pb {n : Int} (h : 0 ≤ n ∧ n ≤ 65535) {l m t : List Int} {a : Nat} (ha : l.length = a) (e : m = l ++ (pbL n 2 ++ t)) : g16 m a = n := by
  have hx : ∀ i, i < 2 → List.getD m (a + i) 0 = List.getD (pbL n 2) i 0 := fun i hi => by
    rw [e, getD_app_r (by omega), show a + i - l.length = i by omega, getD_app_l (by rw [pbL_len]; exact hi)]
  unfold g16
  rw [hx 0 (by omega), hx 1 (by omega)]
  show n / 1 % 256 * 1 + n / 256 % 256 * 256 = n
  omega
/-- the first frame of what begins with a frame -/
theorem frame_first {h : Int} {r t : List Int} (hr : r.length ≤ 4096) (hb : Byt (frL h r ++ t)) : jnN (frL h r ++ t) = r.length ∧ jnR (frL h r ++ t) = r ∧ jnH (frL h r ++ t) = hfF h r ∧ jnE (frL h r ++ t) h = 0 := by
  have hl : (frL h r ++ t).length = 10 + r.length + t.length := by unfold frL; simp only [List.length_append, pbL_len]; omega
  have hg : g16 (frL h r ++ t) 0 = ((r.length : Nat) : Int) := g16_pb (by omega) (l := []) rfl (t := r ++ pbL (hfF h r) 8 ++ t) (by unfold frL; simp only [List.append_assoc, List.nil_append])
  have hn : jnN (frL h r ++ t) = r.length := by unfold jnN; omega
  have hR : jnR (frL h r ++ t) = r := by
    unfold jnR; rw [hn]; unfold frL
    rw [List.append_assoc, List.append_assoc, List.drop_left' (pbL_len _ _), List.take_left' rfl]
  have hH : jnH (frL h r ++ t) = hfF h r := by
    unfold jnH; rw [hn]
    exact g64_pb (hfF_rng _ _) (l := pbL ((r.length : Nat) : Int) 2 ++ r) (by rw [List.length_append, pbL_len]) (t := t) (by unfold frL; simp only [List.append_assoc])
  refine ⟨hn, hR, hH, ?_⟩
  have hc := jn_cases rfl hb h
  rw [hR, hH, hn, hg] at hc
  omega
theorem frL_len (h : Int) (r : List Int) : (frL h r).length = 10 + r.length := by unfold frL; simp only [List.length_append, pbL_len]; omega
theorem frL_byt (h : Int) {r : List Int} (hr : Byt r) : Byt (frL h r) := ((pbL_byt _ _).app hr).app (pbL_byt _ _)
theorem drop_frame (h : Int) (r t : List Int) : List.drop (r.length + 10) (frL h r ++ t) = t := List.drop_left' (by rw [frL_len]; omega)
/-- reading goes on behind what was read -/
theorem jaG_app {r : List Int} (hr : r.length ≤ 4096) (hrb : Byt r) : ∀ (f : Nat) (b : List Int) (h : Int) (rs : List (List Int)) (h2 : Int), Byt b → b.length ≤ f → jaG f b h = ⟨rs, b.length, h2, 0⟩ → ∀ g, (b ++ frL h2 r).length ≤ g → jaG g (b ++ frL h2 r) h = ⟨rs ++ [r], (b ++ frL h2 r).length, hfF h2 r, 0⟩
  | f, b, h, rs, h2, hb, hf, e, g, hg => by
    by_cases h0 : b.length = 0
    · obtain rfl : b = [] := List.length_eq_zero_iff.1 h0
      rw [jaG_z rfl] at e
      injection e with e1 e2 e3 e4
      subst e1; subst e3
      rw [List.nil_append] at hg ⊢
      have hff := frame_first (h := h) (r := r) (t := []) hr (by rw [List.append_nil]; exact frL_byt h hrb)
      have hdd := drop_frame h r []
      rw [List.append_nil] at hff hdd
      rw [jaG_s (by rw [frL_len]; omega) hff.2.2.2 hg rfl, hff.1, hdd, jaG_z rfl, hff.2.1, hff.2.2.1, frL_len]
      simp only [List.nil_append, JR.mk.injEq, true_and, and_true]
      omega
    · cases f with
      | zero => omega
      | succ f =>
        by_cases h1 : jnE b h = 0
        · have hc := jn_cases rfl hb h
          have hn : jnN b + 10 ≤ b.length := by omega
          have e' := jaG_s (by omega) h1 hf rfl
          rw [e] at e'
          injection e' with e1 e2 e3 e4
          have hdl : (List.drop (jnN b + 10) b).length = b.length - (jnN b + 10) := List.length_drop
          have hrec : jaG f (List.drop (jnN b + 10) b) (jnH b) = ⟨(jaG (f + 1) (List.drop (jnN b + 10) b) (jnH b)).rs, (List.drop (jnN b + 10) b).length, h2, 0⟩ := by
            rw [jaG_fuel f (f + 1) _ _ (by omega) (by omega)]
            generalize jaG (f + 1) (List.drop (jnN b + 10) b) (jnH b) = x at e1 e2 e3 e4
            obtain ⟨a1, a2, a3, a4⟩ := x
            simp only at e1 e2 e3 e4 ⊢
            rw [← e3, ← e4, JR.mk.injEq]
            exact ⟨rfl, by omega, rfl, rfl⟩
          have ih := jaG_app hr hrb f (List.drop (jnN b + 10) b) (jnH b) _ h2 (hb.drop _) (by omega) hrec g (by rw [List.length_append] at hg ⊢; omega)
          -- the first frame is the same
          have hlen : (b ++ frL h2 r).length = b.length + (10 + r.length) := by rw [List.length_append, frL_len]
          have hbb : Byt (b ++ frL h2 r) := hb.app (frL_byt h2 hrb)
          have q16 : g16 (b ++ frL h2 r) 0 = g16 b 0 := by
            unfold g16; rw [getD_app_l (by omega), getD_app_l (by omega)]
          have qN : jnN (b ++ frL h2 r) = jnN b := by unfold jnN; rw [q16]
          have qR : jnR (b ++ frL h2 r) = jnR b := by
            unfold jnR; rw [qN, List.drop_append_of_le_length (by omega), List.take_append_of_le_length (by rw [List.length_drop]; omega)]
          have qH : jnH (b ++ frL h2 r) = jnH b := by
            unfold jnH g64; rw [qN]
            rw [getD_app_l (by omega), getD_app_l (by omega), getD_app_l (by omega), getD_app_l (by omega), getD_app_l (by omega), getD_app_l (by omega), getD_app_l (by omega), getD_app_l (by omega)]
          have qE : jnE (b ++ frL h2 r) h = 0 := by
            have hc2 := jn_cases rfl hbb h
            rw [q16, qN, qR, qH] at hc2
            omega
          rw [jaG_s (by omega) qE hg rfl, qN, qR, qH, List.drop_append_of_le_length (by omega), ih]
          rw [e1, List.length_append, hdl, frL_len]
          simp only [List.cons_append, JR.mk.injEq, true_and, and_true]
          omega
        · rw [jaG_e (by omega) h1 hf] at e
          injection e with e1 e2 e3 e4
          omega
theorem JOK.app {b : List Int} {rs : List (List Int)} {h : Int} (s : JOK b rs h) {r : List Int} (hr : r.length ≤ 4096) (hrb : Byt r) : JOK (b ++ frL h r) (rs ++ [r]) (hfF h r) :=
  ⟨jaG_app hr hrb b.length b 0 rs h s.hb (Nat.le_refl _) s.ev _ (Nat.le_refl _), s.hb.app (frL_byt h hrb)⟩
/-- what is left of a journal that was cut: whole frames -/
theorem jaG_pre : ∀ (f : Nat) (b : List Int) (h : Int) (rs : List (List Int)) (h2 : Int), Byt b → b.length ≤ f → jaG f b h = ⟨rs, b.length, h2, 0⟩ → ∀ k, k ≤ b.length → ∃ (j m : Nat) (h3 : Int), j ≤ rs.length ∧ m ≤ k ∧ (jaG k (List.take k b) h).rs = List.take j rs ∧ (jaG k (List.take k b) h).u = m ∧ (jaG k (List.take k b) h).h = h3 ∧ jaG m (List.take m b) h = ⟨List.take j rs, m, h3, 0⟩
  | f, b, h, rs, h2, hb, hf, e, k, hk => by
    by_cases h0 : b.length = 0
    · obtain rfl : b = [] := List.length_eq_zero_iff.1 h0
      exact ⟨0, 0, h, Nat.zero_le _, Nat.zero_le _, by rw [List.take_nil, jaG_z rfl]; rfl, by rw [List.take_nil, jaG_z rfl], by rw [List.take_nil, jaG_z rfl], rfl⟩
    cases f with
    | zero => omega
    | succ f =>
      by_cases h1 : jnE b h = 0
      · have hc := jn_cases rfl hb h
        have hn : jnN b + 10 ≤ b.length := by omega
        have hlk : (List.take k b).length = k := by rw [List.length_take]; omega
        by_cases hkn : jnN b + 10 ≤ k
        · have e' := jaG_s (by omega) h1 hf rfl
          rw [e] at e'
          injection e' with e1 e2 e3 e4
          have hdl : (List.drop (jnN b + 10) b).length = b.length - (jnN b + 10) := List.length_drop
          have hrec : jaG f (List.drop (jnN b + 10) b) (jnH b) = ⟨(jaG (f + 1) (List.drop (jnN b + 10) b) (jnH b)).rs, (List.drop (jnN b + 10) b).length, h2, 0⟩ := by
            rw [jaG_fuel f (f + 1) _ _ (by omega) (by omega)]
            generalize jaG (f + 1) (List.drop (jnN b + 10) b) (jnH b) = x at e1 e2 e3 e4
            obtain ⟨a1, a2, a3, a4⟩ := x
            simp only at e1 e2 e3 e4 ⊢
            rw [← e3, ← e4, JR.mk.injEq]
            exact ⟨rfl, by omega, rfl, rfl⟩
          obtain ⟨j, m, h3, i1, i2, i3, i4, i5, i6⟩ := jaG_pre f (List.drop (jnN b + 10) b) (jnH b) _ h2 (hb.drop _) (by omega) hrec (k - (jnN b + 10)) (by omega)
          have first : ∀ q, jnN b + 10 ≤ q → q ≤ b.length → jnN (List.take q b) = jnN b ∧ jnR (List.take q b) = jnR b ∧ jnH (List.take q b) = jnH b ∧ jnE (List.take q b) h = 0 ∧ List.drop (jnN b + 10) (List.take q b) = List.take (q - (jnN b + 10)) (List.drop (jnN b + 10) b) := by
            intro q hq hqb
            have q16 : g16 (List.take q b) 0 = g16 b 0 := by
              unfold g16; rw [getD_take (by omega), getD_take (by omega)]
            have qN : jnN (List.take q b) = jnN b := by unfold jnN; rw [q16]
            have qR : jnR (List.take q b) = jnR b := by
              unfold jnR; rw [qN, List.drop_take, List.take_take, Nat.min_eq_left (by omega)]
            have qH : jnH (List.take q b) = jnH b := by
              unfold jnH g64; rw [qN]
              rw [getD_take (by omega), getD_take (by omega), getD_take (by omega), getD_take (by omega), getD_take (by omega), getD_take (by omega), getD_take (by omega), getD_take (by omega)]
            refine ⟨qN, qR, qH, ?_, by rw [List.drop_take]⟩
            have hc2 := jn_cases (m := q) (by rw [List.length_take]; omega) (hb.take q) h
            rw [q16, qN, qR, qH] at hc2
            omega
          obtain ⟨p1, p2, p3, p4, p5⟩ := first k hkn hk
          have hml : m + (jnN b + 10) ≤ b.length := by omega
          obtain ⟨r1, r2, r3, r4, r5⟩ := first (m + (jnN b + 10)) (by omega) hml
          have hF : ∀ g, (List.take (k - (jnN b + 10)) (List.drop (jnN b + 10) b)).length ≤ g → jaG g (List.take (k - (jnN b + 10)) (List.drop (jnN b + 10) b)) (jnH b) = jaG (k - (jnN b + 10)) (List.take (k - (jnN b + 10)) (List.drop (jnN b + 10) b)) (jnH b) := fun g hg => jaG_fuel _ _ _ _ hg (by rw [List.length_take]; omega)
          have s1 := jaG_s (b := List.take k b) (h := h) (by omega) p4 (f := k) (by omega) rfl
          rw [p1, p2, p3, p5, hF k (by rw [List.length_take]; omega)] at s1
          refine ⟨j + 1, m + (jnN b + 10), h3, ?_, by omega, ?_, ?_, ?_, ?_⟩
          · rw [e1, List.length_cons]; omega
          · rw [s1, e1, i3]; rfl
          · rw [s1]; show jnN b + 10 + _ = _; rw [i4]; omega
          · rw [s1]; exact i5
          · have hlm : (List.take (m + (jnN b + 10)) b).length = m + (jnN b + 10) := by rw [List.length_take]; omega
            have s2 := jaG_s (b := List.take (m + (jnN b + 10)) b) (h := h) (by omega) r4 (f := m + (jnN b + 10)) (by omega) rfl
            rw [s2, r1, r2, r3, r5, Nat.add_sub_cancel, jaG_fuel (m + (jnN b + 10)) m _ _ (by rw [List.length_take]; omega) (by rw [List.length_take]; omega), i6, e1]
            simp only [List.take_succ_cons, JR.mk.injEq, true_and, and_true]
            omega
        · -- cut within the first frame
          refine ⟨0, 0, h, Nat.zero_le _, Nat.zero_le _, ?_⟩
          have hz : jaG k (List.take k b) h = ⟨[], 0, h, (jaG k (List.take k b) h).e⟩ := by
            by_cases hk0 : k = 0
            · subst hk0; rfl
            · have hne : ¬ jnE (List.take k b) h = 0 := by
                have hc2 := jn_cases hlk (hb.take k) h
                intro h9
                by_cases hk10 : k < 10
                · omega
                · have q16 : g16 (List.take k b) 0 = g16 b 0 := by
                    unfold g16; rw [getD_take (by omega), getD_take (by omega)]
                  have qN : jnN (List.take k b) = jnN b := by unfold jnN; rw [q16]
                  rw [qN] at hc2
                  omega
              rw [jaG_e (by omega) hne (by omega)]
          rw [hz]
          exact ⟨rfl, rfl, rfl, rfl⟩
      · rw [jaG_e (by omega) h1 hf] at e
        injection e with e1 e2 e3 e4
        omega
theorem JOK.pre {b : List Int} {rs : List (List Int)} {h : Int} (s : JOK b rs h) {k : Nat} (hk : k ≤ b.length) : ∃ (j : Nat) (h3 : Int), j ≤ rs.length ∧ jaU (List.take k b) ≤ k ∧ jaRs (List.take k b) = List.take j rs ∧ JOK (List.take (jaU (List.take k b)) b) (List.take j rs) h3 := by
  have hlk : (List.take k b).length = k := by rw [List.length_take]; omega
  obtain ⟨j, m, h3, i1, i2, i3, i4, i5, i6⟩ := jaG_pre b.length b 0 rs h s.hb (Nat.le_refl _) s.ev k hk
  have hv : jaV (List.take k b) = jaG k (List.take k b) 0 := by unfold jaV; rw [hlk]
  have hu : jaU (List.take k b) = m := by unfold jaU; rw [hv]; exact i4
  refine ⟨j, h3, i1, by omega, by unfold jaRs; rw [hv]; exact i3, ?_⟩
  rw [hu]
  have hlm : (List.take m b).length = m := by rw [List.length_take]; omega
  exact ⟨by unfold jaV; rw [hlm]; exact i6, s.hb.take _⟩
/-! records out of a deck -/
def rcA (l : List Int) (a : Nat) : Nat → Nat
  | 0 => a
  | k + 1 => dkA l (rcA l a k)
def rcL (l : List Int) (a : Nat) : Nat → List Int
  | 0 => []
  | k + 1 => rcL l a k ++ [((dkN l (rcA l a k) 256 : Nat) : Int)]
theorem rcA_le {l : List Int} {a m : Nat} (hm : l.length = m) (h : a ≤ m) : ∀ k, rcA l a k ≤ m
  | 0 => h
  | k + 1 => dkA_le hm (rcA_le hm h k)
theorem rcL_len (l : List Int) (a : Nat) : ∀ k, (rcL l a k).length = k
  | 0 => rfl
  | k + 1 => by show (rcL l a k ++ [_]).length = _; rw [List.length_append, rcL_len l a k]; rfl
theorem rcL_byt (l : List Int) (a : Nat) : ∀ k, Byt (rcL l a k)
  | 0 => Byt.nil
  | k + 1 => (rcL_byt l a k).app (Byt.cons (by have := dkN_lt l (rcA l a k) (n := 256) (by omega); omega) Byt.nil)
def mdA (l : List Int) : Nat → Nat
  | 0 => dkA l 0
  | i + 1 => rcA l (dkA l (mdA l i)) (dkN l (mdA l i) 20)
def mdX (l : List Int) (i : Nat) : List Int := rcL l (dkA l (mdA l i)) (dkN l (mdA l i) 20)
def mdR (l : List Int) : Nat → List (List Int)
  | 0 => []
  | i + 1 => mdR l i ++ [mdX l i]
def mdH (l : List Int) : Nat → Int
  | 0 => 0
  | i + 1 => hfF (mdH l i) (mdX l i)
def mdB (l : List Int) : Nat → List Int
  | 0 => []
  | i + 1 => mdB l i ++ frL (mdH l i) (mdX l i)
theorem mdA_le {l : List Int} {m : Nat} (hm : l.length = m) : ∀ i, mdA l i ≤ m
  | 0 => dkA_le hm (Nat.zero_le _)
  | i + 1 => rcA_le hm (dkA_le hm (mdA_le hm i)) _
theorem mdX_len (l : List Int) (i : Nat) : (mdX l i).length ≤ 19 := by
  unfold mdX; rw [rcL_len]; have := dkN_lt l (mdA l i) (n := 20) (by omega); omega
theorem mdJ (l : List Int) : ∀ i, JOK (mdB l i) (mdR l i) (mdH l i)
  | 0 => JOK.nil
  | i + 1 => (mdJ l i).app (by have := mdX_len l i; omega) (rcL_byt _ _ _)
theorem mdB_len (l : List Int) : ∀ i, (mdB l i).length ≤ 29 * i
  | 0 => Nat.le_refl _
  | i + 1 => by
    show (mdB l i ++ frL _ _).length ≤ _
    rw [List.length_append, frL_len]; have := mdX_len l i; have := mdB_len l i; omega
theorem mdB_s (l : List Int) (i : Nat) : (mdB l (i + 1)).length = (mdB l i).length + (10 + dkN l (mdA l i) 20) := by
  show (mdB l i ++ frL _ _).length = _
  rw [List.length_append, frL_len]; unfold mdX; rw [rcL_len]
theorem mdR_len (l : List Int) : ∀ i, (mdR l i).length = i
  | 0 => rfl
  | i + 1 => by show (mdR l i ++ [_]).length = _; rw [List.length_append, mdR_len l i]; rfl
theorem mdR_byt (l : List Int) : ∀ i, BytL (mdR l i)
  | 0 => BytL.nil
  | i + 1 => (mdR_byt l i).snoc (rcL_byt _ _ _)
theorem mdH_rng (l : List Int) : ∀ i, 0 ≤ mdH l i ∧ mdH l i ≤ 18446744073709551615
  | 0 => by show (0 : Int) ≤ 0 ∧ (0 : Int) ≤ _; omega
  | i + 1 => hfF_rng _ _
/-! lists of bytes compared -/
def sameB (xs ys : List (List Int)) : Bool := decide (xs = ys)
theorem sameB_rfl (xs : List (List Int)) : sameB xs xs = true := decide_eq_true rfl
theorem sameB_n {xs ys : List (List Int)} (h : ¬ xs.length = ys.length) : sameB xs ys = false := decide_eq_false (fun e => h (by rw [e]))
theorem sameB_x {xs ys : List (List Int)} {k : Nat} (h : ¬ List.getD xs k [] = List.getD ys k []) : sameB xs ys = false := decide_eq_false (fun e => h (by rw [e]))
theorem sameB_y {xs ys : List (List Int)} (h : xs.length = ys.length) (h2 : ∀ j, j < xs.length → List.getD xs j [] = List.getD ys j []) : sameB xs ys = true := decide_eq_true (by
  apply List.ext_getElem h
  intro i h3 h4
  have := h2 i h3
  rwa [List.getD_eq_getElem?_getD, List.getD_eq_getElem?_getD, List.getElem?_eq_getElem h3, List.getElem?_eq_getElem h4] at this)
theorem jaG_kn : ∀ (f : Nat) (b : List Int) (h : Int), (jaG f b h).rs.length ≤ f
  | 0, _, _ => Nat.zero_le _
  | f + 1, b, h => by
    unfold jaG
    split
    · exact Nat.zero_le _
    · split
      · show (_ :: _).length ≤ _
        rw [List.length_cons]; have := jaG_kn f (List.drop (jnN b + 10) b) (jnH b); omega
      · exact Nat.zero_le _
theorem ja_kn {b : List Int} {m : Nat} (hm : b.length = m) (_ : Byt b) : (jaRs b).length ≤ m := by
  subst hm; exact jaG_kn _ _ _

end Go.Proofs.Ytfhfehpbelelkaa
